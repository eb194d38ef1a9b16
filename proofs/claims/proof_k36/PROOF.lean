import PyProof.Rows.All
import Wide.All
import OpenK.AllK
import Wide.FinOn
import HandS.ForMost
import HandS.Style
import HandS.Conv
import HandS.DictComp
import HandS.Evl
import HandS.SortRule
import KE.KDictPairs
import HandS.SetKeys
import HandS.Walk
import HandS.IsInst
import KE.SortKeyHeap
import HandS.FromBytesMap
import HandS.SortKw
import KE.DataCmp
import HandS.SetFor
import HandS.More
import HandS.Set
import HandS.ListItems
import KE.KDictList
import HandS.Nested
import KE.KMinKey
import HandS.ExcInit
import HandS.ExcField
import KE.KExcInit
import HandS.WordsExc
import HandS.TupAny
import KE.KNestM
import HandS.EndTab
import PySem.Challenge.RW_mastcalls_k36_whole_buying
set_option Elab.async false
set_option maxRecDepth 100000
set_option maxHeartbeats 4000000
namespace Mc
open PySem L2 PySem.Spec PyProof.Rows
/-! rules that the layer lacks -/
theorem get_list {X : Cx} : PGet X (rIxL X.K) := by
  intro pins s σ H o i ov iv Q I ro ri h
  obtain ⟨p, xs, k, v, rfl, rfl, hs, hv, q⟩ := h
  cases ro
  obtain ⟨t, rfl⟩ := ri
  obtain ⟨its, r, pl, hz⟩ := I.list hs
  obtain ⟨j, h1, h2, h3, h4, h5⟩ := atI_get hv
  obtain ⟨w, ew, rw'⟩ := r.get h2
  have hl := r.length
  have hn := line63
  have fin : EP X pins σ Q w s := ⟨v, H, I, rw', q⟩
  by_cases h0 : 0 ≤ k
  · have hj : k.toNat = j := by
      rw [seqIndex_of h0 h5] at h1
      exact Option.some.inj h1
    exact wpAny_getItem_list pl.isList h0 (by omega) (by rw [hj]; simpa using ew) fin
  · have hj : (k + (its.toArray.size : Int)).toNat = j := by
      rw [seqIndex_neg (by omega) h4] at h1
      rw [List.size_toArray, ← hl]
      exact Option.some.inj h1
    exact wpAny_getItem_list_neg pl.isList (by omega) (by rw [List.size_toArray] <;> omega) (by omega) (by rw [hj]; simpa using ew) fin

/-! ### a heap that is kept but for some objects -/
def Kp (M : List Addr) (H H' : Hp) : Prop := ∀ b o, H b = some o → b ∉ M → H' b = some o
theorem Kp.refl (M : List Addr) (H : Hp) : Kp M H H := fun _ _ h _ => h
theorem Kp.trans {M : List Addr} {H H1 H2 : Hp} (a : Kp M H H1) (b : Kp M H1 H2) : Kp M H H2 := fun c o h n => b c o (a c o h n) n
theorem Kp.mono {M N : List Addr} {H H' : Hp} (k : Kp M H H') (h : ∀ b ∈ M, b ∈ N) : Kp N H H' := fun b o e n => k b o e fun z => n (h b z)
theorem Kp.new {M : List Addr} {p : Addr} {H : Hp} {o : HO} (h : H p = none) : Kp M H (upd H p o) := fun b u e _ => by
  rw [upd_ne (ne_of_none e h)]
  exact e
theorem Kp.at {M : List Addr} {d : Addr} {H : Hp} {o : HO} (h : d ∈ M) : Kp M H (upd H d o) := fun b u e n => by
  rw [upd_ne fun z => n (by rw [z]; exact h)]
  exact e
theorem Kp.same {M : List Addr} {H H' : Hp} (h : Same H H') : Kp M H H' := fun b o e _ => h b o e
/-- nothing tracked is lost -/
def Lv (H H' : Hp) : Prop := ∀ b, H' b = none → H b = none
theorem Kp.live {M : List Addr} {H H' : Hp} (k : Kp M H H') (h : ∀ d ∈ M, ∃ o, H' d = some o) {p : Addr} (e : H' p = none) : H p = none := by
  cases q : H p with
  | none => rfl
  | some u =>
    by_cases n : p ∈ M
    · obtain ⟨o, z⟩ := h p n
      rw [z] at e; cases e
    · rw [k p u q n] at e; cases e
/-- what was not there may be changed freely -/
theorem Kp.drop {M : List Addr} {p : Addr} {H H' : Hp} (k : Kp (p :: M) H H') (h : H p = none) : Kp M H H' := fun b o e n => k b o e fun z => by
  rcases List.mem_cons.mp z with rfl | z
  · rw [h] at e; cases e
  · exact n z

/-- the draw stands at d: the script, and how many were drawn; M: all that may be changed -/
structure Dr (K : PySem.W.Frag) (M : List Addr) (d a : Addr) (H : Hp) : Prop where
  at_ : ∃ k : Int, H d = some (.lst [.ref a, .int k])
  mem : d ∈ M
  sc : ∃ ns : List Int, ns.length ≤ 63 ∧ ∀ H', Kp M H H' → SqL K H' a (ns.map V.int)
section
variable {K : PySem.W.Frag} {M : List Addr} {d a : Addr} {H H' : Hp}
theorem Dr.keep (D : Dr K M d a H) (k : Kp M H H') (e : ∀ o, H d = some o → H' d = some o) : Dr K M d a H' := by
  obtain ⟨⟨k0, h⟩, m, ns, hl, hs⟩ := D
  exact ⟨⟨k0, e _ h⟩, m, ns, hl, fun H2 k2 => hs H2 (k.trans k2)⟩
theorem Dr.same (D : Dr K M d a H) (k : Same H H') : Dr K M d a H' := D.keep (Kp.same k) fun o h => k _ o h
theorem Dr.new {p : Addr} {o : HO} (D : Dr K M d a H) (h : H p = none) : Dr K M d a (upd H p o) := D.same fun b u e => by rw [upd_ne (ne_of_none e h)]; exact e
theorem Dr.next (D : Dr K M d a H) (k : Kp M H H') {j : Int} (h : H' d = some (.lst [.ref a, .int j])) : Dr K M d a H' := by
  obtain ⟨_, m, ns, hl, hs⟩ := D
  exact ⟨⟨j, h⟩, m, ns, hl, fun H2 k2 => hs H2 (k.trans k2)⟩
/-- one more object may be changed, that was not there -/
theorem Dr.grow {p : Addr} (D : Dr K M d a H) (h : H p = none) : Dr K (p :: M) d a H := by
  obtain ⟨k0, m, ns, hl, hs⟩ := D
  exact ⟨k0, List.mem_cons_of_mem _ m, ns, hl, fun H2 k2 => hs H2 (k2.drop h)⟩
/-- fewer may be changed -/
theorem Dr.sub {N : List Addr} (D : Dr K M d a H) (h : ∀ b ∈ N, b ∈ M) (hd : d ∈ N) : Dr K N d a H := by
  obtain ⟨k0, _, ns, hl, hs⟩ := D
  exact ⟨k0, hd, ns, hl, fun H2 k2 => hs H2 (k2.mono h)⟩
/-- a draw made of the script -/
theorem Dr.mk' {ns : List Int} {j : Int} (hs : SqL K H a (ns.map V.int)) (hl : ns.length ≤ 63) (hd : H d = none) : Dr K [d] d a (upd H d (.lst [.ref a, .int j])) := by
  refine ⟨⟨j, upd_same⟩, List.mem_singleton.mpr rfl, ns, hl, fun H' k => ?_⟩
  have ne : ∀ {o}, H a = some o → a ∉ [d] := fun h z => ne_of_none h hd (List.mem_singleton.mp z)
  rcases hs with (h | ⟨o, h⟩) | h
  · exact .inl (.inl (k a _ (by rw [upd_ne (ne_of_none h hd)]; exact h) (ne h)))
  · exact .inl (.inr ⟨o, k a _ (by rw [upd_ne (ne_of_none h hd)]; exact h) (ne h)⟩)
  · exact .inr h
end

theorem rel_int {i : Int} {t : Tok} : RelV (.int i) (.int i t) := ⟨t, rfl⟩
theorem rel_str {x : PySem.Str} {t : Tok} : RelV (.str x) (.str x t) := ⟨t, rfl⟩
/-! ### rules for a comprehension's block: K by its name -/
section
variable {X : Cx} {K : PySem.W.Frag} {e : Expr} {f : PySem.Str} {pos : Pos} {ta : TE}
theorem pe_fldK (h : X.K = K) (he : PE X e ta) (hb : attributeBase e f X.env (eval e X.env) = eval e X.env) : PE X (.Attribute e f pos) (tFld K ta f) := by
  subst h
  exact pe_fld he hb
theorem ix_listK (h : X.K = K) : IxR X (rIxL K) := by
  subst h
  exact ix_list
theorem ix_tupK (h : X.K = K) : IxR X (rIxT K) := by
  subst h
  exact ix_tup
theorem sl_listK (h : X.K = K) : SlR X (rSlL K) := by
  subst h
  exact sl_list
theorem call_len_seqK (h : X.K = K) : CallR X (.builtin "len") (fun xs H Q => ∃ p ys, xs = [.ref p] ∧ (SqL K H p ys ∨ SqT K H p ys) ∧ Q (.int ys.length) H) := by
  subst h
  exact call_len_seq
theorem op_eqDK (h : X.K = K) (hu : X.A.units + 64 < cLine) : OpR X (compareOp .Eq) (rEqD K) := by
  subst h
  exact op_eqD hu
theorem op_neDK (h : X.K = K) (hu : X.A.units + 64 < cLine) : OpR X (compareOp .NotEq) (rNeD K) := by
  subst h
  exact op_neD hu
theorem pe_tupleOfK (h : X.K = K) {a : Expr} {p pos : Pos} (hg : Gl X "tuple") (hm : X.mg "tuple" = none) (ha : PE X a ta) (na : starEach [a] X.env = (false, eval a X.env) :: starEach [] X.env := by rfl) :
    PE X (.Call (.Name "tuple" p) [a] [] pos) (tThen ta (kTup K)) := by
  subst h
  exact pe_tupleOf hg hm ha na
end
/-! ### defs, methods, classes: what a caller needs -/
/-- a def of the module keeps its promise -/
def Cal (P : Program) (w : World) (K : PySem.W.Frag) (mg : PySem.Str → Option Value) (base : Heap) (k : Nat) (x : PySem.Str) (ps : List PySem.Str) (sp : Sp) : Prop :=
  ∃ (f : Addr) (fd : FuncData), mg x = some (.ref f) ∧ PySem.W.keepIn K (.ref f) = true ∧ Binds K fd ps [] ∧ FnOk P w K mg base CX0 k f fd ps sp
/-- a method of the class at C -/
def CalM (P : Program) (w : World) (K : PySem.W.Frag) (mg : PySem.Str → Option Value) (base : Heap) (C : Addr) (k : Nat) (m : PySem.Str) (ps : List PySem.Str) (sp : Sp) : Prop :=
  ∃ (f : Addr) (fd : FuncData), Meth K C m f ∧ Binds K fd ps [] ∧ FnOk P w K mg base CX0 k f fd ps sp
/-- the class of that name, made by its __init__ -/
def CalI (P : Program) (w : World) (K : PySem.W.Frag) (mg : PySem.Str → Option Value) (base : Heap) (C : Addr) (k : Nat) (x : PySem.Str) (ps : List PySem.Str) (sp : Sp) : Prop :=
  ∃ (f : Addr) (fd : FuncData), mg x = some (.ref C) ∧ Mk K C f ∧ Binds K fd ps [] ∧ FnOk P w K mg base CX0 k f fd ps sp
section
variable {X : Cx} {k : Nat} {x m : PySem.Str} {ps : List PySem.Str} {sp : Sp} {C : Addr} {p pos apos : Pos} {e o : Expr} {es : List Expr} {t : TA} {ta : TE}
theorem pe_cal (c : Cal X.prog X.w X.K X.mg X.base k x ps sp) (hr : Room k X.A) (hg : Gl X x) (ha : PA X (e :: es) t) (hdb : (x == ("__debug__" : PySem.Str)) = false := by decide)
    (he : starEach (e :: es) X.env = (false, eval e X.env) :: starEach es X.env := by rfl) (hpl : (backTo pos (starEach es X.env)).any (·.1) = false := by rfl) : PE X (.Call (.Name x p) (e :: es) [] pos) (tCall sp [] E0 t) := by
  obtain ⟨f, fd, hm, hk, hb, F⟩ := c
  exact pe_call F hr hg hm hk hb .nil pass0 ha hdb he hpl
theorem pe_cal0 (c : Cal X.prog X.w X.K X.mg X.base k x ps sp) (hr : Room k X.A) (hg : Gl X x) (hdb : (x == ("__debug__" : PySem.Str)) = false := by decide) : PE X (.Call (.Name x p) [] [] pos) (tCall sp [] E0 tNil) := by
  obtain ⟨f, fd, hm, hk, hb, F⟩ := c
  exact pe_call0 F hr hg hm hk hb .nil pass0 hdb
theorem pe_calM {pl : Sem Bool} (he : PE X o ta) (cl : Cls X.K C) (c : CalM X.prog X.w X.K X.mg X.base C k m ps sp) (hr : Room k X.A) (ha : PA X (e :: es) t)
    (hst : starEach (e :: es) X.env = (false, eval e X.env) :: starEach es X.env := by rfl) (hpl : (backTo pos (starEach es X.env)).any (·.1) = false := by rfl)
    (ht : eval (.Call (.Attribute o m apos) (e :: es) [] pos) X.env = (do
      let ov ← eval o X.env
      standAt apos.atName
      let (f, first) ← holding [ov] (getMethod ov m pl)
      callWith pos f first (backTo pos (starEach (e :: es) X.env)) (backToKw pos (keywordEach [] X.env))) := by rfl) :
    PE X (.Call (.Attribute o m apos) (e :: es) [] pos) (tMeth C m sp [] E0 ta t) := by
  obtain ⟨f, fd, hm, hb, F⟩ := c
  exact pe_meth he cl hm F hr hb .nil pass0 ha hst hpl ht
theorem pe_calM0 {pl : Sem Bool} (he : PE X o ta) (cl : Cls X.K C) (c : CalM X.prog X.w X.K X.mg X.base C k m ps sp) (hr : Room k X.A)
    (ht : eval (.Call (.Attribute o m apos) [] [] pos) X.env = (do
      let ov ← eval o X.env
      standAt apos.atName
      let (f, first) ← holding [ov] (getMethod ov m pl)
      callWith pos f first (backTo pos (starEach [] X.env)) (backToKw pos (keywordEach [] X.env))) := by rfl) :
    PE X (.Call (.Attribute o m apos) [] [] pos) (tMeth C m sp [] E0 ta tNil) := by
  obtain ⟨f, fd, hm, hb, F⟩ := c
  exact pe_meth0 he cl hm F hr hb .nil pass0 ht
theorem pe_calI (c : CalI X.prog X.w X.K X.mg X.base C k x ps sp) (hr : Room (k + 1) X.A) (hg : Gl X x) (ha : PA X (e :: es) t) (hdb : (x == ("__debug__" : PySem.Str)) = false := by decide)
    (he : starEach (e :: es) X.env = (false, eval e X.env) :: starEach es X.env := by rfl) (hpl : (backTo pos (starEach es X.env)).any (·.1) = false := by rfl) : PE X (.Call (.Name x p) (e :: es) [] pos) (tMake C sp [] E0 t) := by
  obtain ⟨f, fd, hm, M, hb, F⟩ := c
  exact pe_make M F hr hg hm hb .nil pass0 ha hdb he hpl
theorem pe_calI0 (c : CalI X.prog X.w X.K X.mg X.base C k x ps sp) (hr : Room (k + 1) X.A) (hg : Gl X x) (hdb : (x == ("__debug__" : PySem.Str)) = false := by decide) : PE X (.Call (.Name x p) [] [] pos) (tMake C sp [] E0 tNil) := by
  obtain ⟨f, fd, hm, M, hb, F⟩ := c
  exact pe_make0 M F hr hg hm hb .nil pass0 hdb
end
/-! ### data of ints -/
def pdI (ns : List Int) : PyData := .list (ns.map PyData.int)
theorem dpAll_ints (K : PySem.W.Frag) (H : Hp) : ∀ ns : List Int, DpAll K H (ns.map V.int) (ns.map PyData.int)
  | [] => .nil
  | n :: ns => .cons (.int n) (dpAll_ints K H ns)
theorem dp_ints {K : PySem.W.Frag} {H : Hp} {a : Addr} {ns : List Int} (h : SqL K H a (ns.map V.int)) : Dp K H (.ref a) (pdI ns) := .lst h (dpAll_ints K H ns)
theorem canLay_ints : ∀ ns : List Int, PyData.canLayAll0 (ns.map PyData.int) = true
  | [] => rfl
  | n :: ns => by
    show (PyData.canLay0 (.int n) && PyData.canLayAll0 (ns.map PyData.int)) = true
    rw [canLay_ints ns]
    rfl
theorem depth_ints : ∀ ns : List Int, PyData.depthAll (ns.map PyData.int) = 0
  | [] => rfl
  | n :: ns => by
    show max (PyData.depth (.int n)) (PyData.depthAll (ns.map PyData.int)) = 0
    rw [depth_ints ns]
    rfl
theorem shaped_ints (ns : List Int) : SeqAt.shaped (pdI ns) = true := by
  have h : PyData.depth (pdI ns) = PyData.depthAll (ns.map PyData.int) + 1 := by unfold pdI; rw [PyData.depth]
  unfold SeqAt.shaped
  rw [h, depth_ints]
  have h2 : (pdI ns).canLay0 = true := by unfold pdI; rw [PyData.canLay0]; exact canLay_ints ns
  rw [h2]
  rfl
theorem eqvAll_ints : ∀ ns ms : List Int, PyData.eqvAll (ns.map PyData.int) (ms.map PyData.int) = decide (ns = ms)
  | [], [] => rfl
  | [], m :: ms => by simp [PyData.eqvAll]
  | n :: ns, [] => by simp [PyData.eqvAll]
  | n :: ns, m :: ms => by
    show (PyData.eqv (.int n) (.int m) && PyData.eqvAll (ns.map PyData.int) (ms.map PyData.int)) = _
    rw [eqvAll_ints ns ms]
    have : PyData.eqv (.int n) (.int m) = (n == m) := by rw [PyData.eqv]
    rw [this]
    by_cases h : n = m <;> simp [h]
theorem eqv_ints (ns ms : List Int) : PyData.eqv (pdI ns) (pdI ms) = decide (ns = ms) := by
  unfold pdI
  rw [PyData.eqv]
  exact eqvAll_ints ns ms
end Mc
namespace Mc
open PySem PySem.Spec PyProof.Rows SrtO
/-! ### sorted of pairs of a text and an int, out of a list or a tuple -/
def IsPairS (h : Heap) (v : Value) (x : PySem.Str) (y : Int) : Prop := ∃ a o t u n, v = .ref a ∧ h.get? a = some o ∧ o.cls = .type "tuple" ∧ o.data = .seq #[.str x t, .int y u] n
theorem IsPairS.keeps {h h' : Heap} {v : Value} {x : PySem.Str} {y : Int} (p : IsPairS h v x y) (k : ∀ b o, h.get? b = some o → o.cls = .type "tuple" → h'.get? b = some o) : IsPairS h' v x y := by
  obtain ⟨a, o, t, u, n, e, ho, hc, hd⟩ := p
  exact ⟨a, o, t, u, n, e, k _ _ ho hc, hc, hd⟩
def lexS (p q : PySem.Str × Int) : Bool := if p.1 = q.1 then decide (p.2 < q.2) else decide (p.1.cps.toList < q.1.cps.toList)
theorem str_ext {a b : PySem.Str} (h : a.cps.toList = b.cps.toList) : a = b := by
  obtain ⟨x⟩ := a
  obtain ⟨y⟩ := b
  have : x = y := by simpa using congrArg List.toArray h
  rw [this]
theorem swo_lexS {α : Type} (k : α → PySem.Str × Int) : Swo fun v u => lexS (k v) (k u) := by
  have irr : ∀ l : List Nat, ¬ l < l := fun l => List.lt_irrefl l
  refine ⟨fun x y h => ?_, fun x y z h1 h2 => ?_⟩
  · unfold lexS at h ⊢
    by_cases e : (k x).1 = (k y).1
    · rw [if_pos e, decide_eq_true_eq] at h
      rw [if_pos e.symm, decide_eq_false_iff_not]
      omega
    · rw [if_neg e, decide_eq_true_eq] at h
      rw [if_neg (Ne.symm e), decide_eq_false_iff_not]
      exact fun z => irr _ (List.lt_trans h z)
  · unfold lexS at h1 h2 ⊢
    generalize (k x).1 = a at *
    generalize (k y).1 = b at *
    generalize (k z).1 = c at *
    by_cases e1 : b = a
    · subst e1
      rw [if_pos rfl, decide_eq_false_iff_not] at h1
      by_cases e2 : c = b
      · subst e2
        rw [if_pos rfl, decide_eq_false_iff_not] at h2
        rw [if_pos rfl, decide_eq_false_iff_not]
        omega
      · rw [if_neg e2] at h2
        rw [if_neg e2]
        exact h2
    · rw [if_neg e1, decide_eq_false_iff_not] at h1
      by_cases e2 : c = b
      · subst e2
        rw [if_neg e1, decide_eq_false_iff_not]
        exact h1
      · rw [if_neg e2, decide_eq_false_iff_not] at h2
        have l1 : a.cps.toList ≤ b.cps.toList := List.not_lt.mp h1
        have l2 : b.cps.toList ≤ c.cps.toList := List.not_lt.mp h2
        by_cases e3 : c = a
        · subst e3
          exact absurd (str_ext (List.le_antisymm l2 l1)) e1
        · rw [if_neg e3, decide_eq_false_iff_not]
          exact List.not_lt.mpr (List.le_trans l1 l2)
section
variable {prog : Program} {w : World} {A : Around} {E : Value → Shared → Prop} {s : Shared}
theorem pairS_cmp {vs : List Value} {k : Value → PySem.Str × Int} (hp : ∀ v ∈ vs, IsPairS s.heap v (k v).1 (k v).2) : Cmp prog w A s (tuples' true) (fun p => p.1 ∈ vs) (lt2 fun v u => lexS (k v) (k u)) := by
  intro p q hm hm'
  have h1 := hp _ hm
  have h2 := hp _ hm'
  show wpAny (model prog w) A (keyLt' (tuples' true) p.1 q.1) (fun r s' => s' = s ∧ r = lexS (k p.1) (k q.1)) (fun _ _ => False) s
  unfold lexS
  generalize (k p.1).1 = x at h1 ⊢
  generalize (k p.1).2 = y at h1 ⊢
  generalize (k q.1).1 = x' at h2 ⊢
  generalize (k q.1).2 = y' at h2 ⊢
  obtain ⟨a, o, t, u, n, e, ho, hc, hd⟩ := h1
  obtain ⟨a', o', t', u', n', e', ho', hc', hd'⟩ := h2
  rw [e, e']
  refine PySem.W.kat_lt ho hd ho' hd' ?_
  show PySem.W.KatLex prog w A true (decide (2 < 2)) _ [(.str x t, .str x' t'), (.int y u, .int y' u')] 0 s
  refine PySem.W.kat_cons (SeqAt.EqAt.str_str x t x' t' prog w _ _ ?_)
  refine PySem.W.kat_go (fun e1 => ?_) (fun e1 => ?_)
  · have ex : x = x' := by simpa using e1
    refine PySem.W.kat_yes (PySem.W.kat_cons (SeqAt.EqAt.int_int y u y' u' prog w _ _ ?_))
    refine PySem.W.kat_go (fun e2 => ?_) (fun e2 => ?_)
    · have ey : y = y' := by simpa using e2
      have e3 : (if x = x' then decide (y < y') else decide (x.cps.toList < x'.cps.toList)) = false := by
        rw [if_pos ex, ey]
        exact decide_eq_false (Int.lt_irrefl _)
      exact PySem.W.kat_yes (PySem.W.kat_nil ⟨rfl, e3.symm⟩)
    · have e3 : (if x = x' then decide (y < y') else decide (x.cps.toList < x'.cps.toList)) = decide (y < y') := if_pos ex
      refine PySem.W.kat_no (PySem.W.kat_one _ _ (PyProof.Rows.lt_int ?_))
      exact (show s = s ∧ decide (y < y') = (if x = x' then decide (y < y') else decide (x.cps.toList < x'.cps.toList)) from ⟨rfl, e3.symm⟩)
  · have ex : ¬ x = x' := by simpa using e1
    have e3 : (if x = x' then decide (y < y') else decide (x.cps.toList < x'.cps.toList)) = decide (x.cps.toList < x'.cps.toList) := if_neg ex
    exact PySem.W.kat_no (oneLt_str ⟨rfl, e3.symm⟩)
theorem firstsS_of {h : Heap} : ∀ {vs : List Value}, (∀ v ∈ vs, ∃ x y, IsPairS h v x y) → ∃ fs : List Value, PySem.W.KatTups h vs fs ∧ fs.length = vs.length ∧ ∀ f ∈ fs, ∃ x t, f = Value.str x t
  | [], _ => ⟨[], PySem.W.KatTups.nil, rfl, fun _ hm => by simp at hm⟩
  | v :: vs, hp => by
    obtain ⟨fs, h1, h2, h3⟩ := firstsS_of (vs := vs) fun v' hm => hp v' (List.mem_cons_of_mem _ hm)
    obtain ⟨x, y, a, o, t, u, n, e, ho, hc, hd⟩ := hp v (List.mem_cons_self ..)
    subst e
    refine ⟨.str x t :: fs, PySem.W.KatTups.cons ho hc hd rfl h1, by rw [List.length_cons, List.length_cons, h2], fun f hm => ?_⟩
    rcases List.mem_cons.mp hm with rfl | hm
    · exact ⟨x, t, rfl⟩
    · exact h3 f hm
theorem pairsS_sortable {a : Addr} {vs : List Value} {k : Value → PySem.Str × Int} (h0 : 0 < vs.length) (hp : ∀ v ∈ vs, IsPairS s.heap v (k v).1 (k v).2) (ha : ∀ o, s.heap.get? a = some o → o.cls ≠ .type "tuple") : SortableO prog w A s a vs fun v u => lexS (k v) (k u) := by
  intro h' keep
  have hp' : ∀ v ∈ vs, IsPairS h' v (k v).1 (k v).2 := fun v hm => (hp v hm).keeps fun b o e c => keep b o (fun z => by subst z; exact ha o e c) e
  obtain ⟨fs, h1, h2, h3⟩ := firstsS_of fun v hm => ⟨_, _, hp' v hm⟩
  refine ⟨tuples' true, fun Q E hq => ?_, pairS_cmp hp'⟩
  refine PySem.W.kat_kind (T := .type "str") h1 (by omega) (fun f hm => ?_) (by rfl) ?_
  · obtain ⟨x, t, rfl⟩ := h3 f hm
    exact PySem.W.Looks.now
  · have e : (Value.type "str" != Value.type "tuple") = true := by first | decide +kernel | rfl | decide
    rw [e]
    exact hq
/-- what a tuple gives out, told with the heap behind -/
theorem collect_tupE {it : Addr} {o : Obj} {vs : List Value} {n : Nat} {Q : List Value → Shared → Prop} (ho : s.heap.get? it = some o) (hc : o.cls = .type "tuple") (hd : o.data = .seq vs.toArray n) (hz : vs.length ≤ sizeLine)
    (hQ : Q vs { s with heap := (s.heap.push (seqObj "list" #[] 0)).update s.heap.objs.size (Obj.mapSeq (· ++ vs.toArray)) }) : wpAny (model prog w) A (collect (.ref it)) Q E s := by
  have hz' : vs.toArray.size ≤ sizeLine := by rw [List.size_toArray]; exact hz
  have h0 : (s.heap.push (seqObj "list" #[] 0)).get? s.heap.objs.size = some { cls := .type "list", data := .seq #[] 0 } := Heap.get?_push_size _ rfl
  have h1 := Heap.get?_update_self (Obj.mapSeq (· ++ vs.toArray)) h0 rfl
  unfold collect
  refine wpAny_bind (wpAny_runValue (codeAny_builtin F.entry_proto_collect ?_))
  rw [Around.under_plainId F.plain_proto_collect _]
  refine wpAny_bind (m := newList []) (wpAny_newList ?_ (Nat.zero_le _))
  refine wpAny_pure ⟨plainId_quiet F.plain_list_iadd _, codeAny_builtin F.entry_list_iadd ?_⟩
  rw [Around.under_plainId F.plain_list_iadd _]
  have last : wpAny (model prog w) A (load s.heap.objs.size >>= fun o => match o.data with | .seq xs _ => pure xs.toList | _ => unsupported "internal:collect") Q E { s with heap := (s.heap.push (seqObj "list" #[] 0)).update s.heap.objs.size (Obj.mapSeq (· ++ vs.toArray)) } := by
    refine wpAny_bind (wpAny_load h1 (wpAny_pure ?_))
    have e : ((#[] : Array Value) ++ vs.toArray).toList = vs := by simp
    show Q ((#[] : Array Value) ++ vs.toArray).toList _
    rw [e]
    exact hQ
  refine wpAny_mono (wpAny_extend_seq (hsz := hz') (A := A) (R := fun r s' => r = .ok (.ret (.ref s.heap.objs.size)) ∧ s' = { s with heap := (s.heap.push (seqObj "list" #[] 0)).update s.heap.objs.size (Obj.mapSeq (· ++ vs.toArray)) })
    (s := { s with heap := s.heap.push (seqObj "list" #[] 0) }) _ it _ 0 (.inr rfl) h0 (Heap.get?_push_of_some _ ho) hc hd ⟨rfl, rfl⟩) (fun fin s' h => ?_) (fun e s' h => absurd h.1 (by simp))
  cases fin with
  | done f =>
    obtain ⟨e, rfl⟩ := h
    cases e
    exact last
  | again c' => exact ⟨h.1, codeAny_mono h.2 fun r s'' hr => by obtain ⟨rfl, rfl⟩ := hr; exact last⟩
/-- sorted(t), t a tuple of such pairs -/
theorem sorted_pairsS {it : Addr} {o : Obj} {vs : List Value} {n : Nat} {k : Value → PySem.Str × Int} {Q : Value → Shared → Prop} (ho : s.heap.get? it = some o) (hc : o.cls = .type "tuple") (hd : o.data = .seq vs.toArray n)
    (hz : vs.length ≤ sizeLine) (hp : ∀ v ∈ vs, IsPairS s.heap v (k v).1 (k v).2)
    (h : ∀ (h' : Heap) (d : Addr) (out : List Value), Srtd (fun v u => lexS (k v) (k u)) out → Stb (fun v u => lexS (k v) (k u)) out vs → (∀ b o, s.heap.get? b = some o → h'.get? b = some o) → s.heap.objs.size ≤ d → (∃ n, h'.get? d = some (seqObj "list" out.toArray n)) → Q (.ref d) { s with heap := h' }) :
    wpAny (model prog w) A (call (.builtin "sorted") [.ref it]) Q E s := by
  refine Calls.call_function_entry kind_sorted plain_sorted entry_sorted (args_sorted1 _) ?_
  unfold Builtin.«sorted»
  refine wpAny_bind (m := checkCount "sorted" 1 1 _) (wpAny_pure ?_)
  refine wpAny_bind (collect_tupE ho hc hd hz ?_)
  have k' : ∀ b o, s.heap.get? b = some o → ((s.heap.push (seqObj "list" #[] 0)).update s.heap.objs.size (Obj.mapSeq (· ++ vs.toArray))).get? b = some o := fun b o q => by
    rw [Heap.get?_update_ne _ _ _ _ (Nat.ne_of_lt (Heap.lt_size q))]
    exact Heap.get?_push_of_some _ q
  have hsz : ((s.heap.push (seqObj "list" #[] 0)).update s.heap.objs.size (Obj.mapSeq (· ++ vs.toArray))).objs.size = s.heap.objs.size + 1 := by rw [Heap.size_update, size_push']
  generalize (s.heap.push (seqObj "list" #[] 0)).update s.heap.objs.size (Obj.mapSeq (· ++ vs.toArray)) = h' at k' hsz ⊢
  refine wpAny_bind (wpAny_newList ?_ hz)
  have hoL : (h'.push (seqObj "list" vs.toArray 0)).get? h'.objs.size = some (seqObj "list" vs.toArray 0) := Heap.get?_push_size _ rfl
  have kp : ∀ b o, s.heap.get? b = some o → b ≠ h'.objs.size ∧ (h'.push (seqObj "list" vs.toArray 0)).get? b = some o := fun b o q => ⟨Nat.ne_of_lt (Heap.lt_size (k' b o q)), Heap.get?_push_of_some _ (k' b o q)⟩
  refine wpAny_bind (wpAny_holding (wpAny_call_entry slot_list_sort ⟨_, hoL, rfl⟩ entry_list_sort (list_sort_ord (s := { s with heap := h'.push (seqObj "list" vs.toArray 0) }) (swo_lexS k) hoL hz (fun h2 => ?_) fun out hs hb => ⟨_, rfl, ?_⟩) (args_list_sort _)))
  · refine pairsS_sortable (s := { s with heap := h'.push (seqObj "list" vs.toArray 0) }) (by omega) (fun v hm => (hp v hm).keeps fun b o e _ => (kp b o e).2) fun o e => ?_
    have e' : some o = some (seqObj "list" vs.toArray 0) := e.symm.trans hoL
    cases e'
    intro c
    exact absurd (Value.type.inj c) (by decide)
  · refine wpAny_pure ⟨_, rfl, h _ _ out hs hb (fun b o e => ?_) (by rw [hsz]; exact Nat.le_succ _) (sortedHeap_at hoL)⟩
    rw [sortedHeap_old (kp b o e).1 (Heap.lt_size (kp b o e).2)]
    exact (kp b o e).2
end
open L2
/-- x before y: by its text, then by its int -/
abbrev ltS (k : V → PySem.Str × Int) (x y : V) : Bool := lexS (k x) (k y)
/-! ### a tuple whose object is known whole -/
def TupR (h : Heap) (a : Addr) (xs : List V) : Prop := xs.length ≤ sizeLine ∧ ∃ (its : List Value) (n : Nat), Vals xs its ∧ h.get? a = some { cls := .type "tuple", data := .seq its.toArray n }
def TupO (a : Addr) (xs : List V) : HO := .ext fun h => TupR h a xs
theorem tupO_new {P : Program} {w : World} {H : Hp} {h : Heap} {a : Addr} {xs : List V} (R : TupR h a xs) : ObjOk P w H h a (TupO a xs) := by
  obtain ⟨z, its, n, r, e⟩ := id R
  exact ⟨R, ⟨_, e⟩, fun h1 h2 ⟨z1, its1, n1, r1, e1⟩ k => ⟨z1, its1, n1, r1, k _ e1⟩⟩
section
variable {X : Cx} {pins : List (Addr × Obj)} {σ : L2.St} {H : Hp} {s : Shared} {a : Addr} {xs : List V}
theorem tupO_get (I : Inv X pins σ H s) (h : H a = some (TupO a xs)) : TupR s.heap a xs := (I.hok a _ h).1
end
section
variable {X : Cx} {es : List Expr} {t : TA} {pos : Pos} {x1 : Nat}
def tTupO (t : TA) : TE := fun σ H Q => t σ H fun xs H1 => xs.length ≤ sizeLine ∧ ∀ p, H1 p = none → Q (.ref p) (upd H1 p (TupO p xs))
theorem pe_tupO (h : PA X es t) : PE X (.Tuple es x1 pos) (tTupO t) := by
  refine ⟨fun pins s σ H Q I hq => ?_⟩
  refine wpAny_Tuple_spliced (thn (h.run pos pins s σ H _ I hq) fun us s1 ⟨xs, H1, I1, r, z, q⟩ => ⟨by rw [← r.length]; exact z, ?_⟩)
  exact ⟨.ref s1.heap.objs.size, upd H1 s1.heap.objs.size (TupO s1.heap.objs.size xs), I1.laid (t' := s1.toks) (fun b u e => Heap.get?_push_of_some _ e) (Nat.le_refl _) (tupO_new ⟨z, us, _, r, Heap.get?_push_size _ rfl⟩), rfl, q _ (I1.hok.fresh (Nat.le_refl _))⟩
/-- tuple(xs), xs a list -/
def kTupO (K : PySem.W.Frag) (x : V) (H : Hp) (Q : VK) : Prop := ∃ p xs, x = .ref p ∧ SqL K H p xs ∧ ∀ q, H q = none → Q (.ref q) (upd H q (TupO q xs))
theorem rl_tupO {K : PySem.W.Frag} (hK : X.K = K) (pins : List (Addr × Obj)) (s : Shared) (σ : L2.St) (H : Hp) (x : V) (v : Value) (Q : VK) (I : Inv X pins σ H s) (r : RelV x v) (h : kTupO K x H Q) :
    wpAny (model X.prog X.w) X.A (call (.type "tuple") [v]) (EP X pins σ Q) X.xe s := by
  subst hK
  obtain ⟨p, xs, rfl, hs, q⟩ := h
  obtain rfl : v = .ref p := r
  obtain ⟨its, rv, pl, hz⟩ := I.list hs
  refine call_tuple_list pl.isList (fun h' hk => ?_) (by rw [List.size_toArray, ← rv.length]; exact hz)
  have I1 : Inv X pins σ H { s with heap := h' } := I.kept (t' := s.toks) hk
  have I2 := I1.laid (t' := s.toks) (o := TupO h'.objs.size xs) (h' := h'.push { cls := .type "tuple", data := .seq its.toArray }) (fun b o e => Heap.get?_push_of_some _ e) (Nat.le_refl _) (tupO_new ⟨hz, its, _, rv, Heap.get?_push_size _ rfl⟩)
  exact ⟨.ref h'.objs.size, _, I2, rfl, q _ (I1.hok.fresh (Nat.le_refl _))⟩
theorem pe_tupleOfO {K : PySem.W.Frag} (hK : X.K = K) {a : Expr} {ta : TE} {p pos : Pos} (hg : Gl X "tuple") (hm : X.mg "tuple" = none) (ha : PE X a ta) (na : starEach [a] X.env = (false, eval a X.env) :: starEach [] X.env := by rfl) :
    PE X (.Call (.Name "tuple" p) [a] [] pos) (tThen ta (kTupO K)) := by
  refine ⟨fun pins s σ H Q I h => ?_⟩
  exact Call_ (ld_blt I hg hm boot_tuple (PyProof.Rows.callWith_type1 (one_arg ha I h (fun v s2 x H2 I2 r q => rl_tupO hK pins s2 σ H2 x v Q I2 r q) na) na))
end
def rSortedPS : List V → Hp → VK → Prop := fun vs H Q => ∃ (a : Addr) (xs : List V) (k : V → PySem.Str × Int), vs = [V.ref a] ∧ H a = some (TupO a xs) ∧ (∀ x ∈ xs, ∃ t, x = V.ref t ∧ H t = some (.tup [.str (k x).1, .int (k x).2])) ∧
  ∀ ys p, Srtd (ltS k) ys → Stb (ltS k) ys xs → H p = none → Q (.ref p) (upd H p (.lst ys))
theorem cr_sortedPS {X : Cx} : CallR X (.builtin "sorted") rSortedPS := by
  intro pins s σ H vs us Q I r h
  obtain ⟨a, xs, k, rfl, hs, hx, q⟩ := h
  obtain ⟨hz, its, n, rv, ho⟩ := tupO_get I hs
  obtain ⟨u, rfl, ru⟩ := vals1 r
  obtain rfl : u = Value.ref a := ru
  obtain ⟨e1, e2⟩ := refs_back rv fun x m => (hx x m).imp fun t e => e.1
  refine sorted_pairsS (k := fun u => k (backV u)) ho rfl rfl (by rw [← rv.length]; exact hz) (fun v hv => ?_) fun h' d out h1 h2 kp hd hn => ?_
  · obtain ⟨t, rfl⟩ := e2 v hv
    obtain ⟨t', e, ht⟩ := hx (V.ref t) (by rw [e1]; exact List.mem_map.mpr ⟨_, hv, rfl⟩)
    cases e
    obtain ⟨_, its2, r2, o2, ho2, hc2, n2, hd2⟩ := I.hok _ _ ht
    obtain ⟨u1, u2, rfl, ri, rj⟩ := vals2 r2
    obtain ⟨t1, rfl⟩ := ri
    obtain ⟨t2, rfl⟩ := rj
    exact ⟨t, o2, t1, t2, n2, rfl, ho2, hc2, hd2⟩
  · have h3 : ∀ u ∈ out, ∃ a, u = Value.ref a := fun u hu => e2 u (h2.perm.mem_iff.mp hu)
    obtain ⟨m, hn⟩ := hn
    have hb : Stb (ltS k) (out.map backV) xs := by
      rw [e1]
      exact Stb.map (swo_lexS k) backV h2
    exact ⟨.ref d, upd H d (.lst (out.map backV)), I.laid (t' := s.toks) kp hd ⟨by rw [hb.len]; exact hz, out, m, vals_back h3, hn⟩, rfl, q _ d (srtd_map h1) hb (I.hok.fresh hd)⟩
theorem pairsV_of {X : Cx} {pins : List (Addr × Obj)} {σ : L2.St} {H : Hp} {s : Shared} (I : Inv X pins σ H s) : ∀ {ps : List Addr} {kvs : List (L2.Key × V)}, Paired (fun p kv => SqT X.K H p [kV kv.1, kv.2]) ps kvs →
    ∃ (prs : List (L2.Key × Value)) (pvs : List (Value × Value)), KV kvs prs ∧ pvs.length = ps.length ∧ prs.length = ps.length ∧
      ∀ (j : Nat) k v, pvs[j]? = some (k, v) → (∃ b, ps[j]? = some b ∧ PairAt s.heap b k v) ∧ ∃ key, prs[j]? = some (key, v) ∧ (mixKind X.prog X.w).is key k = true
  | _, _, .nil => ⟨[], [], .nil, rfl, rfl, fun j k v e => by simp at e⟩
  | _, _, .cons (a := p) (b := kv) h t => by
    obtain ⟨prs, pvs, r, l1, l2, hp⟩ := pairsV_of I t
    obtain ⟨its, rv, ht, _⟩ := I.tuple h
    obtain ⟨u, y, ei, ru, ry⟩ := vals2 rv
    subst ei
    refine ⟨(kv.1, y) :: prs, (u, y) :: pvs, .cons ⟨rfl, ry⟩ r, congrArg Nat.succ l1, congrArg Nat.succ l2, fun j k v e => ?_⟩
    cases j with
    | zero =>
      cases Option.some.inj e
      exact ⟨⟨p, rfl, .inl ht⟩, kv.1, rfl, kV_is (P := X.prog) (w := X.w) ru⟩
    | succ j => exact hp j k v e
/-- dict(t), t a tuple of pairs -/
def rDictO (K : PySem.W.Frag) : List V → Hp → VK → Prop := fun vs H Q => ∃ (a : Addr) (ps : List Addr) (kvs : List (L2.Key × V)), vs = [.ref a] ∧ H a = some (TupO a (ps.map V.ref)) ∧ Paired (fun p kv => SqT K H p [kV kv.1, kv.2]) ps kvs ∧
  ∀ p, H p = none → Q (.ref p) (upd H p (.dK (mergeK [] kvs)))
theorem call_dictO {X : Cx} (hcalm : X.calm = true) : CallR X (.type "dict") (rDictO X.K) := by
  intro pins s σ H vs us Q I r h
  obtain ⟨a, ps, kvs, rfl, hs, hp, q⟩ := h
  obtain ⟨hz, its, n, rv, ho⟩ := tupO_get I hs
  obtain ⟨u, rfl, ru⟩ := vals1 r
  obtain rfl : u = Value.ref a := ru
  have ei := refs_at rv
  subst ei
  rw [List.length_map] at hz
  obtain ⟨prs, pvs, rel, l1, l2, hpr⟩ := pairsV_of I hp
  have hq : ∀ j, j < ps.length → ∃ k v, pvs[j]? = some (k, v) := fun j hj => ⟨_, _, List.getElem?_eq_getElem (by omega)⟩
  refine PySem.call_dict_pairs (knd := mixKind X.prog X.w) (kvs := prs) (PairArg.tuple a (ps.map Value.ref).toArray (fun j => ps.getD j 0) pvs) (I.ok.hd hcalm)
    ⟨⟨_, n, ho, rfl, rfl, rfl⟩, by rw [List.size_toArray, List.length_map, l1], fun j k v e => ?_⟩ ⟨by omega, fun i key v e => ?_⟩ (by omega) fun h' tk hd' k => ?_
  · obtain ⟨⟨b, hb, hat⟩, _⟩ := hpr j k v e
    have e2 : ps.getD j 0 = b := by rw [List.getD_eq_getElem?_getD, hb]; rfl
    show (ps.map Value.ref).toArray[j]? = some (Value.ref (ps.getD j 0)) ∧ PairAt s.heap (ps.getD j 0) k v
    rw [e2]
    exact ⟨by simp [hb], hat⟩
  · obtain ⟨_, key', e1, e2⟩ := hpr i key v e
    exact ⟨key', e1, e2⟩
  · have hm : (s.heap.objs.size == sysModules) = false := beq_eq_false_iff_ne.mpr (Nat.ne_of_gt I.big)
    have hlen : (mergeK [] kvs).length ≤ sizeLine := by
      refine Nat.le_trans (length_mergeK kvs []) ?_
      rw [List.length_nil, Nat.zero_add, rel.length, l2]
      exact hz
    exact ⟨.ref s.heap.objs.size, upd H s.heap.objs.size (.dK (mergeK [] kvs)), I.laid (t' := tk) (fun b o e => k b o (by simp) e) (Nat.le_refl _) (show ObjOk X.prog X.w _ _ _ (.dK (mergeK [] kvs)) from ⟨hlen, hm, merged [] prs, KV.merge rel .nil, hd'⟩), rfl, q _ (I.hok.fresh (Nat.le_refl _))⟩
/-- what is sorted already stays as it is -/
theorem sorted_same {k : V → PySem.Str × Int} {xs ys : List V} (hx : xs.Pairwise fun x y => (k x).1.cps.toList < (k y).1.cps.toList) (hs : Srtd (ltS k) ys) (hb : Stb (ltS k) ys xs) : ys = xs := by
  refine stb_uniq (swo_lexS k) hs ?_ hb
  refine hx.imp fun {x y} h => ?_
  have ne : ¬ (k x).1 = (k y).1 := fun e => by rw [e] at h; exact List.lt_irrefl _ h
  show lexS (k y) (k x) = false
  unfold lexS
  rw [if_neg (Ne.symm ne), decide_eq_false_iff_not]
  exact fun w => List.lt_irrefl _ (List.lt_trans h w)
/-- a dict comprehension over a list that stays -/
theorem dc_list {K : PySem.W.Frag} {a : Addr} {xs : List V} {g : TG} {tt : TT} {tk tv : TE} {vs : List Nat} {σ : L2.St} {H1 : Hp} {D : Addr} {Qd : Hp → Prop} (Pv : Nat → Hp → Prop) (h0 : Pv 0 (upd H1 D (.dK []))) (hl : ∀ i H, i ≤ xs.length → Pv i H → SqL K H a xs)
    (hs : ∀ i x H, xs[i]? = some x → Pv i H → g x (wipe σ vs) H fun σ2 H2 => wipe σ2 vs = wipe σ vs ∧ tt σ2 H2 fun b H3 =>
      if b = true then tk σ2 H3 fun y H4 => tv σ2 H4 fun z H5 => ∃ kvs k, y = kV k ∧ H5 D = some (.dK kvs) ∧ kvs.length < sizeLine ∧ Pv (i + 1) (upd H5 D (.dK (putK kvs k z))) else Pv (i + 1) H3) (hd : ∀ H, Pv xs.length H → Qd H) :
    ∃ W : Nat → Nat → Hp → Prop, (∃ m, W 0 m (upd H1 D (.dK []))) ∧ ∀ i m H, W i m H →
      ((Itl K a).stop i H ∧ Qd H) ∨ ((Itl K a).go i H ∧ ∃ Nx : Hp → Prop, (∀ H', Nx H' → ∃ m', m' < m ∧ W (i + 1) m' H') ∧ ∀ x H', (Itl K a).yld i H x H' → g x (wipe σ vs) H' fun σ2 H2 => wipe σ2 vs = wipe σ vs ∧ tt σ2 H2 fun b H3 =>
        if b = true then tk σ2 H3 fun y H4 => tv σ2 H4 fun z H5 => ∃ kvs k, y = kV k ∧ H5 D = some (.dK kvs) ∧ kvs.length < sizeLine ∧ Nx (upd H5 D (.dK (putK kvs k z))) else Nx H3) := by
  refine ⟨fun i m H => m = xs.length - i ∧ i ≤ xs.length ∧ Pv i H, ⟨xs.length, by simp, Nat.zero_le _, h0⟩, ?_⟩
  rintro i m H ⟨rfl, hi, p⟩
  have q := hl i H hi p
  by_cases hlt : i < xs.length
  · refine .inr ⟨⟨xs, xs[i], q, by simp [hlt]⟩, Pv (i + 1), fun H' p' => ⟨xs.length - (i + 1), by omega, rfl, hlt, p'⟩, fun x H' y => ?_⟩
    obtain ⟨e, y⟩ := y
    subst e
    exact hs i x _ (y xs q) p
  · have e : i = xs.length := by omega
    subst e
    exact .inl ⟨⟨xs, q, Nat.le_refl _⟩, hd H p⟩
end Mc
namespace Mc
open PySem L2 PySem.Spec PyProof.Rows
theorem erase_at [DecidableEq α] {k : α} : ∀ {xs : List α}, k ∈ xs → ∃ j, xs[j]? = some k ∧ (∀ m : Nat, m < j → ∀ y, xs[m]? = some y → y ≠ k) ∧ xs.eraseIdx j = xs.erase k
  | x :: xs, h => by
    by_cases e : x = k
    · exact ⟨0, by rw [e]; rfl, fun m z => absurd z (Nat.not_lt_zero _), by rw [e]; simp⟩
    · obtain ⟨j, a, b, c⟩ := erase_at (xs := xs) ((List.mem_cons.mp h).resolve_left fun z => e z.symm)
      refine ⟨j + 1, a, fun m hm y hy => ?_, by rw [List.erase_cons_tail (by simpa using e), List.eraseIdx_cons_succ, c]⟩
      cases m with
      | zero => cases Option.some.inj hy; exact e
      | succ m => exact b m (Nat.lt_of_succ_lt_succ hm) y hy
theorem eraseIdx_map' (f : α → β) : ∀ (l : List α) (j : Nat), (l.map f).eraseIdx j = (l.eraseIdx j).map f
  | [], _ => by simp
  | _ :: _, 0 => by simp
  | _ :: r, j + 1 => by simp [eraseIdx_map' f r j]
def isS (k : PySem.Str) : Value → Bool
  | .str y _ => y.cps.toList == k.cps.toList
  | _ => false
section
variable {X : Cx}
def rRemS : V → List V → Hp → VK → Prop := fun x vs H Q => ∃ (l : Addr) (xs : List PySem.Str) (k : PySem.Str), x = .ref l ∧ vs = [.str k] ∧ H l = some (.lst (xs.map V.str)) ∧ k ∈ xs ∧ Q .non (upd H l (.lst ((xs.erase k).map V.str)))
theorem mt_removeS : MtM X "list.remove" rRemS := by
  intro pins s σ H x vs v us Q I rx rv ⟨l, xs, k, ex, ev, hl, hk, q⟩
  subst ex; subst ev; cases rx
  obtain ⟨u, eu, ⟨t, et⟩⟩ := rv.one
  subst eu; subst et
  obtain ⟨_, its, n, r, hlen, hg⟩ := I.lstM hl
  obtain ⟨j, a, b, c⟩ := erase_at hk
  have look : ∀ (i : Nat) (w : Value), its[i]? = some w → ∃ y t', xs[i]? = some y ∧ w = .str y t' := by
    intro i w hw
    cases hx : xs[i]? with
    | none => rw [r.none_of (by rw [List.getElem?_map, hx]; rfl)] at hw; cases hw
    | some y =>
      obtain ⟨w', h1, ⟨t', h2⟩⟩ := r.get (i := i) (x := .str y) (by rw [List.getElem?_map, hx]; rfl)
      rw [hw] at h1; cases h1
      exact ⟨y, t', rfl, h2⟩
  have lenx : its.length = xs.length := by rw [← r.length, List.length_map]
  have hj : j < xs.length := (List.getElem?_eq_some_iff.mp a).1
  have hj' : j < its.toArray.size := by simp; omega
  refine call_meets PySem.F.slot_list_remove ⟨_, hg, rfl⟩ PySem.F.entry_list_remove (PySem.F.args_list_remove_2 _ _)
    (MeetsSeq.list_remove l its.toArray n (.str k t) (isS k) ?g1 j hj' ?g2 ?g3 (by simp at *; omega)) ⟨hg, .non, _, I.lset (its' := its.eraseIdx j) (t' := s.toks) hl hg (by simp) (r.eraseIdx j) ?g4, rfl, ?g5⟩
  case g1 =>
    intro y hy
    obtain ⟨i, hi⟩ := List.mem_iff_getElem?.mp (show y ∈ its by simpa using hy)
    obtain ⟨z, t', _, e⟩ := look i y hi
    rw [e]
    exact SeqRoads2.EqGives.str z k t' t
  case g2 =>
    obtain ⟨z, t', hz, e⟩ := look j _ (List.getElem?_eq_getElem (by omega : j < its.length))
    rw [a] at hz; cases hz
    have e2 : its.toArray[j] = .str k t' := by simpa using e
    rw [e2]
    exact beq_self_eq_true k.cps.toList
  case g3 =>
    intro m hm hmj
    obtain ⟨z, t', hz, e⟩ := look m _ (List.getElem?_eq_getElem (by simpa using hm : m < its.length))
    have e2 : its.toArray[m] = .str z t' := by simpa using e
    rw [e2]
    have ne := b m hmj z hz
    refine beq_eq_false_iff_ne.mpr fun w => ne ?_
    obtain ⟨⟨z⟩⟩ := z
    obtain ⟨⟨k⟩⟩ := k
    exact congrArg (fun l => PySem.Str.mk (Array.mk l)) w
  case g4 =>
    have z2 := len_erase (xs.map V.str) j
    rw [List.length_map] at z2
    simp at *; omega
  case g5 =>
    have : (xs.map V.str).eraseIdx j = (xs.erase k).map V.str := by rw [← c, eraseIdx_map']
    rw [this]; exact q
end
end Mc
namespace Mc
open PySem L2 PySem.Spec PyProof.Rows
def inK (ys : List PySem.Str) (k : L2.Key) : Bool := ys.any fun y => decide (k = Sum.inr y)
/-- a set under way: it holds the first i of ys -/
structure Part (P : Program) (w : World) (ys : List PySem.Str) (a : Addr) (h : Heap) (i : Nat) (c : Nat) : Prop where
  of : h.SetOf (mixKind P w) a (inK (ys.take i)) c
  le : c ≤ i
  nd : ys.Nodup → c = i
abbrev so (b : Bool) : Obj := { cls := .type "set", dict := none, data := .set #[] 0 (.fresh 0 0 b) }
section
variable {P : Program} {w : World} {A : Around} {E : Value → Shared → Prop} {s : Shared} {ys : List PySem.Str}
theorem Part.at {a : Addr} {h h' : Heap} {i c : Nat} (p : Part P w ys a h i c) (k : ∀ o, h.get? a = some o → h'.get? a = some o) : Part P w ys a h' i c := ⟨setOf_at p.of k, p.le, p.nd⟩
theorem Part.more {a : Addr} {h : Heap} {i c : Nat} {y : PySem.Str} (p : Part P w ys a h i c) (hy : ys[i]? = some y) {h' : Heap}
    (q : h'.SetOf (mixKind P w) a (fun k' => inK (ys.take i) k' || decide (k' = Sum.inr y)) (if inK (ys.take i) (Sum.inr y) then c else c + 1)) :
    ∃ c', Part P w ys a h' (i + 1) c' := by
  have e1 : ys.take (i + 1) = ys.take i ++ [y] := by rw [List.take_add_one, hy]; rfl
  refine ⟨if inK (ys.take i) (Sum.inr y) then c else c + 1, ⟨?_, ?_, ?_⟩⟩
  rotate_left 2
  · intro nd
    have no : inK (ys.take i) (Sum.inr y) = false := by
      refine Bool.eq_false_iff.mpr fun z => ?_
      obtain ⟨x, hx, ex⟩ := List.any_eq_true.mp z
      cases Sum.inr.inj (of_decide_eq_true ex)
      have h2 : (ys.take (i + 1)).Nodup := nd.sublist (List.take_sublist _ _)
      rw [e1] at h2
      exact (List.nodup_append.mp h2).2.2 y hx y (by simp) rfl
    rw [no, p.nd nd]; rfl
  · have e2 : (fun k' => inK (ys.take i) k' || decide (k' = Sum.inr y)) = inK (ys.take (i + 1)) := by
      funext k'
      unfold inK
      rw [e1, List.any_append]
      simp
    rw [← e2]
    exact q
  · have := p.le
    split <;> omega
theorem fill {I : Addr} {fp wr : List Addr} {G : Array GenState → Array GenState → Prop} {n : Nat} {Pv : Nat → Value → Prop} {St : Nat → Shared → Prop} {R : Result → Shared → Prop} (W : WalksS P w A.in1 I fp wr G n Pv St)
    {a : Addr} (ha : a ∉ fp) (hn : n = ys.length) (hb : n + 1 < scanBound) (hv : ∀ i v, Pv i v → ∃ y t, ys[i]? = some y ∧ v = .str y t) (fin : ∀ s' c, Moved (a :: wr) G s s' → Part P w ys a s'.heap n c → R (.ok (.ret .none)) s') :
    ∀ (k i c : Nat) (s1 : Shared), i + k = n → St i s1 → Part P w ys a s1.heap i c → Moved (a :: wr) G s s1 → codeAny (model P w) A (.builtin "set.update.loop" ⟨[.ref a, .ref I], []⟩) R s1
  | 0, i, c, s1, e, st, p, mv => codeAny_builtin F.entry_set_update_loop <| by
    cases (Nat.add_zero i).symm.trans e
    rw [Around.under_plainId F.plain_set_update_loop _]
    refine wpAny_bind (m := pyNext (.ref I)) (W.done s1 _ _ st fun s2 hm => wpAny_pure ?_)
    exact fin s2 c (mv.trans W.gtrans (hm.mono fun b z => .tail _ z)) (p.at fun o => hm.heap a o fun z => ha (W.sub _ z))
  | k + 1, i, c, s1, e, st, p, mv => codeAny_builtin F.entry_set_update_loop <| by
    rw [Around.under_plainId F.plain_set_update_loop _]
    refine wpAny_bind (m := pyNext (.ref I)) (W.item i s1 _ _ (by omega) st fun v s2 pv st2 hm => ?_)
    obtain ⟨y, t, hy, ev⟩ := hv i v pv
    subst ev
    have p2 := p.at fun o => hm.heap a o fun z => ha (W.sub _ z)
    refine wpAny_bind (m := holding [Value.str y t] (setAdd a (.str y t))) (wpAny_holding (wpAny_holding ?_))
    refine wpAny_bind ((mixKind P w).pyHash (k := Sum.inr y) (beq_self_eq_true y) ?_)
    refine wpAny_setAddHashed_of (knd := mixKind P w) (k := Sum.inr y) (s := { s2 with toks := s2.toks + 1 }) (beq_self_eq_true y) rfl p2.of (by have := p2.le; omega) fun h' but so' => wpAny_pure ?_
    obtain ⟨c', p3⟩ := p2.more hy so'
    have far : ∀ b, b ≠ a → ∀ o, s2.heap.get? b = some o → h'.get? b = some o := fun b ne o z => (but.2 b ne).trans z
    refine ⟨plainId_quiet F.plain_set_update_loop _, fill W ha hn hb hv fin k (i + 1) c' _ (by omega) ?_ p3 ?_⟩
    · exact W.frame _ s2 _ _ st2 (Nat.le_succ _) fun b hb o z => far b (fun q => ha (by rw [← q]; exact hb)) o z
    · exact mv.trans W.gtrans (((hm.mono fun b z => .tail _ z)).then_heap (Nat.le_succ _) fun b o hb z => far b (fun q => hb (by rw [q]; exact .head _)) o z)
end
section
variable {P : Program} {w : World} {A : Around} {E : Value → Shared → Prop} {s : Shared} {ys : List PySem.Str}
theorem Part.start (led : Bool) {h : Heap} {a : Addr} (ho : h.get? a = some (so led)) : Part P w ys a h 0 0 :=
  ⟨⟨_, #[], 0, _, ho, ⟨rfl, rfl, rfl⟩, rfl, (fun e he => by simp at he), (fun k => by simp [inK]), (by decide), (by rfl), rfl⟩, Nat.le_refl _, fun _ => rfl⟩
set_option maxHeartbeats 6400000 in
theorem call_setS {l : Addr} {its : Array Value} {Q : Value → Shared → Prop} (hh : A.handled = none) (hl : s.heap.IsList l its) (hv : ∀ (i : Nat) v, its[i]? = some v → ∃ y t, ys[i]? = some y ∧ v = .str y t) (hn : its.size = ys.length) (hb : its.size + 1 < scanBound)
    (fin : ∀ (h' : Heap) (tk c : Nat), Part P w ys s.heap.objs.size h' ys.length c → (∀ b o, s.heap.get? b = some o → h'.get? b = some o) → Q (.ref s.heap.objs.size) { s with heap := h', toks := tk }) :
    wpAny (model P w) A (call (.type "set") [.ref l]) Q E s := by
  have F0 := PySem.F.called_set
  obtain ⟨cc, tl, m1⟩ := F0.mro
  have m2 := F0.made
  have m3 := F0.sub
  have m4 := F0.notType
  have m5 := F0.canCreate
  have m6 := PySem.F.typeCall_set_1 (.ref l)
  refine wpAny_call <| codeAny_of_tree <| wpAny_pure ⟨Code.quiet_builtin _ (by decide +kernel), codeAny_builtin PySem.F.entry_type_call <| by
    rw [Around.under_plain (weight_type_call_type "set" [.ref l] []) rfl]
    repeat (any_goals (first | assumption | wp_step))
    refine codeAny_mono (code_set_new_1 (.ref l) (E := E) (Q₁ := fun v s1 => ∃ led, v = .ref s.heap.objs.size ∧ s1 = { s with heap := s.heap.push (so led) }) fun led => ⟨led, rfl, rfl⟩) ?_
    intro r s1 hr
    match r, hr with
    | .error e, hr => exact hr
    | .ok (.ret v), ⟨led, e1, e2⟩ =>
      subst e1; subst e2
      have at0 : (s.heap.push (so led)).get? s.heap.objs.size = some (so led) := Heap.get?_push_size _ rfl
      have ty : Shared.TypeIs { s with heap := s.heap.push (so led) } (.ref s.heap.objs.size) "set" := ⟨_, at0, rfl⟩
      have n1 := F0.init.lookup
      have n2 := F0.init.bind (.ref s.heap.objs.size)
      repeat (any_goals (first | assumption | wp_step))
      refine codeAny_mono (codeAny_call_builtin (R := wants (fun r s2 => r = .none ∧ ∃ h' tk c, s2 = { s with heap := h', toks := tk } ∧ Part P w ys s.heap.objs.size h' ys.length c ∧ ∀ b o, s.heap.get? b = some o → h'.get? b = some o) E) F0.init.plain PySem.F.entry_set_init (check_set_init_1 ty ?_)) ?_
      rotate_left 1
      · intro r2 s2 hr2
        match r2, hr2 with
        | .error e, hr2 => exact hr2
        | .ok (.ret r), ⟨e1, h', tk, c, e2, pt, kp⟩ =>
          subst e1; subst e2
          repeat (any_goals (first | assumption | wp_step))
          exact fin h' _ c pt kp
      · have pre : ∀ b o, s.heap.get? b = some o → (s.heap.push (so led)).get? b = some o := fun b o z => Heap.get?_push_of_some _ z
        obtain ⟨ob, hob, hc, nn, hd⟩ := hl
        obtain ⟨c0, d0, dat, sl0⟩ := ob
        cases hc; cases hd
        have hob1 := pre _ _ hob
        have il : (s.heap.push (so led)).IsList l its := ⟨_, hob1, rfl, nn, rfl⟩
        have q1 := PySem.F.sub_list_set
        have q2 := PySem.F.sub_list_frozenset
        have q3 : (Value.type "list" == Value.type "dict") = false := by decide
        unfold Builtin.«set.__init__» noKeywords Builtin.Frozenset.updateFrom
        generalize hPI : pyIter = PI
        wp_walk
        cases hPI
        refine wpAny_pyIter_list il (wpAny_bind (wpAny_runValue ?_))
        have z1 : (s.heap.push (so led)).objs.size = s.heap.objs.size + 1 := Heap.size_push ..
        have z2 : l < s.heap.objs.size := Heap.lt_size hob
        have ne : l ≠ (s.heap.push (so led)).objs.size := by rw [z1]; exact Nat.ne_of_lt (Nat.lt_succ_of_lt z2)
        have out : s.heap.objs.size ∉ [(s.heap.push (so led)).objs.size, l] := by
          rw [z1]; simp only [List.mem_cons, List.not_mem_nil, or_false, not_or]; exact ⟨Nat.ne_of_lt (Nat.lt_succ_self _), Nat.ne_of_gt z2⟩
        have hd3 : A.in1.in1.in1.handled = none := by simp [hh]
        refine fill (ys := ys) ((Walks.list hd3 _ l ne its).toS) out hn hb hv ?_ its.size 0 0 _ (Nat.zero_add _) ⟨⟨_, Heap.get?_push_size _ rfl, rfl, rfl⟩, il.push _⟩ (Part.start led (Heap.get?_push_of_some _ at0)) (Moved.refl fun _ => rfl)
        rintro ⟨h', g', d', tk', os'⟩ c mv pt
        cases show g' = s.gens from mv.gens
        cases show d' = s.drawn from mv.drawn
        cases show os' = s.os from mv.os
        refine wpAny_pure (wpAny_pure ⟨rfl, h', tk', c, rfl, hn ▸ pt, fun b o z => ?_⟩)
        have lt : b < s.heap.objs.size := Heap.lt_size z
        refine mv.heap b o ?_ (Heap.get?_push_of_some _ (pre b o z))
        rw [z1]; simp only [List.mem_cons, List.not_mem_nil, or_false, not_or]; exact ⟨Nat.ne_of_lt lt, Nat.ne_of_lt (Nat.lt_succ_of_lt lt)⟩
  ⟩
end
section
variable {X : Cx}
def rSetS (K : PySem.W.Frag) (P : Program) (w : World) : List V → Hp → VK → Prop := fun xs H Q => ∃ (l : Addr) (ys : List PySem.Str), xs = [.ref l] ∧ SqL K H l (ys.map V.str) ∧ ys.length < 64 ∧
  ∀ (p : Addr) (n : Nat), H p = none → n ≤ ys.length → (ys.Nodup → n = ys.length) → Q (.ref p) (upd H p (SetK P w p (inK ys) n))
theorem cr_setS (hc : X.calm = true) : CallR X (.type "set") (rSetS X.K X.prog X.w) := by
  intro pins s σ H xs us Q I r ⟨l, ys, e, hl, h64, q⟩
  subst e
  obtain ⟨u, eu, ru⟩ := r.one
  subst eu; cases ru
  obtain ⟨its, rv, pl, hz⟩ := I.list hl
  have hlen : its.toArray.size = ys.length := by rw [List.size_toArray, ← rv.length, List.length_map]
  refine call_setS (ys := ys) (I.ok.hd hc) pl.isList (fun i v hv => ?_) hlen (by rw [hlen]; unfold scanBound; omega) fun h' tk c pt kp => ?_
  · have hv' : its[i]? = some v := by simpa using hv
    cases hy : ys[i]? with
    | none => rw [rv.none_of (by rw [List.getElem?_map, hy]; rfl)] at hv'; cases hv'
    | some y =>
      obtain ⟨v', h1, ⟨t, h2⟩⟩ := rv.get (i := i) (x := .str y) (by rw [List.getElem?_map, hy]; rfl)
      rw [hv'] at h1; cases h1
      exact ⟨y, t, rfl, h2⟩
  · have e1 : ys.take ys.length = ys := List.take_length
    have po := pt.of
    rw [e1] at po
    exact ⟨.ref _, upd H s.heap.objs.size (SetK X.prog X.w s.heap.objs.size (inK ys) c), I.laid (t' := tk) kp (Nat.le_refl _) (setK_new po), rfl, q _ c (I.hok.fresh (Nat.le_refl _)) pt.le pt.nd⟩
theorem call_lenK : CallR X (.builtin "len") (fun xs H Q => ∃ (p : Addr) (S : L2.Key → Bool) (n : Nat), xs = [.ref p] ∧ H p = some (SetK X.prog X.w p S n) ∧ n < 64 ∧ Q (.int (n : Nat)) H) := by
  intro pins s σ H xs us Q I r ⟨p, S, n, e, hp, h64, q⟩
  subst e
  obtain ⟨u, eu, ru⟩ := r.one
  subst eu; cases ru
  obtain ⟨o, es, ep, t, h1, h2, h3, _, _, _, h5, h6⟩ := setK_get I hp
  refine call_len_set h1 h2 h3 h5 (by rw [h6]; omega) ⟨.int n, H, I.tok _, ⟨_, by rw [h6]⟩, q⟩
end
end Mc
namespace Mc
section
variable {α : Type} [DecidableEq α]
structure Sc (α : Type) where
  ms : List α
  cap : α → Nat
  heard : α → List α
structure SM (α : Type) where
  pos : α → Option α
  on : α → List α
structure SOk (X : Sc α) (S : SM α) (names : List α) : Prop where
  mem : ∀ c m, S.pos c = some m ↔ c ∈ S.on m
  nd : ∀ m, (S.on m).Nodup
  cap : ∀ m, (S.on m).length ≤ X.cap m
  hd : ∀ c m, c ∈ S.on m → m ∈ X.heard c
  dom : ∀ c, (∃ m, S.pos c = some m) ↔ c ∈ names
def SM.rm (S : SM α) (c x : α) : List α := if S.pos c = some x then (S.on x).erase c else S.on x
def SM.put (S : SM α) (c m : α) : SM α := ⟨fun x => if x = c then some m else S.pos x, fun x => if x = m then S.rm c x ++ [c] else S.rm c x⟩
theorem SM.rm_sub (S : SM α) (c x : α) : ∀ y ∈ S.rm c x, y ∈ S.on x := by
  intro y h; unfold SM.rm at h; split at h
  · exact List.mem_of_mem_erase h
  · exact h
theorem SM.rm_len (S : SM α) (c x : α) : (S.rm c x).length ≤ (S.on x).length := by
  unfold SM.rm; split
  · exact List.length_erase_le
  · exact Nat.le_refl _
theorem SOk.rm_mem {X : Sc α} {S : SM α} {names : List α} (O : SOk X S names) (c x y : α) : y ∈ S.rm c x ↔ y ≠ c ∧ y ∈ S.on x := by
  unfold SM.rm; split
  case isTrue h => rw [List.Nodup.mem_erase_iff (O.nd x)]
  case isFalse h =>
    constructor
    · intro hy; exact ⟨fun e => h (by rw [← e]; exact (O.mem y x).mpr hy), hy⟩
    · exact fun h => h.2
theorem SOk.rm_nd {X : Sc α} {S : SM α} {names : List α} (O : SOk X S names) (c x : α) : (S.rm c x).Nodup := by
  unfold SM.rm; split
  · exact (O.nd x).erase _
  · exact O.nd x
theorem SOk.put {X : Sc α} {S : SM α} {names names' : List α} (O : SOk X S names) {c m : α} (hm : m ∈ X.heard c) (hr : (S.on m).length < X.cap m) (hn : ∀ x, x ∈ names' ↔ x = c ∨ x ∈ names) :
    SOk X (S.put c m) names' := by
  have hc : ∀ x, c ∉ S.rm c x := fun x h => ((O.rm_mem c x c).mp h).1 rfl
  refine ⟨fun y x => ?_, fun x => ?_, fun x => ?_, fun y x h => ?_, fun y => ?_⟩
  · show (if y = c then some m else S.pos y) = some x ↔ y ∈ (if x = m then S.rm c x ++ [c] else S.rm c x)
    by_cases e : y = c
    · subst e; rw [if_pos rfl]
      by_cases e2 : x = m
      · subst e2; simp
      · rw [if_neg e2]; exact ⟨fun z => absurd (Option.some.inj z).symm e2, fun z => absurd z (hc x)⟩
    · rw [if_neg e]
      have := O.rm_mem c x y
      by_cases e2 : x = m
      · rw [if_pos e2]; simp [e, this, O.mem]
      · rw [if_neg e2, this, O.mem]; simp [e]
  · show (if x = m then S.rm c x ++ [c] else S.rm c x).Nodup
    split
    · exact List.nodup_append.mpr ⟨O.rm_nd c x, by simp, fun a ha b hb e => by simp at hb; subst hb; subst e; exact hc x ha⟩
    · exact O.rm_nd c x
  · show (if x = m then S.rm c x ++ [c] else S.rm c x).length ≤ _
    split
    case isTrue e => subst e; rw [List.length_append]; have := S.rm_len c x; simp; omega
    case isFalse e => exact Nat.le_trans (S.rm_len c x) (O.cap x)
  · have h : y ∈ (if x = m then S.rm c x ++ [c] else S.rm c x) := h
    split at h
    case isTrue e =>
      rcases List.mem_append.mp h with h | h
      · exact O.hd _ _ (S.rm_sub c x y h)
      · simp at h; subst h; subst e; exact hm
    case isFalse e => exact O.hd _ _ (S.rm_sub c x y h)
  · show (∃ x, (if y = c then some m else S.pos y) = some x) ↔ _
    by_cases e : y = c
    · rw [if_pos e, hn]; exact ⟨fun _ => .inl e, fun _ => ⟨m, rfl⟩⟩
    · rw [if_neg e, hn, O.dom]; simp [e]
/-- a right seating of some calls -/
def Right (X : Sc α) (names : List α) (T : α → α) : Prop := (∀ c ∈ names, T c ∈ X.heard c) ∧ ∀ m, (names.filter fun c => decide (T c = m)).length ≤ X.cap m
def Seatable (X : Sc α) (names : List α) : Prop := ∃ T, Right X names T
theorem len_sub : ∀ {a b : List α}, a.Nodup → (∀ x ∈ a, x ∈ b) → a.length ≤ b.length
  | [], _, _, _ => Nat.zero_le _
  | x :: a, b, h, s => by
    have hx := List.nodup_cons.mp h
    have h1 := len_sub (a := a) (b := b.erase x) hx.2 fun y hy => (List.mem_erase_of_ne (fun e => by subst e; exact hx.1 hy)).mpr (s y (List.mem_cons_of_mem _ hy))
    have h2 := List.length_erase_of_mem (s x (by simp))
    have h3 : 0 < b.length := List.length_pos_of_mem (s x (by simp))
    simp; omega
theorem sum_le {R : List α} {f g : α → Nat} (h : ∀ m ∈ R, f m ≤ g m) : (R.map f).sum ≤ (R.map g).sum := by
  induction R with
  | nil => exact Nat.le_refl _
  | cons x R ih => simp; have := h x (by simp); have := ih fun m hm => h m (List.mem_cons_of_mem _ hm); omega
theorem sum_cnt {R : List α} (hR : R.Nodup) (T : α → α) : ∀ (A : List α), (∀ a ∈ A, T a ∈ R) → A.length ≤ (R.map fun m => (A.filter fun c => decide (T c = m)).length).sum
  | [], _ => Nat.zero_le _
  | a :: A, h => by
    have ih := sum_cnt hR T A fun x hx => h x (List.mem_cons_of_mem _ hx)
    have key : ∀ (R : List α), T a ∈ R → (R.map fun m => (A.filter fun c => decide (T c = m)).length).sum + 1 ≤ (R.map fun m => ((a :: A).filter fun c => decide (T c = m)).length).sum := by
      intro R
      induction R with
      | nil => intro h; cases h
      | cons r R ihR =>
        intro h
        simp only [List.map_cons, List.sum_cons]
        by_cases e : T a = r
        · have h1 : ((a :: A).filter fun c => decide (T c = r)).length = (A.filter fun c => decide (T c = r)).length + 1 := by rw [List.filter_cons, if_pos (decide_eq_true e)]; rfl
          have h2 : (R.map fun m => (A.filter fun c => decide (T c = m)).length).sum ≤ (R.map fun m => ((a :: A).filter fun c => decide (T c = m)).length).sum := sum_le fun m _ => by
            rw [List.filter_cons]; split <;> simp
          omega
        · have h1 : (A.filter fun c => decide (T c = r)).length ≤ ((a :: A).filter fun c => decide (T c = r)).length := by rw [List.filter_cons]; split <;> simp
          have := ihR ((List.mem_cons.mp h).resolve_left e)
          omega
    have := key R (h a (by simp))
    simp; omega
theorem no_seat {X : Sc α} {S : SM α} {names : List α} (O : SOk X S names) {c : α} (hc : c ∉ names) {R : List α} (hR : R.Nodup) (h1 : ∀ m ∈ X.heard c, m ∈ R) (h2 : ∀ m ∈ R, ¬ (S.on m).length < X.cap m)
    (h3 : ∀ m ∈ R, ∀ y ∈ S.on m, ∀ o ∈ X.heard y, o ∈ R) {names' : List α} (hn : ∀ x, x ∈ names' ↔ x ∈ names ∨ x = c) : ¬ Seatable X names' := by
  rintro ⟨T, T1, T2⟩
  have hmem : ∀ y ∈ R.flatMap S.on, y ∈ names ∧ ∃ m ∈ R, y ∈ S.on m := fun y hy => by
    obtain ⟨m, hm, hy⟩ := List.mem_flatMap.mp hy
    exact ⟨(O.dom y).mp ⟨m, (O.mem y m).mpr hy⟩, m, hm, hy⟩
  have nd : ∀ R : List α, R.Nodup → (R.flatMap S.on).Nodup := by
    intro R hR
    induction R with
    | nil => exact List.nodup_nil
    | cons r R ih =>
      have hr := List.nodup_cons.mp hR
      rw [List.flatMap_cons]
      refine List.nodup_append.mpr ⟨O.nd r, ih hr.2, fun a ha b hb e => ?_⟩
      subst e
      obtain ⟨m, hm, hb⟩ := List.mem_flatMap.mp hb
      have e1 := (O.mem a r).mpr ha
      have e2 := (O.mem a m).mpr hb
      rw [e1] at e2
      cases Option.some.inj e2
      exact hr.1 hm
  have ndA : (c :: R.flatMap S.on).Nodup := List.nodup_cons.mpr ⟨fun h => hc (hmem c h).1, nd R hR⟩
  have hA := sum_cnt hR T (c :: R.flatMap S.on) fun a ha => by
    rcases List.mem_cons.mp ha with e | e
    · subst e; exact h1 _ (T1 _ ((hn a).mpr (.inr rfl)))
    · obtain ⟨h, m, hm, hy⟩ := hmem a e
      exact h3 m hm a hy _ (T1 _ ((hn a).mpr (.inl h)))
  have hB := sum_le (R := R) (f := fun m => ((c :: R.flatMap S.on).filter fun c => decide (T c = m)).length) (g := fun m => (S.on m).length) fun m hm => by
    refine Nat.le_trans (Nat.le_trans (len_sub (b := names'.filter fun c => decide (T c = m)) (ndA.filter _) fun x hx => ?_) (T2 m)) (Nat.le_of_not_lt (h2 m hm))
    rw [List.mem_filter] at hx ⊢
    refine ⟨(hn x).mpr ?_, hx.2⟩
    rcases List.mem_cons.mp hx.1 with e | e
    · exact .inr e
    · exact .inl (hmem x e).1
  have hl : ∀ R : List α, (R.flatMap S.on).length = (R.map fun m => (S.on m).length).sum := fun R => by rw [List.length_flatMap]
  rw [List.length_cons, hl] at hA
  omega
theorem SOk.seatable {X : Sc α} {S : SM α} {names : List α} (O : SOk X S names) (hn : names.Nodup) : Seatable X names := by
  cases names with
  | nil => exact ⟨id, ⟨fun c h => (nomatch h), fun m => Nat.zero_le _⟩⟩
  | cons n ns =>
    refine ⟨fun c => (S.pos c).getD n, fun c hc => ?_, fun m => ?_⟩
    · obtain ⟨m, hm⟩ := (O.dom c).mpr hc
      show (S.pos c).getD n ∈ _
      rw [hm]; exact O.hd c m ((O.mem c m).mp hm)
    · refine Nat.le_trans (len_sub (b := S.on m) (hn.filter _) fun x hx => ?_) (O.cap m)
      rw [List.mem_filter] at hx
      obtain ⟨m', hm⟩ := (O.dom x).mpr hx.1
      have h2 : (S.pos x).getD n = m := of_decide_eq_true hx.2
      rw [hm] at h2
      exact (O.mem x m).mp (by rw [hm]; exact congrArg some h2)
/-- the search: which masts were come to, and how -/
inductive Ch (X : Sc α) (S : SM α) (c : α) : List (α × α × Option α) → Prop
  | nil : Ch X S c []
  | snoc {L : List (α × α × Option α)} {m y : α} {l : Option α} : Ch X S c L → m ∈ X.heard y → (l = none ∧ y = c ∨ ∃ m', l = some m' ∧ m' ∈ L.map (·.1) ∧ y ∈ S.on m') → m ∉ L.map (·.1) → Ch X S c (L ++ [(m, y, l)])
theorem Ch.nodup {X : Sc α} {S : SM α} {c : α} {L : List (α × α × Option α)} (h : Ch X S c L) : (L.map (·.1)).Nodup := by
  induction h with
  | nil => exact List.nodup_nil
  | snoc _ _ _ hn ih => rw [List.map_append]; exact List.nodup_append.mpr ⟨ih, by simp, fun a ha b hb e => by simp at hb; subst hb; subst e; exact hn ha⟩
theorem Ch.at {X : Sc α} {S : SM α} {c : α} {L : List (α × α × Option α)} (h : Ch X S c L) {m : α} (hm : m ∈ L.map (·.1)) :
    ∃ L1 y l L2, L = L1 ++ (m, y, l) :: L2 ∧ Ch X S c L1 ∧ m ∈ X.heard y ∧ (l = none ∧ y = c ∨ ∃ m', l = some m' ∧ m' ∈ L1.map (·.1) ∧ y ∈ S.on m') ∧ m ∉ L1.map (·.1) := by
  induction h with
  | nil => cases hm
  | @snoc L m2 y l hL h1 h2 h3 ih =>
    rw [List.map_append, List.mem_append] at hm
    rcases hm with hm | hm
    · obtain ⟨L1, y', l', L2, e, r⟩ := ih hm
      exact ⟨L1, y', l', L2 ++ [(m2, y, l)], by rw [e]; simp, r⟩
    · simp at hm; subst hm
      exact ⟨L, y, l, [], rfl, hL, h1, h2, h3⟩
/-- the way back: what holds ahead of each move -/
structure Lead (X : Sc α) (S : SM α) (c : α) (L : List (α × α × Option α)) (S' : SM α) (names : List α) (m : α) (n : Nat) : Prop where
  ok : SOk X S' names
  c0 : c ∉ names
  ch : Ch X S c L
  room : (S'.on m).length < X.cap m
  here : m ∈ L.map (·.1)
  pre : ∀ L1 y l L2, L = L1 ++ (m, y, l) :: L2 → L1.length < n ∧ ∀ x ∈ L1.map (·.1), S'.on x = S.on x
theorem Lead.step {X : Sc α} {S : SM α} {c : α} {L : List (α × α × Option α)} {S' : SM α} {names : List α} {m : α} {n : Nat} (I : Lead X S c L S' names m n) :
    ∃ y l, (m, y, l) ∈ L ∧ m ∈ X.heard y ∧ (l = none ∧ y = c ∧ SOk X (S'.put y m) (names ++ [c]) ∨ ∃ m' k, l = some m' ∧ k < n ∧ Lead X S c L (S'.put y m) names m' k) := by
  obtain ⟨L1, y, l, L2, e, hc1, hm, hl, hn⟩ := I.ch.at I.here
  refine ⟨y, l, by rw [e]; simp, hm, ?_⟩
  obtain ⟨hk, hp⟩ := I.pre _ _ _ _ e
  rcases hl with ⟨rfl, rfl⟩ | ⟨m', rfl, hm', hy⟩
  · exact .inl ⟨rfl, rfl, I.ok.put hm I.room fun x => by simp; exact Or.comm⟩
  · right
    obtain ⟨La, ya, la, Lb, ea, ca, _⟩ := hc1.at hm'
    have hy' : y ∈ S'.on m' := by rw [hp m' hm']; exact hy
    have py : S'.pos y = some m' := (I.ok.mem y m').mpr hy'
    have yn : y ∈ names := (I.ok.dom y).mp ⟨m', py⟩
    have mne : m' ≠ m := fun z => hn (by rw [← z]; exact hm')
    refine ⟨m', L1.length, rfl, hk, I.ok.put hm I.room fun x => ⟨fun h => .inr h, fun h => h.elim (fun e => by rw [e]; exact yn) id⟩, I.c0, I.ch, ?_, ?_, ?_⟩
    · show (if m' = m then S'.rm y m' ++ [y] else S'.rm y m').length < _
      rw [if_neg mne]
      unfold SM.rm
      rw [if_pos py, List.length_erase_of_mem hy']
      have := I.ok.cap m'
      have : 0 < (S'.on m').length := List.length_pos_of_mem hy'
      omega
    · rw [e, ea]; simp
    · intro La' ya' la' Lb' e'
      have nd := I.ch.nodup
      -- the place of m' is one only
      have hLa : La' = La := by
        have e1 : L = La ++ (m', ya, la) :: (Lb ++ (m, y, some m') :: L2) := by rw [e, ea]; simp
        have nd1 := nd
        rw [e'] at nd
        rw [e1] at nd1
        have key : ∀ (A A' : List (α × α × Option α)) (z z' : α × Option α) (B B' : List (α × α × Option α)), A ++ (m', z) :: B = A' ++ (m', z') :: B' → m' ∉ A.map (·.1) → m' ∉ A'.map (·.1) → A = A' := by
          intro A
          induction A with
          | nil =>
            intro A' z z' B B' h _ h2
            cases A' with
            | nil => rfl
            | cons a A' => simp at h; exact absurd (by rw [← h.1]; simp) h2
          | cons a A ih =>
            intro A' z z' B B' h h1 h2
            cases A' with
            | nil => simp at h; exact absurd (by rw [h.1]; simp) h1
            | cons a' A' =>
              simp only [List.cons_append, List.cons.injEq] at h
              rw [h.1, ih A' z z' B B' h.2 (fun q => h1 (List.mem_cons_of_mem _ q)) (fun q => h2 (List.mem_cons_of_mem _ q))]
        have n1 : m' ∉ La.map (·.1) := by
          rw [List.map_append] at nd1
          intro q
          exact (List.nodup_append.mp nd1).2.2 m' q m' (by simp) rfl
        have n2 : m' ∉ La'.map (·.1) := by
          rw [List.map_append] at nd
          intro q
          exact (List.nodup_append.mp nd).2.2 m' q m' (by simp) rfl
        exact key La' La _ _ _ _ (e'.symm.trans e1) n2 n1
      subst hLa
      have nd1 := hc1.nodup
      rw [ea, List.map_append] at nd1
      refine ⟨by rw [ea]; simp, fun x hx => ?_⟩
      have xm' : x ≠ m' := fun z => (List.nodup_append.mp nd1).2.2 x hx m' (by simp) z
      have hxL : x ∈ L1.map (·.1) := by rw [ea, List.map_append]; exact List.mem_append_left _ hx
      have xm : x ≠ m := fun z => hn (by rw [← z]; exact hxL)
      show (if x = m then S'.rm y x ++ [y] else S'.rm y x) = S.on x
      rw [if_neg xm]
      unfold SM.rm
      rw [if_neg (fun z => xm' (by rw [py] at z; exact (Option.some.inj z).symm))]
      exact hp x hxL
end
end Mc
namespace Mc
open PySem L2 PySem.Spec PyProof.Rows
/-- a statement that is never come to -/
theorem ps_no {X : Cx} {st : Stmt} : PS X st (fun _ _ _ => False) := ⟨fun _ _ _ _ _ _ h => h.elim⟩
theorem dc_it {J : It} {n : Nat} {G : Hp → Prop} {Y : Nat → Hp → V → Hp → Prop} (w : Walk J n G Y) {g : TG} {tt : TT} {tk tv : TE} {vs : List Nat} {σ : L2.St} {H1 : Hp} {D : Addr} {Qd : Hp → Prop} (Pv : Nat → Hp → Prop) (h0 : Pv 0 (upd H1 D (.dK [])))
    (hG : ∀ i H, i ≤ n → Pv i H → G H)
    (hs : ∀ i x H H', i < n → Pv i H → Y i H x H' → g x (wipe σ vs) H' fun σ2 H2 => wipe σ2 vs = wipe σ vs ∧ tt σ2 H2 fun b H3 =>
      if b = true then tk σ2 H3 fun y H4 => tv σ2 H4 fun z H5 => ∃ kvs k, y = kV k ∧ H5 D = some (.dK kvs) ∧ kvs.length < sizeLine ∧ Pv (i + 1) (upd H5 D (.dK (putK kvs k z))) else Pv (i + 1) H3) (hd : ∀ H, Pv n H → Qd H) :
    ∃ W : Nat → Nat → Hp → Prop, (∃ m, W 0 m (upd H1 D (.dK []))) ∧ ∀ i m H, W i m H →
      (J.stop i H ∧ Qd H) ∨ (J.go i H ∧ ∃ Nx : Hp → Prop, (∀ H', Nx H' → ∃ m', m' < m ∧ W (i + 1) m' H') ∧ ∀ x H', J.yld i H x H' → g x (wipe σ vs) H' fun σ2 H2 => wipe σ2 vs = wipe σ vs ∧ tt σ2 H2 fun b H3 =>
        if b = true then tk σ2 H3 fun y H4 => tv σ2 H4 fun z H5 => ∃ kvs k, y = kV k ∧ H5 D = some (.dK kvs) ∧ kvs.length < sizeLine ∧ Nx (upd H5 D (.dK (putK kvs k z))) else Nx H3) := by
  refine ⟨fun i m H => i + m = n ∧ Pv i H, ⟨n, by omega, h0⟩, fun i m H ⟨e, p⟩ => ?_⟩
  cases m with
  | zero =>
    cases (Nat.add_zero i).symm.trans e
    exact .inl ⟨w.stops H (hG _ H (Nat.le_refl _) p), hd H p⟩
  | succ m =>
    have lt : i < n := by omega
    have q := hG i H (Nat.le_of_lt lt) p
    exact .inr ⟨w.goes i H lt q, fun H' => Pv (i + 1) H', fun H' p' => ⟨m, Nat.lt_succ_self m, by omega, p'⟩, fun x H' y => hs i x H H' lt p (w.yields i H x H' lt q y)⟩
/-! dicts whose keys are texts -/
section
variable {β : Type} {f : β → V} {l : List (PySem.Str × β)} {k : PySem.Str} {v : β}
def kvT (f : β → V) (l : List (PySem.Str × β)) : List (L2.Key × V) := l.map fun x => (Sum.inr x.1, f x.2)
def getT (l : List (PySem.Str × β)) (k : PySem.Str) : Option β := (l.find? fun x => decide (x.1 = k)).map (·.2)
def keysT (l : List (PySem.Str × β)) : List PySem.Str := l.map (·.1)
theorem kvT_app (l' : List (PySem.Str × β)) : kvT f (l ++ l') = kvT f l ++ kvT f l' := List.map_append
theorem getT_nil : getT ([] : List (PySem.Str × β)) k = none := rfl
theorem getT_cons (x : PySem.Str × β) : getT (x :: l) k = if x.1 = k then some x.2 else getT l k := by
  unfold getT
  rw [List.find?_cons]
  by_cases e : x.1 = k
  · rw [decide_eq_true e, if_pos e]; rfl
  · rw [decide_eq_false e, if_neg e]
theorem val_T : valV (kvT f l) (Sum.inr k : L2.Key) = (getT l k).map f := by
  induction l with
  | nil => rfl
  | cons x l ih =>
    rw [getT_cons]
    by_cases e : x.1 = k
    · rw [if_pos e]
      exact valV_pos (p := ((Sum.inr x.1 : L2.Key), f x.2)) (congrArg Sum.inr e)
    · rw [if_neg e, ← ih]
      exact valV_neg (p := ((Sum.inr x.1 : L2.Key), f x.2)) fun z => e (Sum.inr.inj z)
theorem getT_in (h : getT l k = some v) : (k, v) ∈ l := by
  induction l with
  | nil => cases h
  | cons x l ih =>
    rw [getT_cons] at h
    by_cases e : x.1 = k
    · rw [if_pos e] at h
      cases Option.some.inj h
      rw [← e]; exact .head _
    · rw [if_neg e] at h
      exact .tail _ (ih h)
theorem getT_mem (nd : (keysT l).Nodup) (h : (k, v) ∈ l) : getT l k = some v := by
  induction l with
  | nil => cases h
  | cons x l ih =>
    have nd' := List.nodup_cons.mp nd
    rw [getT_cons]
    rcases List.mem_cons.mp h with e | e
    · rw [← e, if_pos rfl]
    · rw [if_neg fun z => nd'.1 (by show x.1 ∈ _; rw [z]; exact List.mem_map.mpr ⟨_, e, rfl⟩)]
      exact ih nd'.2 e
theorem getT_none : getT l k = none ↔ k ∉ keysT l := by
  induction l with
  | nil => exact ⟨fun _ h => (nomatch h), fun _ => rfl⟩
  | cons x l ih =>
    rw [getT_cons]
    by_cases e : x.1 = k
    · rw [if_pos e]
      exact ⟨fun h => (nomatch h), fun h => absurd (by rw [← e]; exact .head _) h⟩
    · rw [if_neg e, ih]
      exact ⟨fun h z => (List.mem_cons.mp z).elim (fun q => e q.symm) h, fun h z => h (.tail _ z)⟩
theorem getT_key (h : k ∈ keysT l) : ∃ v, getT l k = some v := by
  cases e : getT l k with
  | none => exact absurd h (getT_none.mp e)
  | some v => exact ⟨v, rfl⟩
theorem put_new (h : k ∉ keysT l) : putK (kvT f l) (Sum.inr k : L2.Key) (f v) = kvT f (l ++ [(k, v)]) := by
  rw [putK_new _ (by rw [val_T, getT_none.mpr h]; rfl), kvT_app]; rfl
theorem put_old (h : k ∈ keysT l) : putK (kvT f l) (Sum.inr k : L2.Key) (f v) = kvT f (l.map fun x => if x.1 = k then (x.1, v) else x) := by
  unfold putK
  rw [if_pos (by
    obtain ⟨v', hv⟩ := getT_key h
    rw [valV_any, val_T, hv]; rfl)]
  unfold kvT
  rw [List.map_map, List.map_map]
  refine List.map_congr_left fun x _ => ?_
  show (if (Sum.inr x.1 : L2.Key) = Sum.inr k then _ else _) = _
  by_cases e : x.1 = k
  · rw [if_pos (congrArg Sum.inr e)]
    show _ = ((Sum.inr (if x.1 = k then (x.1, v) else x).1 : L2.Key), f (if x.1 = k then (x.1, v) else x).2)
    rw [if_pos e]
  · rw [if_neg fun z => e (Sum.inr.inj z)]
    show _ = ((Sum.inr (if x.1 = k then (x.1, v) else x).1 : L2.Key), f (if x.1 = k then (x.1, v) else x).2)
    rw [if_neg e]
theorem drop_T : dropK (kvT f l) (Sum.inr k : L2.Key) = kvT f (l.filter fun x => decide (x.1 ≠ k)) := by
  unfold dropK kvT
  rw [List.filter_map]
  congr 1
  refine List.filter_congr fun x _ => ?_
  show decide ((Sum.inr x.1 : L2.Key) ≠ Sum.inr k) = decide (x.1 ≠ k)
  simp
/-- the items in another turn of the keys -/
theorem perm_T [Inhabited β] (nd : (keysT l).Nodup) {ys : List PySem.Str} (h : ys.Perm (keysT l)) : (ys.map fun y => (y, (getT l y).getD default)).Perm l := by
  refine (h.map _).trans ?_
  have e : (keysT l).map (fun y => (y, (getT l y).getD default)) = l := by
    unfold keysT
    rw [List.map_map]
    refine (List.map_congr_left fun x hx => ?_).trans (List.map_id l)
    show (x.1, (getT l x.1).getD default) = x
    rw [getT_mem nd (v := x.2) hx]; rfl
  rw [e]
end
theorem kvT_get {β : Type} {f : β → V} {l : List (PySem.Str × β)} {i : Nat} {k : L2.Key} {v : V} (h : (kvT f l)[i]? = some (k, v)) : ∃ x, l[i]? = some x ∧ k = Sum.inr x.1 ∧ v = f x.2 := by
  unfold kvT at h
  rw [List.getElem?_map] at h
  cases e : l[i]? with
  | none => rw [e] at h; cases h
  | some x => rw [e] at h; cases Option.some.inj h; exact ⟨x, rfl, rfl, rfl⟩
theorem un_same {H H' : Hp} {d : Addr} {od : Obj} {u : HO} (s : Same (upd H d (.frz od u)) H') (h : H d = some u) : Same H (upd H' d u) := fun b o z => by
  by_cases e : b = d
  · subst e; rw [h] at z; cases z; exact upd_same
  · rw [upd_ne e]; exact s b o (by rw [upd_ne e]; exact z)
theorem keysT_kv {β : Type} {f : β → V} (l : List (PySem.Str × β)) : (kvT f l).map (·.1) = (keysT l).map Sum.inr := by
  unfold kvT keysT; rw [List.map_map, List.map_map]; rfl
theorem dgetT {β : Type} {f : β → V} {l : List (PySem.Str × β)} {k : PySem.Str} {v : β} {H : Hp} {a : Addr} (h : Rd H a (.dK (kvT f l))) (e : getT l k = some v) : DGet H a (.str k) (some (f v)) := .inl ⟨_, Sum.inr k, h, rfl, by rw [val_T, e]; rfl⟩
theorem dgetN {β : Type} {f : β → V} {l : List (PySem.Str × β)} {k : PySem.Str} {H : Hp} {a : Addr} (h : Rd H a (.dK (kvT f l))) : DGet H a (.str k) ((getT l k).map f) := .inl ⟨_, Sum.inr k, h, rfl, val_T.symm⟩
theorem nd_take {α : Type} {ys : List α} {i : Nat} {m : α} (nd : ys.Nodup) (hi : ys[i]? = some m) : m ∉ ys.take i := by
  have h2 : (ys.take (i + 1)).Nodup := nd.sublist (List.take_sublist _ _)
  rw [List.take_add_one, hi] at h2
  exact fun z => (List.nodup_append.mp h2).2.2 m z m (by simp) rfl
theorem keysT_mk {β : Type} {g : PySem.Str → β} (ys : List PySem.Str) : keysT (ys.map fun y => (y, g y)) = ys := by
  unfold keysT; rw [List.map_map]; exact List.map_id ys
theorem put_mk {β : Type} {f : β → V} {g : PySem.Str → β} {ys : List PySem.Str} {i : Nat} {m : PySem.Str} (nd : ys.Nodup) (hi : ys[i]? = some m) :
    putK (kvT f ((ys.take i).map fun y => (y, g y))) (Sum.inr m : L2.Key) (f (g m)) = kvT f ((ys.take (i + 1)).map fun y => (y, g y)) := by
  rw [put_new (by rw [keysT_mk]; exact nd_take nd hi), List.take_add_one, hi, List.map_append]; rfl
theorem len_mk {β : Type} {f : β → V} {g : PySem.Str → β} {ys : List PySem.Str} {i : Nat} (h : ys.length < 64) : (kvT f ((ys.take i).map fun y => (y, g y))).length < sizeLine := by
  unfold kvT; rw [List.length_map, List.length_map, List.length_take]
  exact Nat.lt_of_le_of_lt (Nat.min_le_right _ _) (Nat.lt_of_lt_of_le h (by decide))
theorem via {α : Type} {R G : α → Prop} {g : Prop} (h : (∀ x, R x → G x) → g) (t : ∀ x, R x → G x) : g := h t
end Mc
namespace Mc
open PySem L2 PySem.Spec PyProof.Rows
def top (i : Nat) : Stmt := PySem.Challenge.pw_mastcalls_k36_whole_buying.main.body.getD i (.Pass ⟨0, 0, 0, 0⟩)
/-! ### the draws -/
abbrev sNum : Stmt := top 33
abbrev sTake : Stmt := top 34
def spNum (K : PySem.W.Frag) : Sp := fun vs H Q _ => ∃ (a : Addr) (ns : List Int) (k : Int), vs = [.ref a, .int k] ∧ SqL K H a (ns.map V.int) ∧ ns.length ≤ 63 ∧
  ∀ (v : Int) (H' : Hp), 0 ≤ v → Same H H' → Q (.int v) H'
def spTake (K : PySem.W.Frag) : Sp := fun vs H Q _ => ∃ (M : List Addr) (d a : Addr) (m : Int), vs = [.ref d, .int m] ∧ Dr K M d a H ∧ 0 < m ∧
  ∀ (v : Int) (H' : Hp), 0 ≤ v → v < m → Dr K M d a H' → Kp [d] H H' → Q (.int v) H'
/-- what the draws ask of the module -/
structure TxD (K : PySem.W.Frag) (mg : Str → Option Value) (fN fT : Addr) : Prop where
  len : mg "len" = none
  int : mg "int" = none
  abs : mg "abs" = none
  num : mg "_law_number" = some (.ref fN)
  take : mg "_law_take" = some (.ref fT)
section
variable {P : Program} {w : World} {K : PySem.W.Frag} {mg : Str → Option Value} {base : Heap}
theorem scNum : FnScope ["script", "index", "cell", "blend"] ["script", "index"] (defScope sNum) := ⟨rfl, rfl, rfl, by decide +kernel, rfl, by decide +kernel, by decide +kernel⟩
theorem ok_num {f fN fT : Addr} {fd : FuncData} (F : Fun K "_law_number" "_law_number" sNum f fd) (T : TxD K mg fN fT) : FnOk P w K mg base CX0 1 f fd ["script", "index"] (spNum K) := by
  refine F.ok scNum (fun vs H Q E h => ?_) (fun cdv A outer s H vs Q E hr h => ?_)
  · obtain ⟨a, ns, k, rfl, _⟩ := h
    rfl
  · obtain ⟨a, ns, k, rfl, hS, hl, q⟩ := h
    refine ⟨_, pss_cons (ps_if (pt_cmpR (op_eqD hr.units) (pv 0) (pe_lst pa_nil) (nomark _)) (pss_one (ps_ret (pe_callTy call_int1 (by rfl) T.int boot_int (pa_cons (pe_op op_mod (pe_op op_add (pe_op op_mul (pv 1) pe_int) pe_int) pe_int) pa_nil)))) pss_nil)
      (pss_cons (ps_set (i := 2) scNum.nd rfl (Or.inl rfl) (pe_ix ix_list (pv 0) (pe_op op_mod (pv 1) (pe_callB call_len_seq (by rfl) T.len PySem.boot_len (pa_cons (pv 0) pa_nil))) (fun _ _ => rfl)))
      (pss_cons (ps_if (pt_cmpR op_ge (pe_callB call_abs (by rfl) T.abs boot_abs (pa_cons (pv 2) pa_nil)) (pe_op op_pow pe_int pe_int) (nomark _)) (pss_one (ps_set (i := 2) scNum.nd rfl (Or.inl rfl) (pe_op op_mod (pv 2) (pe_op op_pow pe_int pe_int)))) pss_nil)
      (pss_cons (ps_set (i := 3) scNum.nd rfl (Or.inl rfl) (pe_op op_mod (pe_op op_add (pe_op op_mul (pe_op op_add (pv 2) (pe_op op_mul pe_int (pv 1))) pe_int) (pe_op op_mul pe_int (pe_callB call_len_seq (by rfl) T.len PySem.boot_len (pa_cons (pv 0) pa_nil)))) pe_int))
      (pss_one (ps_ret (pe_callTy call_int1 (by rfl) T.int boot_int (pa_cons (pe_op op_mod (pe_op op_add (pe_op op_mul (pe_op op_mod (pe_op op_mul (pv 3) pe_int) pe_int) pe_int) (pv 1)) pe_int) pa_nil))))))), ?_⟩
    refine ⟨_, rfl, Nat.zero_le _, fun p hp => ?_⟩
    have s1 : Same H (upd H p (.lst [])) := fun b o e => by rw [upd_ne (ne_of_none e hp)]; exact e
    have hS1 := s1.seq hS
    refine ⟨pdI ns, pdI [], dp_ints hS1, dp_ints (SqL.of upd_same), shaped_ints _, shaped_ints _, _, rfl, ?_⟩
    refine ite2 (fun _ => ?_) (fun e => ?_)
    · refine ⟨_, rfl, _, _, rfl, rfl, .inr (by decide), _, _, rfl, rfl, _, _, rfl, rfl, (by show (0 : Int) < _; decide), .inl ⟨_, rfl, ?_⟩⟩
      exact q _ _ (Int.emod_nonneg _ (by decide)) s1
    · have hn : 0 < ns.length := by
        rw [eqv_ints] at e
        cases ns with
        | nil => exact absurd (decide_eq_true rfl) e
        | cons x r => exact Nat.succ_pos _
      have hlen : ((ns.map V.int).length : Int) = (ns.length : Int) := by rw [List.length_map]
      have hlt : (k % (((ns.map V.int).length : Nat) : Int)).toNat < ns.length := by
        have h1 := Int.emod_nonneg k (b := (((ns.map V.int).length : Nat) : Int)) (by omega)
        have h2 := Int.emod_lt_of_pos k (b := (((ns.map V.int).length : Nat) : Int)) (by omega)
        omega
      refine ⟨_, rfl, _, rfl, _, rfl, a, _, rfl, .inl hS1, _, _, rfl, rfl, (by show (0 : Int) < _; omega), a, _, _, V.int ns[(k % (((ns.map V.int).length : Nat) : Int)).toNat], rfl, rfl, hS1, at_of (j := (k % (((ns.map V.int).length : Nat) : Int)).toNat) (by
        have h1 := Int.emod_nonneg k (b := (((ns.map V.int).length : Nat) : Int)) (by omega)
        omega) (by rw [List.getElem?_map, List.getElem?_eq_getElem hlt]; rfl), ?_⟩
      generalize ns[(k % (((ns.map V.int).length : Nat) : Int)).toNat] = c
      refine ⟨_, rfl, _, rfl, _, _, rfl, rfl, ⟨by decide, by decide, by decide⟩, _, _, rfl, rfl, _, rfl, ?_⟩
      refine ite2 (fun _ => ?_) (fun _ => ?_)
      refine ⟨_, rfl, _, _, rfl, rfl, ⟨by decide, by decide, by decide⟩, _, _, rfl, rfl, (by show (0 : Int) < _; decide), ?_⟩
      all_goals
        refine ⟨_, rfl, _, rfl, _, _, rfl, rfl, .inl ⟨by decide, by decide⟩, _, _, rfl, rfl, _, _, rfl, rfl, .inr (by decide), _, rfl, a, _, rfl, .inl hS1, _, _, rfl, rfl, .inl ⟨by decide, by decide⟩, _, _, rfl, rfl, _, _, rfl, rfl, (by show (0 : Int) < _; decide), ?_⟩
        refine ⟨_, rfl, _, _, rfl, rfl, .inr (by decide), _, _, rfl, rfl, (by show (0 : Int) < _; decide), _, _, rfl, rfl, .inr (by decide), _, rfl, _, _, rfl, rfl, _, _, rfl, rfl, (by show (0 : Int) < _; decide), .inl ⟨_, rfl, ?_⟩⟩
        exact q _ _ (Int.emod_nonneg _ (by decide)) s1
theorem scTake : FnScope ["draw", "many"] ["draw", "many"] (defScope sTake) := ⟨rfl, rfl, rfl, by decide +kernel, rfl, by decide +kernel, by decide +kernel⟩
theorem ok_take {f fN fT : Addr} {fd fdN : FuncData} (F : Fun K "_law_take" "_law_take" sTake f fd) (T : TxD K mg fN fT) (FN : Fun K "_law_number" "_law_number" sNum fN fdN) (bN : Binds K fdN ["script", "index"] []) :
    FnOk P w K mg base CX0 2 f fd ["draw", "many"] (spTake K) := by
  have GN : FnOk P w K mg base CX0 1 fN fdN ["script", "index"] (spNum K) := ok_num FN T
  refine F.ok scTake (fun vs H Q E h => ?_) (fun cdv A outer s H vs Q E hr h => ?_)
  · obtain ⟨M, d, a, m, rfl, _⟩ := h
    rfl
  · obtain ⟨M, d, a, m, rfl, D, hm, q⟩ := h
    obtain ⟨⟨k, hd⟩, hM, ns, hl, hs⟩ := id D
    refine ⟨_, pss_cons (ps_augS (pv 0) pe_int get_list pe_int ip_add set_list)
      (pss_one (ps_ret (pe_op op_mod (pe_callTy call_int1 (by rfl) T.int boot_int (pa_cons (pe_call GN hr rfl T.num FN.kp bN .nil pass0 (pa_cons (pe_ix ix_list (pv 0) pe_int (fun _ _ => rfl)) (pa_cons (pe_callTy call_int1 (by rfl) T.int boot_int (pa_cons (pe_ix ix_list (pv 0) pe_int (fun _ _ => rfl)) pa_nil)) pa_nil))) pa_nil)) (pv 1)))), ?_⟩
    refine ⟨_, rfl, d, _, _, .int k, rfl, rfl, SqL.of hd, rfl, _, _, rfl, rfl, d, _, _, 1, rfl, rfl, hd, rfl, ?_⟩
    have hd1 : (upd H d (HO.lst ([V.ref a, V.int k].set 1 (V.int (k + 1))))) d = some (.lst [.ref a, .int (k + 1)]) := upd_same
    have k1 : Kp [d] H (upd H d (HO.lst ([V.ref a, V.int k].set 1 (V.int (k + 1))))) := Kp.at (List.mem_singleton.mpr rfl)
    have up : ∀ b ∈ [d], b ∈ M := fun b z => by rw [List.mem_singleton.mp z]; exact hM
    refine ⟨_, rfl, d, _, _, .ref a, rfl, rfl, SqL.of hd1, rfl, _, rfl, d, _, _, .int (k + 1), rfl, rfl, SqL.of hd1, rfl, .inl ⟨_, rfl, ?_⟩⟩
    refine ⟨a, ns, k + 1, rfl, hs _ (k1.mono up), hl, fun v H' hv s1 => .inl ⟨_, rfl, ?_⟩⟩
    refine ⟨_, rfl, _, _, rfl, rfl, hm, ?_⟩
    have k2 := k1.trans (Kp.same s1)
    exact q _ H' (Int.emod_nonneg _ (by omega)) (Int.emod_lt_of_pos _ hm) (D.next (k2.mono up) (s1 _ _ hd1)) k2
end
abbrev sPick : Stmt := top 35
def spPick (K : PySem.W.Frag) : Sp := fun vs H Q _ => ∃ (M : List Addr) (d a l : Addr) (xs : List V), vs = [.ref d, .ref l] ∧ Dr K M d a H ∧ 0 < xs.length ∧ (∀ H', Kp [d] H H' → SqL K H' l xs ∨ SqT K H' l xs) ∧
  ∀ (j : Nat) (x : V) (H' : Hp), xs[j]? = some x → Dr K M d a H' → Kp [d] H H' → Q x H'
section
variable {P : Program} {w : World} {K : PySem.W.Frag} {mg : Str → Option Value} {base : Heap}
theorem scPick : FnScope ["draw", "items"] ["draw", "items"] (defScope sPick) := ⟨rfl, rfl, rfl, by decide +kernel, rfl, by decide +kernel, by decide +kernel⟩
theorem ok_pick {f fN fT : Addr} {fd fdN fdT : FuncData} (F : Fun K "_law_pick" "_law_pick" sPick f fd) (T : TxD K mg fN fT) (FN : Fun K "_law_number" "_law_number" sNum fN fdN) (bN : Binds K fdN ["script", "index"] [])
    (FT : Fun K "_law_take" "_law_take" sTake fT fdT) (bT : Binds K fdT ["draw", "many"] []) : FnOk P w K mg base CX0 3 f fd ["draw", "items"] (spPick K) := by
  have GT : FnOk P w K mg base CX0 2 fT fdT ["draw", "many"] (spTake K) := ok_take FT T FN bN
  refine F.ok scPick (fun vs H Q E h => ?_) (fun cdv A outer s H vs Q E hr h => ?_)
  · obtain ⟨M, d, a, l, xs, rfl, _⟩ := h
    rfl
  · obtain ⟨M, d, a, l, xs, rfl, D, hx, hs, q⟩ := h
    refine ⟨_, pss_one (ps_ret (pe_ix ix_seq (pv 1) (pe_call GT hr rfl T.take FT.kp bT .nil pass0 (pa_cons (pv 0) (pa_cons (pe_callB call_len_seq (by rfl) T.len PySem.boot_len (pa_cons (pv 1) pa_nil)) pa_nil))) (fun _ _ => rfl))), ?_⟩
    refine ⟨_, rfl, _, rfl, _, rfl, l, xs, rfl, hs H (Kp.refl _ H), M, d, a, _, rfl, D, (by show (0 : Int) < _; omega), fun v H' h0 h1 D1 k1 => ?_⟩
    have hj : v.toNat < xs.length := by omega
    have e : v = ((v.toNat : Nat) : Int) := by omega
    have hg : xs[v.toNat]? = some xs[v.toNat] := List.getElem?_eq_getElem hj
    have fin := q v.toNat _ H' hg D1 k1
    rcases hs H' k1 with hL | hT
    · exact .inl ⟨l, xs, v, _, rfl, rfl, hL, at_of e hg, fin⟩
    · exact .inr (.inl ⟨l, xs, v, _, rfl, rfl, hT, at_of e hg, fin⟩)
end
abbrev sIsNum : Stmt := top 6
abbrev sIsName : Stmt := top 18
def spIsNum : Sp := fun vs H Q _ => ∃ n lo hi : Int, vs = [.int n, .int lo, .int hi] ∧ Q (.bl (decide (lo ≤ n) && decide (n ≤ hi))) H
/-- names that are well made -/
def letters : PySem.Str := "abcdefghijklmnopqrstuvwxyz"
def figures : PySem.Str := "0123456789"
def okN (x : PySem.Str) : Prop := 1 ≤ x.length ∧ x.length ≤ 8 ∧ (∃ c, x.cps.toList[0]? = some c ∧ c ∈ letters.cps.toList) ∧ ∀ c ∈ x.cps.toList, c ∈ letters.cps.toList ∨ c ∈ figures.cps.toList
instance (x : PySem.Str) : Decidable (okN x) := by
  unfold okN
  have : Decidable (∃ c, x.cps.toList[0]? = some c ∧ c ∈ letters.cps.toList) := match h : x.cps.toList[0]? with
    | none => .isFalse fun ⟨c, e, _⟩ => by cases e
    | some c => if hc : c ∈ letters.cps.toList then .isTrue ⟨c, rfl, hc⟩ else .isFalse fun ⟨c', e, h⟩ => by cases e; exact hc h
  infer_instance
def spIsName : Sp := fun vs H Q _ => ∃ x : PySem.Str, vs = [.str x] ∧ okN x ∧ ∀ H', Same H H' → Q (.bl true) H'
structure TxN (mg : PySem.Str → Option Value) : Prop where
  isi : mg "isinstance" = none
  int : mg "int" = none
  bool : mg "bool" = none
  str : mg "str" = none
  len : mg "len" = none
  all : mg "all" = none
  lets : ∃ t, mg "SMALL_LETTERS" = some (.str letters t)
  figs : ∃ t, mg "FIGURES" = some (.str figures t)
  most : ∃ t, mg "LONGEST_NAME" = some (.int 8 t)
section
variable {P : Program} {w : World} {K : PySem.W.Frag} {mg : PySem.Str → Option Value} {base : Heap}
theorem scIsNum : FnScope ["thing", "low", "high"] ["thing", "low", "high"] (defScope sIsNum) := ⟨rfl, rfl, rfl, by decide +kernel, rfl, by decide +kernel, by decide +kernel⟩
theorem ok_isnum {f : Addr} {fd : FuncData} (F : Fun K "is_number" "is_number" sIsNum f fd) (T : TxN mg) : FnOk P w K mg base CX0 1 f fd ["thing", "low", "high"] spIsNum := by
  refine F.ok scIsNum (fun vs H Q E h => ?_) (fun cdv A outer s H vs Q E hr h => ?_)
  · obtain ⟨n, lo, hi, rfl, _⟩ := h
    rfl
  · obtain ⟨n, lo, hi, rfl, q⟩ := h
    refine ⟨_, (pss_one (ps_ret (pe_and (pe_callB call_isi (by rfl) T.isi boot_isinstance (pa_cons (pv 0) (pa_cons (pe_bltn (v := .ty "int") (by rfl) T.int boot_int rfl) pa_nil))) (pe_and (pe_not (pe_callB call_isi (by rfl) T.isi boot_isinstance (pa_cons (pv 0) (pa_cons (pe_bltn (v := .ty "bool") (by rfl) T.bool (by rfl) rfl) pa_nil)))) (pe_one (pe_chain op_le op_le (pv 1) (pv 0) (pv 2))))))), ?_⟩
    refine ⟨_, rfl, _, _, _, _, _, rfl, .ty "int", .base (.int _), by rfl, true, rfl, _, rfl, _, _, _, _, _, rfl, .ty "bool", .base (.int _), by rfl, false, rfl, true, rfl, ?_⟩
    refine ⟨_, rfl, _, rfl, _, _, rfl, rfl, _, rfl, ?_⟩
    refine ite2 (fun h => ?_) (fun h => ?_)
    · refine ⟨_, rfl, _, _, rfl, rfl, ?_⟩
      rw [decide_eq_true (of_decide_eq_true h)] at q
      exact q
    · rw [Bool.eq_false_iff.mpr h] at q
      exact q
theorem scIsName : FnScope ["thing", "sign"] ["thing"] (defScope sIsName) := ⟨rfl, rfl, rfl, by decide +kernel, rfl, by decide +kernel, by decide +kernel⟩
theorem at0 {α : Type} {xs : List α} {c : α} (h : xs[0]? = some c) : atI xs 0 = some c := by show atI xs ((0 : Nat) : Int) = some c; exact atI_nat h
theorem ok_isname {f : Addr} {fd : FuncData} (F : Fun K "is_name" "is_name" sIsName f fd) (T : TxN mg) : FnOk P w K mg base CX0 1 f fd ["thing"] spIsName := by
  refine F.ok scIsName (fun vs H Q E h => ?_) (fun cdv A outer s H vs Q E hr h => ?_)
  · obtain ⟨x, rfl, _⟩ := h
    rfl
  · obtain ⟨x, rfl, ⟨h1, h8, ⟨c0, hc0, hl0⟩, hall⟩, q⟩ := h
    obtain ⟨tl, gl⟩ := T.lets
    obtain ⟨tf, gf⟩ := T.figs
    obtain ⟨tm, gm⟩ := T.most
    refine ⟨_, (pss_cons (ps_if (PW.pt (pw_or (pt_not (pt_val (pe_callB call_isi (by rfl) T.isi boot_isinstance (pa_cons (pv 0) (pa_cons (pe_bltn (v := .ty "str") (by rfl) T.str boot_str rfl) pa_nil))))) (pw_or1 (pt_not (pt_chain op_le op_le pe_int (pe_callB call_len_str (by rfl) T.len PySem.boot_len (pa_cons (pv 0) pa_nil)) (pe_glob (by rfl) gm rel_int))))))
        (pss_one (ps_ret pe_bl))
        pss_nil)
      (pss_cons (ps_if (pt_cmpR op_notIn_sign (pe_ix ix_str (pv 0) pe_int (fun _ _ => rfl)) (pe_glob (by rfl) gl rel_str) (by rfl))
        (pss_one (ps_ret pe_bl))
        pss_nil)
      (pss_one (ps_ret (pe_callB (cr_all rfl) (by rfl) T.all (by rfl) (pa_cons (pe_lc (own := [("sign", 1)]) (g := gName 1) (tt := tYes) rfl scIsName.nd (pi_str (pv 0)) (blkOk_by (own := [("sign", 1)]) (N := ["thing", "sign"]) (sc := defScope sIsName) (by decide +kernel)) (fun _ _ _ _ _ => pg_name (i := 1) scIsName.nd rfl (Or.inl rfl)) (fun _ _ _ _ _ => pts_nil) (fun _ _ _ _ _ => (pe_or (pe_cmpR op_in_sign (pv 1) (pe_glob (by rfl) gl rel_str) (by rfl)) (pe_one (pe_cmpR op_in_sign (pv 1) (pe_glob (by rfl) gf rel_str) (by rfl)))))) pa_nil)))))), ?_⟩
    have hsz : x.length ≤ sizeLine := Nat.le_trans h8 (by decide)
    refine ⟨_, rfl, _, _, _, _, _, rfl, .ty "str", .base (.str _), by rfl, true, rfl, ?_⟩
    refine ⟨_, rfl, _, rfl, hsz, _, _, rfl, rfl, _, rfl, ?_⟩
    refine ite2 (fun h => ?_) (fun h => absurd (decide_eq_true (by show (1 : Int) ≤ _; omega)) h)
    refine ⟨_, _, rfl, rfl, _, rfl, ?_⟩
    refine ite2 (fun h => absurd h (by rw [decide_eq_true (by show ((x.length : Nat) : Int) ≤ 8; omega)]; decide)) (fun _ => ?_)
    refine ⟨_, rfl, _, _, _, rfl, rfl, hsz, at0 hc0, _, _, rfl, rfl, _, rfl, ?_⟩
    refine ite2 (fun h => absurd h (by rw [decide_eq_true hl0]; decide)) (fun _ => ?_)
    refine ⟨_, rfl, _, rfl, fun D hD => lc_it walk_str (fun i H' => ∃ bs : List Bool, H' = upd H D (.lst (bs.map V.bl)) ∧ bs.length = i ∧ ∀ b ∈ bs, b = true) ⟨[], rfl, rfl, fun b h => (nomatch h)⟩ (fun _ _ _ _ => trivial) ?_ ?_⟩
    · rintro i v H1 H2 hi ⟨bs, rfl, hb, hall'⟩ ⟨rfl, c, hc, rfl⟩
      refine ⟨rfl, _, rfl, _, _, rfl, rfl, _, rfl, ?_⟩
      have hm : c ∈ x.cps.toList := by rw [← Array.getElem?_toList] at hc; exact List.mem_of_getElem? hc
      have fin : ∃ acc, upd H D (.lst (bs.map V.bl)) D = some (.lst acc) ∧ acc.length < sizeLine ∧ ∃ bs' : List Bool, upd (upd H D (.lst (bs.map V.bl))) D (.lst (acc ++ [V.bl true])) = upd H D (.lst (bs'.map V.bl)) ∧ bs'.length = i + 1 ∧ ∀ b ∈ bs', b = true :=
        ⟨_, upd_same, by rw [List.length_map, hb]; exact Nat.lt_of_lt_of_le hi hsz, bs ++ [true], by rw [upd_upd, List.map_append]; rfl, by rw [List.length_append, hb]; rfl, fun b h => by
          rcases List.mem_append.mp h with h | h
          · exact hall' b h
          · simpa using h⟩
      refine ite2 (fun h => fin) (fun h => ?_)
      refine ⟨_, rfl, _, _, rfl, rfl, ?_⟩
      rw [decide_eq_true ((hall c hm).resolve_left fun z => h (decide_eq_true z))]
      exact fin
    · rintro H1 ⟨bs, rfl, hb, hall'⟩
      refine ⟨_, _, rfl, SqL.of upd_same, ?_⟩
      rw [show bs.all id = true from List.all_eq_true.mpr fun b hb => hall' b hb]
      exact q _ fun b o z => by rw [upd_ne (ne_of_none z hD)]; exact z
end
end Mc
namespace Mc
open PySem L2 PySem.Spec PyProof.Rows
abbrev sChkM : Stmt := top 21
abbrev sChkC : Stmt := top 22
abbrev sCInit : Stmt := inClass (top 19) 0
abbrev sSInit : Stmt := inClass (top 20) 0
def kvI (l : List (PySem.Str × Int)) : List (L2.Key × V) := l.map fun x => (Sum.inr x.1, .int x.2)
/-- a call at o: worth and masts -/
structure CallH (K : PySem.W.Frag) (C : Addr) (H : Hp) (o : Addr) (wt : Int) (hs : List PySem.Str) : Prop where
  here : ∃ dx h, H o = some (.ins C dx [("worth", .int wt), ("heard", .ref h)]) ∧ H h = some (.tup (hs.map V.str))
def spChkM : Sp := fun vs H Q _ => ∃ (m : PySem.Str) (n : Int), vs = [.str m, .int n] ∧ okN m ∧ 0 ≤ n ∧ n ≤ 1000 ∧ ∀ H', Same H H' → Q .non H'
def spChkC (K : PySem.W.Frag) (C : Addr) : Sp := fun vs H Q _ => ∃ (c : PySem.Str) (o ch : Addr) (wt : Int) (hs : List PySem.Str) (kvs : List (L2.Key × V)), vs = [.str c, .ref o, .ref ch] ∧ okN c ∧ CallH K C H o wt hs ∧ 0 ≤ wt ∧ wt ≤ 1000 ∧ H ch = some (.dK kvs) ∧
  hs.Nodup ∧ hs.length < 64 ∧ (∀ m ∈ hs, ∃ v, valV kvs (Sum.inr m) = some v) ∧ ∀ H', Same H H' → Q .non H'
structure TxS (K : PySem.W.Frag) (mg : PySem.Str → Option Value) (C : Addr) : Prop where
  cl : Cls K C
  nW : NoAttr K C "worth"
  nH : NoAttr K C "heard"
  lim : ∃ t, mg "LIMIT" = some (.int 1000 t)
  len : mg "len" = none
  set : mg "set" = none
  tuple : mg "tuple" = none
  sorted : mg "sorted" = none
section
variable {P : Program} {w : World} {K : PySem.W.Frag} {mg : PySem.Str → Option Value} {base : Heap}
theorem scChkM : FnScope ["mast", "many"] ["mast", "many"] (defScope sChkM) := ⟨rfl, rfl, rfl, by decide +kernel, rfl, by decide +kernel, by decide +kernel⟩
theorem ok_chkM {f C : Addr} {fd : FuncData} (F : Fun K "check_mast" "check_mast" sChkM f fd) (T : TxS K mg C) (c_is_name : Cal P w K mg base 1 "is_name" ["thing"] spIsName) (c_is_number : Cal P w K mg base 1 "is_number" ["thing", "low", "high"] spIsNum) :
    FnOk P w K mg base CX0 2 f fd ["mast", "many"] spChkM := by
  refine F.ok scChkM (fun vs H Q E h => ?_) (fun cdv A outer s H vs Q E hr h => ?_)
  · obtain ⟨m, n, rfl, _⟩ := h
    rfl
  · obtain ⟨m, n, rfl, hm, h0, h1, q⟩ := h
    obtain ⟨tl, gl⟩ := T.lim
    refine ⟨_, (pss_cons (ps_if (pt_not (pt_val (pe_cal c_is_name (hr.mono (by decide)) rfl (pa_cons (pv 0) pa_nil))))
        (pss_one ps_no)
        pss_nil)
      (pss_one (ps_if (pt_not (pt_val (pe_cal c_is_number (hr.mono (by decide)) rfl (pa_cons (pv 1) (pa_cons pe_int (pa_cons (pe_glob (by rfl) gl rel_int) pa_nil))))))
        (pss_one ps_no)
        pss_nil))), ?_⟩
    refine ⟨_, rfl, _, rfl, hm, fun H1 s1 => ⟨true, rfl, _, rfl, n, 0, 1000, rfl, _, rfl, ?_⟩⟩
    refine ite2 (fun h => absurd h (by rw [decide_eq_true h0, decide_eq_true h1]; decide)) (fun _ => ?_)
    exact q _ s1
abbrev sHasKey : Stmt := top 7
abbrev sChkH : Stmt := top 23
def spHasKey : Sp := fun vs H Q _ => ∃ (d : Addr) (x : PySem.Str) (kvs : List (L2.Key × V)), vs = [.ref d, .str x] ∧ H d = some (.dK kvs) ∧ Q (.bl (valV kvs (Sum.inr x)).isSome) H
def spChkH : Sp := fun vs H Q _ => ∃ (t ch : Addr) (hs : List PySem.Str) (kvs : List (L2.Key × V)), vs = [.ref t, .ref ch] ∧ H t = some (.tup (hs.map V.str)) ∧ H ch = some (.dK kvs) ∧
  hs.Nodup ∧ hs.length < 64 ∧ (∀ m ∈ hs, ∃ v, valV kvs (Sum.inr m) = some v) ∧ ∀ H', Same H H' → Q .non H'
theorem scHasKey : FnScope ["table", "thing"] ["table", "thing"] (defScope sHasKey) := ⟨rfl, rfl, rfl, by decide +kernel, rfl, by decide +kernel, by decide +kernel⟩
theorem ok_haskey {f : Addr} {fd : FuncData} (F : Fun K "has_key" "has_key" sHasKey f fd) (hi : mg "isinstance" = none) (hst : mg "str" = none) : FnOk P w K mg base CX0 1 f fd ["table", "thing"] spHasKey := by
  refine F.ok scHasKey (fun vs H Q E h => ?_) (fun cdv A outer s H vs Q E hr h => ?_)
  · obtain ⟨d, x, kvs, rfl, _⟩ := h
    rfl
  · obtain ⟨d, x, kvs, rfl, hd, q⟩ := h
    have hu := hu_of hr
    refine ⟨_, (pss_one (ps_ret (pe_and (pe_callB call_isi (by rfl) hi boot_isinstance (pa_cons (pv 1) (pa_cons (pe_bltn (v := .ty "str") (by rfl) hst boot_str rfl) pa_nil))) (pe_one (pe_cmp (pc_din hu (pv 1) (pv 0)) rfl))))), ?_⟩
    refine ⟨_, rfl, _, _, _, _, _, rfl, .ty "str", .base (.str _), by rfl, true, rfl, ?_⟩
    refine ite2 (fun _ => ?_) (fun h => absurd rfl h)
    exact ⟨_, rfl, _, rfl, d, _, rfl, DGet.k (k := Sum.inr x) hd, q⟩
theorem scChkH : FnScope ["heard", "channels", "known", "mast"] ["heard", "channels"] (defScope sChkH) := ⟨rfl, rfl, rfl, by decide +kernel, rfl, by decide +kernel, by decide +kernel⟩
theorem ok_chkH {f C : Addr} {fd : FuncData} (F : Fun K "check_heard" "check_heard" sChkH f fd) (T : TxS K mg C) (c_has_key : Cal P w K mg base 1 "has_key" ["table", "thing"] spHasKey) :
    FnOk P w K mg base CX0 2 f fd ["heard", "channels"] spChkH := by
  refine F.ok scChkH (fun vs H Q E h => ?_) (fun cdv A outer s H vs Q E hr h => ?_)
  · obtain ⟨t, ch, hs, kvs, rfl, _⟩ := h
    rfl
  · obtain ⟨hh, ch, hs, kvs, rfl, hq1, hch1, nd, h64, hin, q⟩ := h
    have hu := hu_of hr
    refine ⟨_, (pss_cons (ps_setLc (i := 2) (own := [("mast", 3)]) (g := gName 3) rfl scChkH.nd rfl rfl (sw_true rfl rfl rfl (by decide +kernel)) (pi_tup (pv 0)) (blkOk_by (own := [("mast", 3)]) (N := ["heard", "channels", "known", "mast"]) (sc := defScope sChkH) (by decide +kernel)) (fun _ _ _ _ _ => pg_name (i := 3) scChkH.nd rfl (Or.inl rfl)) (fun _ _ _ _ _ => pts_one (pt_val (pe_cal c_has_key (hr.mono (by decide)) rfl (pa_cons (pv 1) (pa_cons (pv 3) pa_nil))))) (fun _ _ _ _ _ => (pv 3)))
      (pss_one (ps_if (PW.pt (pw_or (pt_cmpR op_lt (pe_callB call_len_seq (by rfl) T.len PySem.boot_len (pa_cons (pv 2) pa_nil)) (pe_callB call_len_seq (by rfl) T.len PySem.boot_len (pa_cons (pv 0) pa_nil)) (nomark _)) (pw_or1 (pt_cmpR op_lt (pe_callB call_lenK (by rfl) T.len PySem.boot_len (pa_cons (pe_callTy (cr_setS rfl) (by rfl) T.set boot_set (pa_cons (pv 2) pa_nil)) pa_nil)) (pe_callB call_len_seq (by rfl) T.len PySem.boot_len (pa_cons (pv 2) pa_nil)) (nomark _)))))
        (pss_one ps_no)
        pss_nil))), ?_⟩
    refine ⟨_, rfl, hh, rfl, ⟨_, SqT.of hq1⟩, fun D hD => lc_tup (K := K) (xs := hs.map V.str) (fun i H' => H' = upd H D (.lst ((hs.take i).map V.str))) (by simp) (fun i H' _ e => by subst e; exact SqT.of (by rw [upd_ne (ne_of_none hq1 hD)]; exact hq1)) ?_ ?_⟩
    · rintro i x H' hx rfl
      rw [List.getElem?_map] at hx
      cases hi : hs[i]? with
      | none => rw [hi] at hx; cases hx
      | some m =>
        rw [hi] at hx
        cases Option.some.inj hx
        have hm : m ∈ hs := List.mem_of_getElem? hi
        obtain ⟨v, hv⟩ := hin m hm
        refine ⟨rfl, _, rfl, _, rfl, ch, m, kvs, rfl, by rw [upd_ne (ne_of_none hch1 hD)]; exact hch1, ?_⟩
        rw [hv]
        refine ⟨true, rfl, ?_⟩
        refine ite2 (fun _ => ?_) (fun h => absurd rfl h)
        refine ⟨_, rfl, _, upd_same, ?_, ?_⟩
        · rw [List.length_map, List.length_take]
          exact Nat.lt_of_le_of_lt (Nat.min_le_right _ _) (Nat.lt_of_lt_of_le h64 (by decide))
        · rw [upd_upd, List.take_add_one, hi, List.map_append]
          rfl
    · rintro H' rfl
      rw [List.length_map, List.take_length]
      have s2 : Same H (upd H D (.lst (hs.map V.str))) := fun b o z => by rw [upd_ne (ne_of_none z hD)]; exact z
      have hD2 : (upd H D (.lst (hs.map V.str))) D = some (.lst (hs.map V.str)) := upd_same
      have hq2 := s2 _ _ hq1
      generalize upd H D (.lst (hs.map V.str)) = H2 at s2 hD2 hq2 ⊢
      refine ⟨_, rfl, D, hs.map V.str, rfl, .inl (SqL.of hD2), _, rfl, hh, hs.map V.str, rfl, .inr (SqT.of hq2), _, _, rfl, rfl, _, rfl, ?_⟩
      refine ite2 (fun h => absurd (of_decide_eq_true h) (Int.lt_irrefl _)) (fun _ => ?_)
      refine ⟨_, rfl, D, hs, rfl, SqL.of hD2, h64, fun p n hp hle hn => ?_⟩
      have hpD : D ≠ p := ne_of_none hD2 hp
      refine ⟨p, _, n, rfl, upd_same, by omega, _, rfl, D, hs.map V.str, rfl, .inl (SqL.of (by rw [upd_ne hpD]; exact hD2)), _, _, rfl, rfl, _, rfl, ?_⟩
      refine ite2 (fun h => absurd (of_decide_eq_true h) (by rw [hn nd, List.length_map]; exact Int.lt_irrefl _)) (fun _ => ?_)
      exact q _ fun b o z => by
        have z2 := s2 _ _ z
        rw [upd_ne (ne_of_none z2 hp)]; exact z2
theorem scChkC : FnScope ["name", "call", "channels"] ["name", "call", "channels"] (defScope sChkC) := ⟨rfl, rfl, rfl, by decide +kernel, rfl, by decide +kernel, by decide +kernel⟩
theorem ok_chkC {f C : Addr} {fd : FuncData} (F : Fun K "check_call" "check_call" sChkC f fd) (T : TxS K mg C) (c_is_name : Cal P w K mg base 1 "is_name" ["thing"] spIsName) (c_is_number : Cal P w K mg base 1 "is_number" ["thing", "low", "high"] spIsNum) (c_chkH : Cal P w K mg base 2 "check_heard" ["heard", "channels"] spChkH) :
    FnOk P w K mg base CX0 3 f fd ["name", "call", "channels"] (spChkC K C) := by
  refine F.ok scChkC (fun vs H Q E h => ?_) (fun cdv A outer s H vs Q E hr h => ?_)
  · obtain ⟨c, o, ch, wt, hs, kvs, rfl, _⟩ := h
    rfl
  · obtain ⟨c, o, ch, wt, hs, kvs, rfl, hc, ⟨⟨dx, hh, ho, hq⟩⟩, h0, h1, hch, nd, h64, hin, q⟩ := h
    obtain ⟨tl, gl⟩ := T.lim
    have hu := hu_of hr
    refine ⟨_, (pss_cons (ps_if (pt_not (pt_val (pe_cal c_is_name (hr.mono (by decide)) rfl (pa_cons (pv 0) pa_nil))))
        (pss_one ps_no)
        pss_nil)
      (pss_cons (ps_if (pt_not (pt_val (pe_cal c_is_number (hr.mono (by decide)) rfl (pa_cons (pe_fld (pv 1) rfl) (pa_cons pe_int (pa_cons (pe_glob (by rfl) gl rel_int) pa_nil))))))
        (pss_one ps_no)
        pss_nil)
      (pss_one (ps_expr (pe_cal c_chkH (hr.mono (by decide)) rfl (pa_cons (pe_fld (pv 1) rfl) (pa_cons (pv 2) pa_nil))))))), ?_⟩
    refine ⟨_, rfl, _, rfl, hc, fun H1 s1 => ⟨true, rfl, _, rfl, _, _, _, _, _, rfl, s1 _ _ ho, T.cl, T.nW, rfl, wt, 0, 1000, rfl, _, rfl, ?_⟩⟩
    refine ite2 (fun h => absurd h (by rw [decide_eq_true h0, decide_eq_true h1]; decide)) (fun _ => ?_)
    have hq1 := s1 _ _ hq
    have hch1 := s1 _ _ hch
    have ho1 := s1 _ _ ho
    exact ⟨_, rfl, _, _, _, _, _, rfl, ho1, T.cl, T.nH, rfl, _, rfl, hh, ch, hs, kvs, rfl, hq1, hch1, nd, h64, hin, fun H2 s2 => q H2 (s1.trans s2)⟩
def spCInit (K : PySem.W.Frag) (C : Addr) : Sp := fun vs H Q _ => ∃ (p dx l : Addr) (wt : Int) (hs : List PySem.Str), vs = [.ref p, .int wt, .ref l] ∧ H p = some (.ins C dx []) ∧ H l = some (.lst (hs.map V.str)) ∧ hs.length < 64 ∧
  ∀ (ys : List PySem.Str) (H' : Hp), ys.Perm hs → sortedS ys = true → CallH K C H' p wt ys → Kp [p] H H' → Q .non H'
theorem scCI : FnScope ["self", "worth", "heard"] ["self", "worth", "heard"] (defScope sCInit) := ⟨rfl, rfl, rfl, by decide +kernel, rfl, by decide +kernel, by decide +kernel⟩
theorem ok_cinit {f C : Addr} {fd : FuncData} (F : Fun K "__init__" "Call.__init__" sCInit f fd) (T : TxS K mg C) : FnOk P w K mg base CX0 1 f fd ["self", "worth", "heard"] (spCInit K C) := by
  refine F.ok scCI (fun vs H Q E h => ?_) (fun cdv A outer s H vs Q E hr h => ?_)
  · obtain ⟨p, dx, l, wt, hs, rfl, _⟩ := h
    rfl
  · obtain ⟨p, dx, l, wt, hs, rfl, hp, hl, h64, k⟩ := h
    refine ⟨_, (pss_cons (ps_fld (pv 0) (pv 1) rfl)
      (pss_one (ps_fld (pv 0) (pe_tupleOf (by rfl) T.tuple (pe_callB cr_sortedS (by rfl) T.sorted boot_sorted (pa_cons (pv 2) pa_nil))) rfl))), ?_⟩
    refine ⟨_, rfl, _, rfl, p, C, dx, [], rfl, hp, T.cl, T.nW, (by show 0 < 1000; decide), ?_⟩
    have lp : l ≠ p := fun e => by rw [e, hp] at hl; cases hl
    have hl1 : (upd H p (.ins C dx [("worth", .int wt)])) l = some (.lst (hs.map V.str)) := by rw [upd_ne lp]; exact hl
    refine ⟨_, rfl, l, hs, rfl, SqL.of hl1, h64, fun ys q hy hs' hq => ?_⟩
    have hqp : q ≠ p := fun e => by rw [e, upd_same] at hq; cases hq
    refine .inl ⟨q, ys.map V.str, rfl, SqL.of upd_same, fun t ht => ?_⟩
    have htq : q ≠ t := ne_of_none upd_same ht
    have htp : p ≠ t := ne_of_none (show (upd (upd H p (.ins C dx [("worth", .int wt)])) q (.lst (ys.map V.str))) p = some _ by rw [upd_ne hqp.symm]; exact upd_same) ht
    refine ⟨_, rfl, p, C, dx, [("worth", .int wt)], rfl, by rw [upd_ne htp, upd_ne hqp.symm]; exact upd_same, T.cl, T.nH, (by show 1 < 1000; decide), ?_⟩
    refine k ys _ hy hs' ⟨⟨dx, t, upd_same, by rw [upd_ne htp.symm]; exact upd_same⟩⟩ fun b o e n => ?_
    have nb : b ≠ p := fun z => n (List.mem_singleton.mpr z)
    have q0 : H q = none := by rw [upd_ne hqp] at hq; exact hq
    have t0 : H t = none := by rw [upd_ne htq.symm, upd_ne htp.symm] at ht; exact ht
    rw [upd_ne nb, upd_ne (ne_of_none e t0), upd_ne (ne_of_none e q0), upd_ne nb]
    exact e
end
abbrev CD := Addr × Int × List PySem.Str
abbrev Chs := List (PySem.Str × Int)
abbrev Cls' := List (PySem.Str × CD)
abbrev vI : Int → V := V.int
abbrev vO : CD → V := fun x => V.ref x.1
/-- what may stand in a scene -/
structure OkC (chs : Chs) (cls : Cls') : Prop where
  nd : (keysT chs).Nodup
  ndc : (keysT cls).Nodup
  len : chs.length < 64
  lenc : cls.length < 64
  ch : ∀ x ∈ chs, okN x.1 ∧ 0 ≤ x.2 ∧ x.2 ≤ 1000
  cl : ∀ x ∈ cls, okN x.1 ∧ 0 ≤ x.2.2.1 ∧ x.2.2.1 ≤ 1000 ∧ x.2.2.2.Nodup ∧ x.2.2.2.length < 64 ∧ ∀ m ∈ x.2.2.2, m ∈ keysT chs
def CallsH (K : PySem.W.Frag) (CC : Addr) (H : Hp) (cls : Cls') : Prop := ∀ x ∈ cls, CallH K CC H x.2.1 x.2.2.1 x.2.2.2
theorem rd_same {H H' : Hp} {a : Addr} {u : HO} (h : Rd H a u) (s : Same H H') : Rd H' a u := h.elim (fun z => .inl (s _ _ z)) fun ⟨o, z⟩ => .inr ⟨o, s _ _ z⟩
theorem rd_kp {F : List Addr} {H H' : Hp} {a : Addr} {u : HO} (h : Rd H a u) (k : Kp F H H') (n : a ∉ F) : Rd H' a u := h.elim (fun z => .inl (k _ _ z n)) fun ⟨o, z⟩ => .inr ⟨o, k _ _ z n⟩
theorem rd_is {H : Hp} {a : Addr} {u : HO} (h : Rd H a u) : ∃ o, H a = some o := h.elim (fun z => ⟨_, z⟩) fun ⟨o, z⟩ => ⟨_, z⟩
structure SceneH (K : PySem.W.Frag) (CS CC : Addr) (H : Hp) (p : Addr) (chs : Chs) (cls : Cls') : Prop where
  here : ∃ dx a b, H p = some (.ins CS dx [("channels", .ref a), ("calls", .ref b)]) ∧ Rd H a (.dK (kvT vI chs)) ∧ Rd H b (.dK (kvT vO cls))
  calls : CallsH K CC H cls
theorem CallH.same {K : PySem.W.Frag} {C : Addr} {H H' : Hp} {o : Addr} {wt : Int} {hs : List PySem.Str} (h : CallH K C H o wt hs) (s : Same H H') : CallH K C H' o wt hs := by
  obtain ⟨dx, q, a, b⟩ := h.here
  exact ⟨dx, q, s _ _ a, s _ _ b⟩
theorem CallsH.same {K : PySem.W.Frag} {C : Addr} {H H' : Hp} {cls : Cls'} (h : CallsH K C H cls) (s : Same H H') : CallsH K C H' cls := fun x hx => (h x hx).same s
theorem SceneH.same {K : PySem.W.Frag} {CS CC : Addr} {H H' : Hp} {p : Addr} {chs : Chs} {cls : Cls'} (h : SceneH K CS CC H p chs cls) (s : Same H H') : SceneH K CS CC H' p chs cls := by
  obtain ⟨dx, a, b, h1, h2, h3⟩ := h.here
  exact ⟨⟨dx, a, b, s _ _ h1, rd_same h2 s, rd_same h3 s⟩, h.calls.same s⟩
/-- its dicts lie open, their keys ascend -/
structure ScnX (CS : Addr) (H : Hp) (p : Addr) (chs : Chs) (cls : Cls') : Prop where
  here : ∃ dx a b, H p = some (.ins CS dx [("channels", .ref a), ("calls", .ref b)]) ∧ H a = some (.dK (kvT vI chs)) ∧ H b = some (.dK (kvT vO cls))
  sch : sortedS (keysT chs) = true
  scl : sortedS (keysT cls) = true
theorem ScnX.same {CS : Addr} {H H' : Hp} {p : Addr} {chs : Chs} {cls : Cls'} (h : ScnX CS H p chs cls) (s : Same H H') : ScnX CS H' p chs cls := by
  obtain ⟨dx, a, b, h1, h2, h3⟩ := h.here
  exact ⟨⟨dx, a, b, s _ _ h1, s _ _ h2, s _ _ h3⟩, h.sch, h.scl⟩
def spSInit (K : PySem.W.Frag) (CS CC : Addr) : Sp := fun vs H Q _ => ∃ (p dx ch cl : Addr) (chs : Chs) (cls : Cls'), vs = [.ref p, .ref ch, .ref cl] ∧ ch ≠ cl ∧ H p = some (.ins CS dx []) ∧ H ch = some (.dK (kvT vI chs)) ∧ H cl = some (.dK (kvT vO cls)) ∧ OkC chs cls ∧ CallsH K CC H cls ∧
  ∀ (chs' : Chs) (cls' : Cls') (H' : Hp), chs'.Perm chs → cls'.Perm cls → SceneH K CS CC H' p chs' cls' → ScnX CS H' p chs' cls' → Kp [p] H H' → Q .non H'
structure TxC (K : PySem.W.Frag) (mg : PySem.Str → Option Value) (C : Addr) : Prop where
  cl : Cls K C
  nCh : NoAttr K C "channels"
  nCa : NoAttr K C "calls"
  sorted : mg "sorted" = none
section
variable {P : Program} {w : World} {K : PySem.W.Frag} {mg : PySem.Str → Option Value} {base : Heap}
theorem scSI : FnScope ["self", "channels", "calls", "mast", "name"] ["self", "channels", "calls"] (defScope sSInit) := ⟨rfl, rfl, rfl, by decide +kernel, rfl, by decide +kernel, by decide +kernel⟩
theorem ok_sinit {f CS CC : Addr} {fd : FuncData} (F : Fun K "__init__" "Scene.__init__" sSInit f fd) (T : TxC K mg CS) (c_check_mast : Cal P w K mg base 2 "check_mast" ["mast", "many"] spChkM) (c_check_call : Cal P w K mg base 3 "check_call" ["name", "call", "channels"] (spChkC K CC)) :
    FnOk P w K mg base CX0 4 f fd ["self", "channels", "calls"] (spSInit K CS CC) := by
  refine F.ok scSI (fun vs H Q E h => ?_) (fun cdv A outer s H vs Q E hr h => ?_)
  · obtain ⟨p, dx, ch, cl, chs, cls, rfl, _⟩ := h
    rfl
  · obtain ⟨p, dx, ch, cl, chs, cls, rfl, hne, hp, hch, hcl, ok, hC, k⟩ := h
    have hu := hu_of hr
    refine ⟨_, (pss_cons (ps_lock (ps_for PassesOwn.never rfl (pi_keys (pv 1)) (pg_name (i := 3) scSI.nd rfl (Or.inl rfl))
        (pss_one (ps_expr (pe_cal c_check_mast (hr.mono (by decide)) rfl (pa_cons (pv 3) (pa_cons (pe_dget hu (pv 1) (pv 3) (fun _ _ => rfl)) pa_nil)))))))
      (pss_cons (ps_lock (ps_for PassesOwn.never rfl (pi_keys (pv 2)) (pg_name (i := 4) scSI.nd rfl (Or.inl rfl))
        (pss_one (ps_expr (pe_cal c_check_call (hr.mono (by decide)) rfl (pa_cons (pv 4) (pa_cons (pe_dget hu (pv 2) (pv 4) (fun _ _ => rfl)) (pa_cons (pv 1) pa_nil))))))))
      (pss_cons (ps_fld (pv 0) (pe_dc (own := [("mast", 3)]) (g := gName 3) (tt := tYes) rfl scSI.nd (pi_list (pe_callB (call_sortedD rfl) (by rfl) T.sorted boot_sorted (pa_cons (pv 1) pa_nil))) (blkOk_by (own := [("mast", 3)]) (N := ["self", "channels", "calls", "mast", "name"]) (sc := defScope sSInit) (by decide +kernel)) (fun _ _ _ _ _ => pg_name (i := 3) scSI.nd rfl (Or.inl rfl)) (fun _ _ _ _ _ => pts_nil) (fun _ _ _ _ _ => (pv 3)) (fun _ _ _ _ _ => (pe_dget hu (pv 1) (pv 3) (fun _ _ => rfl)))) rfl)
      (pss_one (ps_fld (pv 0) (pe_dc (own := [("name", 4)]) (g := gName 4) (tt := tYes) rfl scSI.nd (pi_list (pe_callB (call_sortedD rfl) (by rfl) T.sorted boot_sorted (pa_cons (pv 2) pa_nil))) (blkOk_by (own := [("name", 4)]) (N := ["self", "channels", "calls", "mast", "name"]) (sc := defScope sSInit) (by decide +kernel)) (fun _ _ _ _ _ => pg_name (i := 4) scSI.nd rfl (Or.inl rfl)) (fun _ _ _ _ _ => pts_nil) (fun _ _ _ _ _ => (pv 4)) (fun _ _ _ _ _ => (pe_dget hu (pv 2) (pv 4) (fun _ _ => rfl)))) rfl))))), ?_⟩
    have kvg : ∀ {kvs : List (L2.Key × V)}, kvs = kvs := rfl
    -- the masts
    refine ⟨ch, _, hch, trivial, fun od => ⟨_, rfl, ch, od, rfl, .inl ⟨_, upd_same, for_it walk_keys (fun _ σ H' => (∃ v3 v4, σ = [some (.ref p), some (.ref ch), some (.ref cl), v3, v4]) ∧ Same (upd H ch (.frz od (.dK (kvT vI chs)))) H') ⟨⟨_, _, rfl⟩, Same.refl _⟩ (fun i σ H' _ pv => pv.2 _ _ upd_same) ?_ ?_⟩⟩⟩
    · rintro i x σ _ H1 hi ⟨⟨v3, v4, rfl⟩, s1⟩ ⟨rfl, kk, v, hk, rfl⟩
      obtain ⟨y, hy, rfl, rfl⟩ := kvT_get hk
      have hm : y ∈ chs := List.mem_of_getElem? hy
      obtain ⟨o1, o2, o3⟩ := ok.ch y hm
      refine ⟨_, rfl, _, rfl, _, rfl, ch, _, rfl, dgetT (.inr ⟨od, s1 _ _ upd_same⟩) (getT_mem ok.nd hm), y.1, y.2, rfl, o1, o2, o3, fun H2 s2 => ⟨⟨_, _, rfl⟩, s1.trans s2⟩⟩
    · rintro σ H1 ⟨⟨v3, v4, rfl⟩, s1⟩
      refine ⟨s1 _ _ upd_same, ?_⟩
      have s2 := un_same s1 hch
      generalize upd H1 ch (.dK (kvT vI chs)) = H2 at s2
      have hch2 := s2 _ _ hch
      have hcl2 := s2 _ _ hcl
      have hC2 := hC.same s2
      clear s1
      -- the calls
      refine ⟨cl, _, hcl2, trivial, fun od => ⟨_, rfl, cl, od, rfl, .inl ⟨_, upd_same, for_it walk_keys (fun _ σ H' => (∃ v3 v4, σ = [some (.ref p), some (.ref ch), some (.ref cl), v3, v4]) ∧ Same (upd H2 cl (.frz od (.dK (kvT vO cls)))) H') ⟨⟨_, _, rfl⟩, Same.refl _⟩ (fun i σ H' _ pv => pv.2 _ _ upd_same) ?_ ?_⟩⟩⟩
      · rintro i x σ _ H1 hi ⟨⟨v3, v4, rfl⟩, s1⟩ ⟨rfl, kk, v, hk, rfl⟩
        obtain ⟨y, hy, rfl, rfl⟩ := kvT_get hk
        have hm : y ∈ cls := List.mem_of_getElem? hy
        obtain ⟨o1, o2, o3, o4, o5, o6⟩ := ok.cl y hm
        have s3 : ∀ b, b ≠ cl → ∀ o, H2 b = some o → H1 b = some o := fun b n o z => s1 _ _ (by rw [upd_ne n]; exact z)
        obtain ⟨dx', h', c1, c2⟩ := (hC2 y hm).here
        have n1 : y.2.1 ≠ cl := fun e => by rw [e, hcl2] at c1; cases c1
        have n2 : h' ≠ cl := fun e => by rw [e, hcl2] at c2; cases c2
        refine ⟨_, rfl, _, rfl, _, rfl, cl, _, rfl, dgetT (.inr ⟨od, s1 _ _ upd_same⟩) (getT_mem ok.ndc hm), _, rfl, y.1, y.2.1, ch, y.2.2.1, y.2.2.2, kvT vI chs, rfl, o1, ⟨dx', h', s3 _ n1 _ c1, s3 _ n2 _ c2⟩, o2, o3, s3 _ hne _ hch2, o4, o5, fun m hm => ?_, fun H2 s2 => ⟨⟨_, _, rfl⟩, s1.trans s2⟩⟩
        obtain ⟨n, hn⟩ := getT_key (o6 m hm)
        exact ⟨V.int n, by rw [val_T, hn]; rfl⟩
      · rintro σ H1 ⟨⟨v3, v4, rfl⟩, s1⟩
        refine ⟨s1 _ _ upd_same, ?_⟩
        have s3 := s2.trans (un_same s1 hcl2)
        generalize upd H1 cl (.dK (kvT vO cls)) = H3 at s3
        clear s1 s2 hch2 hcl2 hC2
        have hp3 := s3 _ _ hp
        have hch3 := s3 _ _ hch
        have hcl3 := s3 _ _ hcl
        refine ⟨_, rfl, ch, kvT vI chs, keysT chs, rfl, .inl hch3, keysT_kv chs, by unfold keysT; rw [List.length_map]; exact ok.len, fun ys q hy hys hq => ?_⟩
        have ndy : ys.Nodup := (hy.nodup_iff).mpr ok.nd
        have leny : ys.length = chs.length := by rw [hy.length_eq]; unfold keysT; rw [List.length_map]
        have s4 : Same H3 (upd H3 q (.lst (ys.map V.str))) := fun b o z => by rw [upd_ne (ne_of_none z hq)]; exact z
        have hq4 : (upd H3 q (.lst (ys.map V.str))) q = some (.lst (ys.map V.str)) := upd_same
        generalize upd H3 q (.lst (ys.map V.str)) = H4 at s4 hq4 ⊢
        refine ⟨q, rfl, ⟨_, SqL.of hq4⟩, fun D hD => dc_list (K := K) (xs := ys.map V.str) (fun i H' => H' = upd H4 D (.dK (kvT vI ((ys.take i).map fun y => (y, (getT chs y).getD default))))) rfl (fun i H' _ e => by subst e; exact SqL.of (by rw [upd_ne (ne_of_none hq4 hD)]; exact hq4)) ?_ ?_⟩
        · rintro i x H' hx rfl
          rw [List.getElem?_map] at hx
          cases hi : ys[i]? with
          | none => rw [hi] at hx; cases hx
          | some m =>
            rw [hi] at hx
            cases Option.some.inj hx
            obtain ⟨v, hv⟩ := getT_key (hy.mem_iff.mp (List.mem_of_getElem? hi))
            refine ⟨rfl, _, rfl, _, rfl, _, rfl, ch, _, rfl, dgetT (.inl (by rw [upd_ne (ne_of_none (s4 _ _ hch3) hD)]; exact s4 _ _ hch3)) hv, _, Sum.inr m, rfl, upd_same, ?_, ?_⟩
            · exact len_mk (by rw [leny]; exact ok.len)
            · rw [upd_upd]
              have e : vI v = vI ((getT chs m).getD default) := by rw [hv]; rfl
              rw [e, put_mk ndy hi]
        · rintro H' rfl
          rw [List.length_map, List.take_length]
          have pm := perm_T ok.nd hy
          have kz1 : keysT (ys.map fun y => (y, (getT chs y).getD default)) = ys := by unfold keysT; rw [List.map_map]; exact List.map_id _
          generalize (ys.map fun y => (y, (getT chs y).getD default)) = chs' at pm kz1 ⊢
          have s5 : Same H3 (upd H4 D (.dK (kvT vI chs'))) := fun b o z => by rw [upd_ne (ne_of_none (s4 _ _ z) hD)]; exact s4 _ _ z
          have hD5 : (upd H4 D (.dK (kvT vI chs'))) D = some (.dK (kvT vI chs')) := upd_same
          generalize upd H4 D (.dK (kvT vI chs')) = H5 at s5 hD5
          have hp5 := s5 _ _ hp3
          refine ⟨_, rfl, p, CS, dx, [], rfl, hp5, T.cl, T.nCh, (by show 0 < 1000; decide), ?_⟩
          rw [show putF "channels" (V.ref D) [] = ([("channels", V.ref D)] : List (PySem.Str × V)) from rfl]
          have far : ∀ b, b ≠ p → ∀ o, H b = some o → (upd H5 p (.ins CS dx [("channels", V.ref D)])) b = some o := fun b n o z => by rw [upd_ne n]; exact s5 _ _ (s3 _ _ z)
          have hDp : D ≠ p := fun e => by rw [e, hp5] at hD5; cases hD5
          have hD6 : (upd H5 p (.ins CS dx [("channels", V.ref D)])) D = some (.dK (kvT vI chs')) := by rw [upd_ne hDp]; exact hD5
          have hp6 : (upd H5 p (.ins CS dx [("channels", V.ref D)])) p = some (.ins CS dx [("channels", V.ref D)]) := upd_same
          generalize upd H5 p (.ins CS dx [("channels", V.ref D)]) = H6 at far hD6 hp6
          clear s5 hD5 hp5 s4 hq4 hD hq hch3 hp3
          have hcp : cl ≠ p := fun e => by rw [e, hp] at hcl; cases hcl
          have hcl6 := far _ hcp _ hcl
          refine ⟨_, rfl, cl, kvT vO cls, keysT cls, rfl, .inl hcl6, keysT_kv cls, by unfold keysT; rw [List.length_map]; exact ok.lenc, fun zs q2 hz hzs hq2 => ?_⟩
          have ndz : zs.Nodup := (hz.nodup_iff).mpr ok.ndc
          have lenz : zs.length = cls.length := by rw [hz.length_eq]; unfold keysT; rw [List.length_map]
          have s7 : Same H6 (upd H6 q2 (.lst (zs.map V.str))) := fun b o z => by rw [upd_ne (ne_of_none z hq2)]; exact z
          have hq7 : (upd H6 q2 (.lst (zs.map V.str))) q2 = some (.lst (zs.map V.str)) := upd_same
          generalize upd H6 q2 (.lst (zs.map V.str)) = H7 at s7 hq7 ⊢
          refine ⟨q2, rfl, ⟨_, SqL.of hq7⟩, fun E2 hE => dc_list (K := K) (xs := zs.map V.str) (fun i H' => H' = upd H7 E2 (.dK (kvT vO ((zs.take i).map fun y => (y, (getT cls y).getD default))))) rfl (fun i H' _ e => by subst e; exact SqL.of (by rw [upd_ne (ne_of_none hq7 hE)]; exact hq7)) ?_ ?_⟩
          · rintro i x H' hx rfl
            rw [List.getElem?_map] at hx
            cases hi : zs[i]? with
            | none => rw [hi] at hx; cases hx
            | some m =>
              rw [hi] at hx
              cases Option.some.inj hx
              obtain ⟨v, hv⟩ := getT_key (hz.mem_iff.mp (List.mem_of_getElem? hi))
              refine ⟨rfl, _, rfl, _, rfl, _, rfl, cl, _, rfl, dgetT (.inl (by rw [upd_ne (ne_of_none (s7 _ _ hcl6) hE)]; exact s7 _ _ hcl6)) hv, _, Sum.inr m, rfl, upd_same, ?_, ?_⟩
              · exact len_mk (by rw [lenz]; exact ok.lenc)
              · rw [upd_upd]
                have e : vO v = vO ((getT cls m).getD default) := by rw [hv]; rfl
                rw [e, put_mk ndz hi]
          · rintro H' rfl
            rw [List.length_map, List.take_length]
            have pm2 := perm_T ok.ndc hz
            have kz2 : keysT (zs.map fun y => (y, (getT cls y).getD default)) = zs := by unfold keysT; rw [List.map_map]; exact List.map_id _
            generalize (zs.map fun y => (y, (getT cls y).getD default)) = cls' at pm2 kz2 ⊢
            have s8 : Same H6 (upd H7 E2 (.dK (kvT vO cls'))) := fun b o z => by rw [upd_ne (ne_of_none (s7 _ _ z) hE)]; exact s7 _ _ z
            have hE8 : (upd H7 E2 (.dK (kvT vO cls'))) E2 = some (.dK (kvT vO cls')) := upd_same
            generalize upd H7 E2 (.dK (kvT vO cls')) = H8 at s8 hE8
            refine ⟨_, rfl, p, CS, dx, _, rfl, s8 _ _ hp6, T.cl, T.nCa, (by show 1 < 1000; decide), ?_⟩
            rw [show putF "calls" (V.ref E2) [("channels", V.ref D)] = ([("channels", V.ref D), ("calls", V.ref E2)] : List (PySem.Str × V)) from rfl]
            have hEp : E2 ≠ p := fun e => by rw [e, s8 _ _ hp6] at hE8; cases hE8
            refine k chs' cls' _ pm pm2 ⟨⟨dx, D, E2, upd_same, .inl (by rw [upd_ne hDp]; exact s8 _ _ hD6), .inl (by rw [upd_ne hEp]; exact hE8)⟩, fun x hx => ?_⟩ ⟨⟨dx, D, E2, upd_same, by rw [upd_ne hDp]; exact s8 _ _ hD6, by rw [upd_ne hEp]; exact hE8⟩, by rw [kz1]; exact hys, by rw [kz2]; exact hzs⟩ fun b o z n => by
              have nb : b ≠ p := fun z => n (List.mem_singleton.mpr z)
              rw [upd_ne nb]; exact s8 _ _ (far b nb o z)
            obtain ⟨dx', h', c1, c2⟩ := (hC x (pm2.mem_iff.mp hx)).here
            have n1 : x.2.1 ≠ p := fun e => by rw [e, hp] at c1; cases c1
            have n2 : h' ≠ p := fun e => by rw [e, hp] at c2; cases c2
            exact ⟨dx', h', by rw [upd_ne n1]; exact s8 _ _ (far _ n1 _ c1), by rw [upd_ne n2]; exact s8 _ _ (far _ n2 _ c2)⟩
end
end Mc
namespace Mc
open PySem L2 PySem.Spec PyProof.Rows
theorem lt_tri : ∀ a b : List Nat, ¬ a < b → a ≠ b → b < a
  | [], [], _, h => absurd rfl h
  | [], y :: b, h, _ => absurd (List.nil_lt_cons y b) h
  | x :: a, [], _, _ => List.nil_lt_cons x a
  | x :: a, y :: b, h, n => by
    rw [List.cons_lt_cons_iff] at h ⊢
    by_cases e : x = y
    · subst e
      exact .inr ⟨rfl, lt_tri a b (fun z => h (.inr ⟨rfl, z⟩)) fun z => n (by rw [z])⟩
    · exact .inl (by
        have : ¬ x < y := fun z => h (.inl z)
        omega)
def ltN (a b : PySem.Str) : Prop := a.cps.toList < b.cps.toList
instance (a b : PySem.Str) : Decidable (ltN a b) := inferInstanceAs (Decidable (_ < _))
theorem ltN_irr (a : PySem.Str) : ¬ ltN a a := List.lt_irrefl _
theorem ltN_trans {a b c : PySem.Str} (h : ltN a b) (k : ltN b c) : ltN a c := List.lt_trans h k
theorem ltN_tri {a b : PySem.Str} (h : ¬ ltN a b) (n : a ≠ b) : ltN b a := lt_tri _ _ h fun z => n (str_ext z)
section
variable {β : Type} {l : List (PySem.Str × β)} {k : PySem.Str} {v : β}
def AscT (l : List (PySem.Str × β)) : Prop := l.Pairwise fun x y => ltN x.1 y.1
def hiT (l : List (PySem.Str × β)) (k : PySem.Str) : List (PySem.Str × β) := l.filter fun x => decide (ltN k x.1)
def loT (l : List (PySem.Str × β)) (k : PySem.Str) : List (PySem.Str × β) := l.filter fun x => !decide (ltN k x.1)
theorem AscT.nodup (h : AscT l) : (keysT l).Nodup := by
  unfold keysT
  rw [List.Nodup, List.pairwise_map]
  exact List.Pairwise.imp (fun {a b} z e => by rw [e] at z; exact ltN_irr _ z) h
theorem AscT.split (h : AscT l) (k : PySem.Str) : l = loT l k ++ hiT l k := by
  induction l with
  | nil => rfl
  | cons x l ih =>
    have h' := List.pairwise_cons.mp h
    unfold loT hiT
    rw [List.filter_cons, List.filter_cons]
    by_cases e : ltN k x.1
    · have all : ∀ y ∈ l, ltN k y.1 := fun y hy => ltN_trans e (h'.1 y hy)
      rw [decide_eq_true e]
      have e1 : l.filter (fun x => !decide (ltN k x.1)) = [] := List.filter_eq_nil_iff.mpr fun y hy => by simp [all y hy]
      have e2 : l.filter (fun x => decide (ltN k x.1)) = l := List.filter_eq_self.mpr fun y hy => decide_eq_true (all y hy)
      simp [e1, e2]
    · rw [decide_eq_false e]
      have := ih h'.2
      unfold loT hiT at this
      simp only [Bool.not_false, if_true, Bool.false_eq_true, if_false, List.cons_append]
      rw [← this]
open Classical in
noncomputable def insT (l : List (PySem.Str × β)) (k : PySem.Str) (v : β) : List (PySem.Str × β) := if k ∈ keysT l then l.map (fun x => if x.1 = k then (x.1, v) else x) else loT l k ++ [(k, v)] ++ hiT l k
theorem getT_app (l' : List (PySem.Str × β)) : getT (l ++ l') k = (getT l k).or (getT l' k) := by
  induction l with
  | nil => rfl
  | cons x l ih =>
    rw [List.cons_append, getT_cons, getT_cons, ih]
    split <;> rfl
theorem getT_rep (c : PySem.Str) : getT (l.map fun x => if x.1 = k then (x.1, v) else x) c = if c = k then (getT l c).map (fun _ => v) else getT l c := by
  induction l with
  | nil => split <;> rfl
  | cons x l ih =>
    rw [List.map_cons, getT_cons, getT_cons, ih]
    by_cases e : x.1 = k
    · rw [if_pos e]
      show (if x.1 = c then some v else _) = _
      by_cases e2 : x.1 = c
      · rw [if_pos e2, if_pos e2, if_pos (e2.symm.trans e)]; rfl
      · rw [if_neg e2, if_neg e2]
    · rw [if_neg e]
      by_cases e2 : x.1 = c
      · rw [if_pos e2, if_pos e2, if_neg fun z => e (e2.trans z)]
      · rw [if_neg e2, if_neg e2]
theorem getT_ins (h : AscT l) (c : PySem.Str) : getT (insT l k v) c = if c = k then some v else getT l c := by
  unfold insT
  split
  case isTrue hk =>
    rw [getT_rep]
    split
    case isTrue e => subst e; obtain ⟨w, hw⟩ := getT_key hk; rw [hw]; rfl
    case isFalse e => rfl
  case isFalse hk =>
    have n : getT l k = none := getT_none.mpr hk
    rw [h.split k, getT_app] at n
    have n1 : getT (loT l k) k = none := by cases e : getT (loT l k) k with
      | none => rfl
      | some v => rw [e] at n; cases n
    rw [getT_app, getT_app, getT_cons]
    by_cases e : c = k
    · subst e; rw [if_pos rfl, if_pos rfl, n1]; rfl
    · rw [if_neg fun z => e z.symm, if_neg e]
      conv => rhs; rw [h.split k, getT_app]
      cases getT (loT l k) c <;> rfl
theorem AscT.ins (h : AscT l) : AscT (insT l k v) := by
  unfold insT
  split
  case isTrue hk =>
    unfold AscT
    rw [List.pairwise_map]
    refine List.Pairwise.imp (fun {a b} z => ?_) h
    have e : ∀ x : PySem.Str × β, (if x.1 = k then (x.1, v) else x).1 = x.1 := fun x => by split <;> rfl
    rw [e, e]; exact z
  case isFalse hk =>
    have hi : ∀ x ∈ hiT l k, ltN k x.1 := fun x hx => of_decide_eq_true (List.mem_filter.mp hx).2
    have lo : ∀ x ∈ loT l k, ltN x.1 k := fun x hx => by
      have h2 := List.mem_filter.mp hx
      refine ltN_tri (fun z => by simp [z] at h2) fun z => hk ?_
      rw [z]; exact List.mem_map.mpr ⟨x, h2.1, rfl⟩
    refine List.pairwise_append.mpr ⟨List.pairwise_append.mpr ⟨h.filter _, List.pairwise_singleton _ _, fun x hx y hy => ?_⟩, h.filter _, fun x hx y hy => ?_⟩
    · cases List.mem_singleton.mp hy; exact lo x hx
    · rcases List.mem_append.mp hx with hx | hx
      · exact ltN_trans (lo x hx) (hi y hy)
      · cases List.mem_singleton.mp hx; exact hi y hy
theorem ins_len : (insT l k v).length ≤ l.length + 1 := by
  unfold insT
  split
  · rw [List.length_map]; exact Nat.le_succ _
  · have h1 : (loT l k).length + (hiT l k).length ≤ l.length := by
      unfold loT hiT
      have : ∀ l : List (PySem.Str × β), (l.filter fun x => !decide (ltN k x.1)).length + (l.filter fun x => decide (ltN k x.1)).length = l.length := by
        intro l
        induction l with
        | nil => rfl
        | cons x l ih =>
          rw [List.filter_cons, List.filter_cons]
          cases decide (ltN k x.1) <;> simp <;> omega
      exact Nat.le_of_eq (this l)
    simp; omega
theorem keys_ins (h : AscT l) (c : PySem.Str) : c ∈ keysT (insT l k v) ↔ c = k ∨ c ∈ keysT l := by
  have key : ∀ l : List (PySem.Str × β), c ∈ keysT l ↔ getT l c ≠ none := fun l => by
    rw [Ne, getT_none]; exact ⟨fun h z => z h, fun h => Classical.byContradiction h⟩
  rw [key, key, getT_ins h]
  by_cases e : c = k
  · simp [e]
  · simp [e]
end
section
variable {β : Type} {l : List (PySem.Str × β)} {k : PySem.Str} {v : β}
theorem getT_not {A : List (PySem.Str × β)} {c : PySem.Str} (h : ∀ x ∈ A, x.1 ≠ c) : getT A c = none := getT_none.mpr fun z => by
  obtain ⟨x, hx, e⟩ := List.mem_map.mp z
  exact h x hx e
theorem keep_T {A : List (PySem.Str × β)} {c : PySem.Str} (h : ∀ x ∈ A, x.1 ≠ c) : A.filter (fun x => decide (x.1 ≠ c)) = A := List.filter_eq_self.mpr fun x hx => decide_eq_true (h x hx)
/-- one turn: y is taken out and put at the end -/
theorem turn_T {lo A B : List (PySem.Str × β)} {y z : PySem.Str × β} (h1 : ∀ x ∈ lo, x.1 ≠ y.1) (h2 : ∀ x ∈ A, x.1 ≠ y.1) (h3 : ∀ x ∈ B, x.1 ≠ y.1) (h4 : z.1 ≠ y.1) :
    getT (lo ++ (y :: B) ++ [z] ++ A) y.1 = some y.2 ∧ (lo ++ (y :: B) ++ [z] ++ A).filter (fun x => decide (x.1 ≠ y.1)) = lo ++ B ++ [z] ++ A ∧ y.1 ∉ keysT (lo ++ B ++ [z] ++ A) := by
  refine ⟨?_, ?_, ?_⟩
  · rw [getT_app, getT_app, getT_app, getT_not h1, getT_cons, if_pos rfl]; rfl
  · rw [List.filter_append, List.filter_append, List.filter_append, keep_T h1, keep_T h2, List.filter_cons, if_neg (by simp), keep_T h3, keep_T (A := [z]) (by intro x hx; cases List.mem_singleton.mp hx; exact h4)]
  · refine getT_none.mp (getT_not fun x hx => ?_)
    simp only [List.mem_append, List.mem_singleton] at hx
    rcases hx with ((hx | hx) | hx) | hx
    · exact h1 x hx
    · exact h3 x hx
    · rw [hx]; exact h4
    · exact h2 x hx
theorem hi_turn (h : AscT l) {i : Nat} {y : PySem.Str × β} (hy : (hiT l k)[i]? = some y) : (hiT l k).drop i = y :: (hiT l k).drop (i + 1) ∧ (hiT l k).take (i + 1) = (hiT l k).take i ++ [y] ∧
    (∀ x ∈ loT l k, x.1 ≠ y.1) ∧ (∀ x ∈ (hiT l k).take i, x.1 ≠ y.1) ∧ (∀ x ∈ (hiT l k).drop (i + 1), x.1 ≠ y.1) ∧ k ≠ y.1 := by
  obtain ⟨hl, e⟩ := List.getElem?_eq_some_iff.mp hy
  have ky : ltN k y.1 := of_decide_eq_true (List.mem_filter.mp (List.mem_of_getElem? hy)).2
  have d : (hiT l k).drop i = y :: (hiT l k).drop (i + 1) := by rw [List.drop_eq_getElem_cons hl, e]
  have asc : AscT (hiT l k) := h.filter _
  refine ⟨d, by rw [List.take_add_one, hy]; rfl, fun x hx z => ?_, fun x hx z => ?_, fun x hx z => ?_, fun z => ltN_irr _ (z ▸ ky)⟩
  · have := (List.mem_filter.mp hx).2
    rw [z] at this
    simp [ky] at this
  · have a := asc
    rw [← List.take_append_drop i (hiT l k), d] at a
    exact ltN_irr _ (z ▸ (List.pairwise_append.mp a).2.2 x hx y (by simp))
  · have a := asc
    rw [← List.take_append_drop i (hiT l k), d] at a
    exact ltN_irr _ (z ▸ (List.pairwise_cons.mp (List.pairwise_append.mp a).2.1).1 x hx)
end
theorem ins_map {β γ : Type} (g : β → γ) (l : List (PySem.Str × β)) (k : PySem.Str) (v : β) : insT (l.map fun x => (x.1, g x.2)) k (g v) = (insT l k v).map fun x => (x.1, g x.2) := by
  have ek : keysT (l.map fun x => (x.1, g x.2)) = keysT l := by unfold keysT; rw [List.map_map]; rfl
  unfold insT
  rw [ek]
  split
  · rw [List.map_map, List.map_map]
    refine List.map_congr_left fun x _ => ?_
    show (if x.1 = k then (x.1, g v) else (x.1, g x.2)) = _
    by_cases e : x.1 = k
    · rw [if_pos e]; show _ = ((if x.1 = k then (x.1, v) else x).1, g (if x.1 = k then (x.1, v) else x).2); rw [if_pos e]
    · rw [if_neg e]; show _ = ((if x.1 = k then (x.1, v) else x).1, g (if x.1 = k then (x.1, v) else x).2); rw [if_neg e]
  · rw [List.map_append, List.map_append]
    unfold loT hiT
    rw [List.filter_map, List.filter_map]
    rfl
end Mc
namespace Mc
open PySem L2 PySem.Spec PyProof.Rows
abbrev sPut : Stmt := top 8
theorem kvT_id {β : Type} (f : β → V) (l : List (PySem.Str × β)) : kvT f l = kvT id (l.map fun x => (x.1, f x.2)) := by
  unfold kvT; rw [List.map_map]; rfl
def spPutO : Sp := fun vs H Q _ => ∃ (t : Addr) (k : PySem.Str) (v : V) (l : List (PySem.Str × V)), vs = [.ref t, .str k, v] ∧ H t = some (.dK (kvT id l)) ∧ AscT l ∧ l.length < 1000 ∧
  ∀ H', H' t = some (.dK (kvT id (insT l k v))) → Kp [t] H H' → Q .non H'
section
variable {P : Program} {w : World} {K : PySem.W.Frag} {mg : PySem.Str → Option Value} {base : Heap}
theorem scPut : FnScope ["table", "key", "value", "later", "other"] ["table", "key", "value"] (defScope sPut) := ⟨rfl, rfl, rfl, by decide +kernel, rfl, by decide +kernel, by decide +kernel⟩
theorem ok_put {f : Addr} {fd : FuncData} (F : Fun K "put_in_order" "put_in_order" sPut f fd) : FnOk P w K mg base CX0 1 f fd ["table", "key", "value"] spPutO := by
  refine F.ok scPut (fun vs H Q E h => ?_) (fun cdv A outer s H vs Q E hr h => ?_)
  · obtain ⟨t, k, v, l, rfl, _⟩ := h
    rfl
  · obtain ⟨t, k, v, l, rfl, ht, asc, hl, q⟩ := h
    have hu := hu_of hr
    refine ⟨_, (pss_cons (ps_set (i := 3) scPut.nd rfl (Or.inl rfl) (pe_ifExp (pt_cmp (pc_din hu (pv 1) (pv 0))) (pe_lst pa_nil) (pe_lock (pe_lc (own := [("other", 4)]) (g := gName 4) rfl scPut.nd (pi_keys (pv 0)) (blkOk_by (own := [("other", 4)]) (N := ["table", "key", "value", "later", "other"]) (sc := defScope sPut) (by decide +kernel)) (fun _ _ _ _ _ => pg_name (i := 4) scPut.nd rfl (Or.inl rfl)) (fun _ _ _ _ _ => pts_one (pt_cmpR op_gt_str (pv 4) (pv 1) (nomark _))) (fun _ _ _ _ _ => (pv 4))))))
      (pss_cons (ps_dput hu (pv 0) (pv 1) (pv 2) rfl)
      (pss_one (ps_for PassesOwn.never rfl (pi_list (pv 3)) (pg_name (i := 4) scPut.nd rfl (Or.inl rfl))
        (pss_one (ps_dput hu (pv 0) (pv 4) (pe_dpop1 (pv 0) (pv 4) ⟨rfl, rfl, rfl, rfl⟩) rfl)))))), ?_⟩
    by_cases hk : k ∈ keysT l
    · obtain ⟨w, hw⟩ := getT_key hk
      refine ⟨_, rfl, _, rfl, t, _, rfl, dgetT (f := id) (.inl ht) hw, _, rfl, Nat.zero_le _, fun p hp => ?_⟩
      have ntp : t ≠ p := ne_of_none ht hp
      refine ⟨_, rfl, _, rfl, _, rfl, t, _, rfl, DPut.k (k := Sum.inr k) (by rw [upd_ne ntp]; exact ht) (by unfold kvT; rw [List.length_map]; exact Nat.lt_trans hl (by decide)), ?_⟩
      rw [show putK (kvT id l) (Sum.inr k : L2.Key) v = kvT id (insT l k v) from (put_old (f := id) (v := v) hk).trans (by unfold insT; rw [if_pos hk])]
      have ntp' : p ≠ t := ntp.symm
      refine ⟨_, rfl, p, rfl, ⟨[], SqL.of (by rw [upd_ne ntp']; exact upd_same)⟩, for_list (K := K) (xs := []) (fun _ _ H' => H' = upd (upd H p (.lst [])) t (.dK (kvT id (insT l k v)))) rfl (fun i σ H' _ e => by subst e; exact SqL.of (by rw [upd_ne ntp']; exact upd_same)) (fun i x σ H' e => (nomatch e)) ?_⟩
      rintro σ H' rfl
      exact q _ upd_same fun b o z n => by
        rw [upd_ne fun e => n (List.mem_singleton.mpr e), upd_ne (ne_of_none z hp)]; exact z
    · refine ⟨_, rfl, _, rfl, t, _, rfl, dgetN (f := id) (.inl ht), ?_⟩
      rw [getT_none.mpr hk]
      refine ⟨_, rfl, t, _, ht, trivial, fun od => ⟨_, rfl, t, od, rfl, .inl ⟨_, upd_same, fun D hD => lc_it walk_keys (fun i H' => H' = upd (upd H t (.frz od (.dK (kvT id l)))) D (.lst ((keysT (hiT (l.take i) k)).map V.str))) rfl ?_ ?_ ?_⟩⟩⟩
      · intro i H' _ e
        subst e
        show _ = _
        rw [upd_ne (ne_of_none upd_same hD)]; exact upd_same
      · rintro i x H1 H2 hi rfl ⟨rfl, kk, v', hk', rfl⟩
        obtain ⟨y, hy, rfl, rfl⟩ := kvT_get hk'
        have e1 : hiT (l.take (i + 1)) k = hiT (l.take i) k ++ (if ltN k y.1 then [y] else []) := by
          unfold hiT
          rw [List.take_add_one, hy, List.filter_append]
          congr 1
          show List.filter _ [y] = _
          rw [List.filter_cons]
          by_cases e : ltN k y.1
          · rw [if_pos e, if_pos (decide_eq_true e)]; rfl
          · rw [if_neg e, if_neg (by simp [e])]; rfl
        refine ⟨rfl, _, rfl, _, rfl, _, _, rfl, rfl, _, rfl, ?_⟩
        refine ite2 (fun h => ?_) (fun h => ?_)
        · refine ⟨_, rfl, _, upd_same, ?_, ?_⟩
          · rw [List.length_map]
            have h1 : (keysT (hiT (l.take i) k)).length ≤ i := by
              unfold keysT hiT; rw [List.length_map]
              exact Nat.le_trans (List.length_filter_le _ _) (by rw [List.length_take]; exact Nat.min_le_left _ _)
            have h2 : i < l.length := (List.getElem?_eq_some_iff.mp hy).1
            exact Nat.lt_of_le_of_lt h1 (Nat.lt_trans h2 (Nat.lt_trans hl (by decide)))
          · rw [upd_upd, e1, if_pos (show ltN k y.1 from of_decide_eq_true h)]
            unfold keysT
            rw [List.map_append, List.map_append]; rfl
        · rw [e1, if_neg (show ¬ ltN k y.1 from fun z => h (decide_eq_true z)), List.append_nil]
      · rintro H' rfl
        rw [show (kvT id l).length = l.length from List.length_map _, List.take_length]
        have htD : t ≠ D := ne_of_none (show (upd H t (.frz od (.dK (kvT id l)))) t = some _ from upd_same) hD
        have hHD : H D = none := by rw [upd_ne htD.symm] at hD; exact hD
        refine ⟨by rw [upd_ne htD]; exact upd_same, ?_⟩
        have e0 : upd (upd (upd H t (.frz od (.dK (kvT id l)))) D (.lst ((keysT (hiT l k)).map V.str))) t (.dK (kvT id l)) = upd H D (.lst ((keysT (hiT l k)).map V.str)) := by
          funext b
          by_cases e : b = t
          · subst e; rw [upd_same, upd_ne htD]; exact ht.symm
          · rw [upd_ne e]
            by_cases e2 : b = D
            · subst e2; rw [upd_same, upd_same]
            · rw [upd_ne e2, upd_ne e, upd_ne e2]
        rw [e0]
        have hDt : D ≠ t := htD.symm
        have hlen : ∀ x : List (PySem.Str × V), x.length ≤ l.length + 1 → (kvT id x).length < sizeLine := fun x hx => by
          unfold kvT; rw [List.length_map]; exact Nat.lt_of_le_of_lt hx (Nat.lt_trans (Nat.succ_lt_succ hl) (by decide))
        refine ⟨_, rfl, _, rfl, _, rfl, t, _, rfl, DPut.k (k := Sum.inr k) (by rw [upd_ne htD]; exact ht) (hlen l (Nat.le_succ _)), ?_⟩
        rw [show putK (kvT id l) (Sum.inr k : L2.Key) v = kvT id (l ++ [(k, v)]) from put_new (f := id) (v := v) hk]
        have sp := asc.split k
        have e3 : l ++ [(k, v)] = loT l k ++ (hiT l k).drop 0 ++ [(k, v)] ++ (hiT l k).take 0 := by rw [List.drop_zero, List.take_zero, List.append_nil, ← sp]
        refine ⟨_, rfl, D, rfl, ⟨_, SqL.of (by rw [upd_ne hDt]; exact upd_same)⟩, for_list (K := K) (xs := (keysT (hiT l k)).map V.str) (fun i σ H' => (∃ v4, σ = [some (.ref t), some (.str k), some v, some (.ref D), v4]) ∧
          H' = upd (upd H D (.lst ((keysT (hiT l k)).map V.str))) t (.dK (kvT id (loT l k ++ (hiT l k).drop i ++ [(k, v)] ++ (hiT l k).take i)))) ⟨⟨_, rfl⟩, by rw [e3]⟩ (fun i σ H' _ e => by rw [e.2]; exact SqL.of (by rw [upd_ne hDt]; exact upd_same)) ?_ ?_⟩
        · rintro i x σ H' hx ⟨⟨v4, rfl⟩, rfl⟩
          unfold keysT at hx
          rw [List.getElem?_map, List.getElem?_map] at hx
          cases hy : (hiT l k)[i]? with
          | none => rw [hy] at hx; cases hx
          | some y =>
            rw [hy] at hx
            cases Option.some.inj hx
            obtain ⟨d1, d2, n1, n2, n3, n4⟩ := hi_turn asc hy
            have tt := turn_T (z := (k, v)) n1 n2 n3 n4
            rw [d1]
            have hsz : (loT l k ++ (y :: (hiT l k).drop (i + 1)) ++ [(k, v)] ++ (hiT l k).take i).length = l.length + 1 := by
              have h1 := congrArg List.length sp
              have h2 : ((hiT l k).take i).length + (y :: (hiT l k).drop (i + 1)).length = (hiT l k).length := by rw [← d1, ← List.length_append, List.take_append_drop]
              simp only [List.length_append, List.length_cons, List.length_nil] at h1 h2 ⊢
              omega
            refine ⟨_, rfl, t, rfl, .inl ⟨_, .inl upd_same⟩, _, rfl, _, Sum.inr y.1, y.2, upd_same, rfl, ?_, ?_⟩
            · rw [val_T, tt.1]; rfl
            · refine ⟨_, rfl, _, rfl, t, _, rfl, DPut.k (k := Sum.inr y.1) upd_same ?_, ?_⟩
              · exact Nat.lt_of_le_of_lt (dropK_le _ _) (hlen _ (Nat.le_of_eq hsz))
              · refine ⟨⟨_, rfl⟩, ?_⟩
                rw [upd_upd, upd_upd, drop_T, tt.2.1, show putK (kvT id (loT l k ++ (hiT l k).drop (i + 1) ++ [(k, v)] ++ (hiT l k).take i)) (Sum.inr y.1 : L2.Key) y.2 = kvT id (loT l k ++ (hiT l k).drop (i + 1) ++ [(k, v)] ++ (hiT l k).take i ++ [(y.1, y.2)]) from put_new (f := id) (v := y.2) tt.2.2, d2]
                simp only [List.append_assoc]
        · rintro σ H' ⟨⟨v4, rfl⟩, rfl⟩
          have e4 : loT l k ++ (hiT l k).drop ((keysT (hiT l k)).map V.str).length ++ [(k, v)] ++ (hiT l k).take ((keysT (hiT l k)).map V.str).length = insT l k v := by
            unfold insT
            rw [if_neg hk]
            unfold keysT
            rw [List.length_map, List.length_map, List.drop_length, List.take_length, List.append_nil]
          rw [e4]
          exact q _ upd_same fun b o z n => by
            rw [upd_ne fun e => n (List.mem_singleton.mpr e), upd_ne (ne_of_none z hHD)]; exact z
end
end Mc
namespace Mc
open PySem L2 PySem.Spec PyProof.Rows
abbrev sKInit : Stmt := inClass (top 10) 0
abbrev sRoom : Stmt := inClass (top 10) 1
abbrev sAdd : Stmt := inClass (top 10) 2
abbrev sWay : Stmt := inClass (top 10) 3
abbrev sLead : Stmt := inClass (top 10) 4
abbrev sSPut : Stmt := inClass (top 10) 5
abbrev sSeatable : Stmt := top 0
abbrev vS : PySem.Str → V := V.str
abbrev vA : Addr → V := V.ref
abbrev SMs := SM PySem.Str
def ScM (chs : Chs) (cls : Cls') : Sc PySem.Str := ⟨keysT chs, fun m => ((getT chs m).getD 0).toNat, fun c => ((getT cls c).map (·.2.2)).getD []⟩
structure SeatH (CK : Addr) (H : Hp) (s sc a b : Addr) (adr : PySem.Str → Addr) (ms : List PySem.Str) (S : SMs) : Prop where
  here : ∃ dx, H s = some (.ins CK dx [("scene", .ref sc), ("seating", .ref a), ("seated", .ref b)])
  seating : ∃ st : List (PySem.Str × PySem.Str), H a = some (.dK (kvT vS st)) ∧ AscT st ∧ st.length < 500 ∧ ∀ c, getT st c = S.pos c
  seated : H b = some (.dK (kvT vA (ms.map fun m => (m, adr m))))
  on : ∀ m ∈ ms, H (adr m) = some (.lst ((S.on m).map V.str))
  inj : ∀ m ∈ ms, ∀ n ∈ ms, adr m = adr n → m = n
  dom : ∀ c m, S.pos c = some m → m ∈ ms
  nd : ms.Nodup
  ab : b ≠ a
theorem SeatH.get {CK : Addr} {H : Hp} {s sc a b : Addr} {adr : PySem.Str → Addr} {ms : List PySem.Str} {S : SMs} (h : SeatH CK H s sc a b adr ms S) {m : PySem.Str} (hm : m ∈ ms) : DGet H b (.str m) (some (.ref (adr m))) :=
  dgetT (f := vA) (.inl h.seated) (getT_mem (by rw [keysT_mk]; exact h.nd) (List.mem_map.mpr ⟨m, hm, rfl⟩))
/-- what may change -/
def fpS (a : Addr) (adr : PySem.Str → Addr) (ms : List PySem.Str) : List Addr := a :: ms.map adr
theorem SeatH.ne_a {CK : Addr} {H : Hp} {s sc a b : Addr} {adr : PySem.Str → Addr} {ms : List PySem.Str} {S : SMs} (h : SeatH CK H s sc a b adr ms S) : ∀ m ∈ ms, adr m ≠ a := fun m hm e => by
  obtain ⟨st, h1, _⟩ := h.seating
  rw [← e, h.on m hm] at h1; cases h1
theorem SeatH.not_s {CK : Addr} {H : Hp} {s sc a b : Addr} {adr : PySem.Str → Addr} {ms : List PySem.Str} {S : SMs} (h : SeatH CK H s sc a b adr ms S) {x : Addr} {o : HO} (hx : H x = some o) (n1 : ∀ l, o ≠ .lst l) (n2 : x ≠ a) : x ∉ fpS a adr ms := fun z => by
  rcases List.mem_cons.mp z with z | z
  · exact n2 z
  · obtain ⟨m, hm, e⟩ := List.mem_map.mp z
    rw [← e, h.on m hm] at hx
    exact n1 _ (Option.some.inj hx).symm
/-- the scene of the seats, and that it is none of what changes -/
structure ScnH (K : PySem.W.Frag) (CS CC : Addr) (H : Hp) (sc : Addr) (F : List Addr) (chs : Chs) (cls : Cls') : Prop where
  sc : ∃ dx x y, H sc = some (.ins CS dx [("channels", .ref x), ("calls", .ref y)]) ∧ Rd H x (.dK (kvT vI chs)) ∧ Rd H y (.dK (kvT vO cls)) ∧ sc ∉ F ∧ x ∉ F ∧ y ∉ F
  calls : ∀ x ∈ cls, ∃ dx h, H x.2.1 = some (.ins CC dx [("worth", .int x.2.2.1), ("heard", .ref h)]) ∧ H h = some (.tup (x.2.2.2.map V.str)) ∧ x.2.1 ∉ F ∧ h ∉ F
theorem ScnH.keep {K : PySem.W.Frag} {CS CC : Addr} {H H' : Hp} {sc : Addr} {F : List Addr} {chs : Chs} {cls : Cls'} (h : ScnH K CS CC H sc F chs cls) (k : Kp F H H') : ScnH K CS CC H' sc F chs cls := by
  obtain ⟨dx, x, y, h1, h2, h3, n1, n2, n3⟩ := h.sc
  refine ⟨⟨dx, x, y, k _ _ h1 n1, rd_kp h2 k n2, rd_kp h3 k n3, n1, n2, n3⟩, fun z hz => ?_⟩
  obtain ⟨dx, h', c1, c2, m1, m2⟩ := h.calls z hz
  exact ⟨dx, h', k _ _ c1 m1, k _ _ c2 m2, m1, m2⟩
structure TxK (K : PySem.W.Frag) (mg : PySem.Str → Option Value) (CK CS CC : Addr) : Prop where
  cl : Cls K CK
  n1 : NoAttr K CK "scene"
  n2 : NoAttr K CK "seating"
  n3 : NoAttr K CK "seated"
  clS : Cls K CS
  nCh : NoAttr K CS "channels"
  nCa : NoAttr K CS "calls"
  clC : Cls K CC
  nH : NoAttr K CC "heard"
  len : mg "len" = none
  list : mg "list" = none
def spRoom (K : PySem.W.Frag) (CK CS CC : Addr) : Sp := fun vs H Q _ => ∃ (s sc a b : Addr) (adr : PySem.Str → Addr) (chs : Chs) (S : SMs) (m : PySem.Str) (n : Int), vs = [.ref s, .str m] ∧ SeatH CK H s sc a b adr (keysT chs) S ∧
  (∃ dx x y, H sc = some (.ins CS dx [("channels", .ref x), ("calls", .ref y)]) ∧ Rd H x (.dK (kvT vI chs))) ∧ getT chs m = some n ∧ Q (.bl (decide (((S.on m).length : Int) < n))) H
def spSPut (CK : Addr) : Sp := fun vs H Q _ => ∃ (s sc a b : Addr) (adr : PySem.Str → Addr) (ms : List PySem.Str) (X : Sc PySem.Str) (S : SMs) (names : List PySem.Str) (c m : PySem.Str), vs = [.ref s, .str c, .str m] ∧ SeatH CK H s sc a b adr ms S ∧
  SOk X S names ∧ names.length < 400 ∧ m ∈ ms ∧ ∀ H', SeatH CK H' s sc a b adr ms (S.put c m) → Kp (fpS a adr ms) H H' → Q .non H'
section
variable {P : Program} {w : World} {K : PySem.W.Frag} {mg : PySem.Str → Option Value} {base : Heap}
theorem scRoom : FnScope ["self", "mast"] ["self", "mast"] (defScope sRoom) := ⟨rfl, rfl, rfl, by decide +kernel, rfl, by decide +kernel, by decide +kernel⟩
theorem ok_room {f CK CS CC : Addr} {fd : FuncData} (F : Fun K "has_room" "Seats.has_room" sRoom f fd) (T : TxK K mg CK CS CC) : FnOk P w K mg base CX0 1 f fd ["self", "mast"] (spRoom K CK CS CC) := by
  refine F.ok scRoom (fun vs H Q E h => ?_) (fun cdv A outer s H vs Q E hr h => ?_)
  · obtain ⟨s, sc, a, b, adr, chs, S, m, n, rfl, _⟩ := h
    rfl
  · obtain ⟨s, sc, a, b, adr, chs, S, m, n, rfl, hS, hC, hn, q⟩ := h
    have hu := hu_of hr
    refine ⟨_, (pss_one (ps_ret (pe_cmpR op_lt (pe_callB call_len_seq (by rfl) T.len PySem.boot_len (pa_cons (pe_dget hu (pe_fld (pv 0) rfl) (pv 1) (fun _ _ => rfl)) pa_nil)) (pe_dget hu (pe_fld (pe_fld (pv 0) rfl) rfl) (pv 1) (fun _ _ => rfl)) (nomark _)))), ?_⟩
    obtain ⟨dx, h1⟩ := hS.here
    obtain ⟨dx2, x, y, c1, c2⟩ := hC
    have hm : m ∈ keysT chs := Classical.byContradiction fun z => by rw [getT_none.mpr z] at hn; cases hn
    refine ⟨_, rfl, s, CK, dx, _, _, rfl, h1, T.cl, T.n3, rfl, _, rfl, b, _, rfl, hS.get hm, adr m, (S.on m).map V.str, rfl, .inl (SqL.of (hS.on m hm)), ?_⟩
    refine ⟨_, rfl, s, CK, dx, _, _, rfl, h1, T.cl, T.n1, rfl, sc, CS, dx2, _, _, rfl, c1, T.clS, T.nCh, rfl, _, rfl, x, _, rfl, dgetT c2 hn, _, _, rfl, rfl, ?_⟩
    rw [List.length_map]
    exact q
theorem scSPut : FnScope ["self", "name", "mast"] ["self", "name", "mast"] (defScope sSPut) := ⟨rfl, rfl, rfl, by decide +kernel, rfl, by decide +kernel, by decide +kernel⟩
theorem ok_sput {f CK CS CC : Addr} {fd : FuncData} (F : Fun K "put" "Seats.put" sSPut f fd) (T : TxK K mg CK CS CC) (c_put_in_order : Cal P w K mg base 1 "put_in_order" ["table", "key", "value"] spPutO) : FnOk P w K mg base CX0 2 f fd ["self", "name", "mast"] (spSPut CK) := by
  refine F.ok scSPut (fun vs H Q E h => ?_) (fun cdv A outer s H vs Q E hr h => ?_)
  · obtain ⟨s, sc, a, b, adr, ms, X, S, names, c, m, rfl, _⟩ := h
    rfl
  · obtain ⟨s, sc, a, b, adr, ms, X, S, names, c, m, rfl, hS, O, hlen, hm, q⟩ := h
    have hu := hu_of hr
    refine ⟨_, (pss_cons (ps_if (pt_cmp (pc_din hu (pv 1) (pe_fld (pv 0) rfl)))
        (pss_one (ps_expr (pe_bm PySem.F.plainAttrs_list PySem.F.slot_list_remove PySem.F.type_list_remove mt_removeS (pe_dget hu (pe_fld (pv 0) rfl) (pe_dget hu (pe_fld (pv 0) rfl) (pv 1) (fun _ _ => rfl)) (fun _ _ => rfl)) (pa_cons (pv 1) pa_nil))))
        pss_nil)
      (pss_cons (ps_expr (pe_bm PySem.F.plainAttrs_list PySem.F.slot_list_append PySem.F.type_list_append mt_append (pe_dget hu (pe_fld (pv 0) rfl) (pv 2) (fun _ _ => rfl)) (pa_cons (pv 1) pa_nil)))
      (pss_one (ps_expr (pe_cal c_put_in_order (hr.mono (by decide)) rfl (pa_cons (pe_fld (pv 0) rfl) (pa_cons (pv 1) (pa_cons (pv 2) pa_nil)))))))), ?_⟩
    obtain ⟨dx, h1⟩ := hS.here
    obtain ⟨st, st1, asc, stl, stg⟩ := hS.seating
    have snF : ∀ x ∈ ms, s ≠ adr x := fun x hx e => by rw [e, hS.on x hx] at h1; cases h1
    have bnF : ∀ x ∈ ms, b ≠ adr x := fun x hx e => by have := hS.seated; rw [e, hS.on x hx] at this; cases this
    have ana := hS.ne_a
    have lenOn : ∀ x, (S.on x).length ≤ names.length := fun x => len_sub (O.nd x) fun y hy => (O.dom y).mp ⟨x, (O.mem y x).mpr hy⟩
    -- away from where it was
    refine' via (R := fun H1 : Hp => (∀ x ∈ ms, H1 (adr x) = some (.lst ((S.rm c x).map V.str))) ∧ ∀ x o, H x = some o → x ∉ ms.map adr → H1 x = some o) (fun tail => ?_) ?_
    rotate_left 1
    · refine ⟨_, rfl, _, rfl, s, CK, dx, _, _, rfl, h1, T.cl, T.n2, rfl, a, _, rfl, dgetN (.inl st1), _, rfl, ?_⟩
      rw [stg c]
      refine ite2 (fun h => ?_) (fun h => ?_)
      · cases e : S.pos c with
        | none => rw [e] at h; exact absurd h (by decide)
        | some m0 =>
          have hm0 := hS.dom c m0 e
          have hon : c ∈ S.on m0 := (O.mem c m0).mp e
          refine ⟨_, rfl, s, CK, dx, _, _, rfl, h1, T.cl, T.n3, rfl, _, rfl, s, CK, dx, _, _, rfl, h1, T.cl, T.n2, rfl, _, rfl, a, _, rfl, dgetT (f := vS) (v := m0) (.inl st1) (by rw [stg c]; exact e), b, _, rfl, hS.get hm0, .inl ⟨rfl, _, SqL.of (hS.on m0 hm0)⟩, _, rfl, adr m0, S.on m0, c, rfl, rfl, hS.on m0 hm0, hon, ?_⟩
          refine tail _ ⟨fun x hx => ?_, fun x o z n => ?_⟩
          · unfold SM.rm
            by_cases ex : x = m0
            · rw [ex, upd_same, if_pos e]
            · rw [upd_ne fun z => ex (hS.inj x hx m0 hm0 z), if_neg fun z => ex (by rw [e] at z; exact (Option.some.inj z).symm)]
              exact hS.on x hx
          · rw [upd_ne fun z => n (by rw [z]; exact List.mem_map.mpr ⟨m0, hm0, rfl⟩)]; exact z
      · have e : S.pos c = none := by
          cases e : S.pos c with
          | none => rfl
          | some m0 => rw [e] at h; exact absurd rfl h
        refine tail _ ⟨fun x hx => ?_, fun x o z n => z⟩
        unfold SM.rm
        rw [if_neg fun z => by rw [e] at z; cases z]
        exact hS.on x hx
    · rintro H1 ⟨o1, k1⟩
      have h1' := k1 s _ h1 fun z => by obtain ⟨x, hx, ex⟩ := List.mem_map.mp z; exact snF x hx ex.symm
      have hb1 := k1 b _ hS.seated fun z => by obtain ⟨x, hx, ex⟩ := List.mem_map.mp z; exact bnF x hx ex.symm
      have ha1 := k1 a _ st1 fun z => by obtain ⟨x, hx, ex⟩ := List.mem_map.mp z; exact ana x hx ex
      have gm := dgetT (f := vA) (H := H1) (a := b) (.inl hb1) (getT_mem (by rw [keysT_mk]; exact hS.nd) (List.mem_map.mpr ⟨m, hm, rfl⟩))
      have rml : (S.rm c m).length < sizeLine := Nat.lt_of_le_of_lt (S.rm_len c m) (Nat.lt_of_le_of_lt (lenOn m) (Nat.lt_trans hlen (by decide)))
      refine ⟨_, rfl, s, CK, dx, _, _, rfl, h1', T.cl, T.n3, rfl, _, rfl, b, _, rfl, gm, .inl ⟨rfl, _, SqL.of (o1 m hm)⟩, _, rfl, adr m, _, _, rfl, rfl, o1 m hm, by rw [List.length_map]; exact rml, ?_⟩
      have sm : s ≠ adr m := snF m hm
      have am : a ≠ adr m := (ana m hm).symm
      refine ⟨_, rfl, s, CK, dx, _, _, rfl, by rw [upd_ne sm]; exact h1', T.cl, T.n2, rfl, _, rfl, _, rfl, a, c, .str m, st.map (fun x => (x.1, vS x.2)), rfl, by rw [upd_ne am, ← kvT_id]; exact ha1, ?_, by rw [List.length_map]; exact Nat.lt_trans stl (by decide), fun H2 a2 k2 => ?_⟩
      · unfold AscT
        rw [List.pairwise_map]
        exact asc
      · have far : ∀ x o, H x = some o → x ∉ fpS a adr ms → H2 x = some o := fun x o z n => by
          have n1 : x ≠ a := fun e => n (by rw [e]; exact .head _)
          have n2 : x ∉ ms.map adr := fun e => n (.tail _ e)
          refine k2 x o ?_ fun z => n1 (List.mem_singleton.mp z)
          rw [upd_ne fun e => n2 (by rw [e]; exact List.mem_map.mpr ⟨m, hm, rfl⟩)]
          exact k1 x o z n2
        have stn : ∀ z, z ∉ fpS a adr ms ∨ True := fun _ => .inr trivial
        have stl2 : st.length ≤ names.length := by
          have h3 := len_sub (b := names) asc.nodup fun y hy => by
            obtain ⟨x, hx⟩ := getT_key hy
            exact (O.dom y).mp ⟨x, by rw [← stg]; exact hx⟩
          unfold keysT at h3
          rw [List.length_map] at h3
          exact h3
        have k2' : ∀ x, x ≠ a → ∀ o, (upd H1 (adr m) (.lst ((S.rm c m).map V.str ++ [V.str c]))) x = some o → H2 x = some o := fun x n o z => k2 x o z fun e => n (List.mem_singleton.mp e)
        refine q H2 ⟨⟨dx, far s _ h1 (hS.not_s h1 (fun _ e => by cases e) fun e => by rw [e, st1] at h1; cases h1)⟩, ⟨insT st c m, ?_, asc.ins, ?_, fun y => ?_⟩, ?_, fun x hx => ?_, hS.inj, fun y x hy => ?_, hS.nd, hS.ab⟩ far
        · rw [a2, kvT_id vS, ← ins_map vS]
        · have := ins_len (l := st) (k := c) (v := m); omega
        · rw [getT_ins asc, stg]; rfl
        · exact far b _ hS.seated (hS.not_s hS.seated (fun _ e => by cases e) hS.ab)
        · refine k2' _ (ana x hx) _ ?_
          show _ = some (HO.lst ((if x = m then S.rm c x ++ [c] else S.rm c x).map V.str))
          by_cases e : x = m
          · subst e; rw [upd_same, if_pos rfl, List.map_append]; rfl
          · rw [upd_ne fun z => e (hS.inj x hx m hm z), if_neg e]; exact o1 x hx
        · have hy : (if y = c then some m else S.pos y) = some x := hy
          by_cases e : y = c
          · rw [if_pos e] at hy; cases Option.some.inj hy; exact hm
          · rw [if_neg e] at hy; exact hS.dom y x hy
end
end Mc
namespace Mc
open PySem L2 PySem.Spec PyProof.Rows
abbrev CL := List (PySem.Str × PySem.Str × Option PySem.Str)
def vL : Option PySem.Str → V
  | none => .non
  | some m => .str m
structure CameH (H : Hp) (d : Addr) (L : CL) (adT : PySem.Str → Addr) : Prop where
  d : H d = some (.dK (kvT vA (L.map fun x => (x.1, adT x.1))))
  at' : ∀ x ∈ L, H (adT x.1) = some (.tup [.str x.2.1, vL x.2.2])
def spLead (CK : Addr) : Sp := fun vs H Q _ => ∃ (s sc a b d : Addr) (adr adT : PySem.Str → Addr) (ms : List PySem.Str) (X : Sc PySem.Str) (S : SMs) (names : List PySem.Str) (c m : PySem.Str) (L : CL) (n : Nat), vs = [.ref s, .str m, .ref d] ∧ SeatH CK H s sc a b adr ms S ∧
  names.length < 400 ∧ (∀ c m, m ∈ X.heard c → m ∈ ms) ∧ CameH H d L adT ∧ d ≠ a ∧ Lead X S c L S names m n ∧ ∀ H' S', SeatH CK H' s sc a b adr ms S' → SOk X S' (names ++ [c]) → Kp (fpS a adr ms) H H' → Q .non H'
def LdW (CK : Addr) (X : Sc PySem.Str) (S : SMs) (c : PySem.Str) (L : CL) (names : List PySem.Str) (s sc a b d : Addr) (adr adT : PySem.Str → Addr) (ms : List PySem.Str) (H : Hp) (k : Nat) (σ : L2.St) (H' : Hp) : Prop :=
  ∃ cur v3 v4 S', σ = [some (.ref s), some (vL cur), some (.ref d), v3, v4] ∧ Kp (fpS a adr ms) H H' ∧ CameH H' d L adT ∧ SeatH CK H' s sc a b adr ms S' ∧ ((∃ m, cur = some m ∧ Lead X S c L S' names m k) ∨ (cur = none ∧ SOk X S' (names ++ [c])))
section
variable {P : Program} {w : World} {K : PySem.W.Frag} {mg : PySem.Str → Option Value} {base : Heap}
theorem CameH.keep {CK : Addr} {H H' : Hp} {s sc a b d : Addr} {adr adT : PySem.Str → Addr} {ms : List PySem.Str} {S : SMs} {L : CL} (h : CameH H d L adT) (hS : SeatH CK H s sc a b adr ms S) (n : d ≠ a) (k : Kp (fpS a adr ms) H H') : CameH H' d L adT := by
  obtain ⟨st, st1, _⟩ := hS.seating
  exact ⟨k _ _ h.d (hS.not_s h.d (fun _ e => by cases e) n), fun x hx => k _ _ (h.at' x hx) (hS.not_s (h.at' x hx) (fun _ e => by cases e) fun e => by have := h.at' x hx; rw [e, st1] at this; cases this)⟩
theorem scLead : FnScope ["self", "mast", "came", "name", "left"] ["self", "mast", "came"] (defScope sLead) := ⟨rfl, rfl, rfl, by decide +kernel, rfl, by decide +kernel, by decide +kernel⟩
theorem ok_lead {f CK CS CC : Addr} {fd : FuncData} (F : Fun K "lead" "Seats.lead" sLead f fd) (T : TxK K mg CK CS CC) (c_Seats_put : CalM P w K mg base CK 2 "put" ["self", "name", "mast"] (spSPut CK)) : FnOk P w K mg base CX0 3 f fd ["self", "mast", "came"] (spLead CK) := by
  refine F.ok scLead (fun vs H Q E h => ?_) (fun cdv A outer s H vs Q E hr h => ?_)
  · obtain ⟨s, sc, a, b, d, adr, adT, ms, X, S, names, c, m, L, n, rfl, _⟩ := h
    rfl
  · obtain ⟨s, sc, a, b, d, adr, adT, ms, X, S, names, c, m, L, n, rfl, hS, hlen, hms, hL, hda, I, q⟩ := h
    have hu := hu_of hr
    refine ⟨_, (pss_one (ps_while PassesOwn.never (pt_cmpR op_notN (pv 1) pe_non (nomark _))
        (pss_cons (ps_asg (pe_dget hu (pv 2) (pv 1) (fun _ _ => rfl)) (pg_tup rfl (pgs_cons (pg_name (i := 3) scLead.nd rfl (Or.inl rfl)) (pgs_cons (pg_name (i := 4) scLead.nd rfl (Or.inl rfl)) pgs_nil))))
        (pss_cons (ps_expr (pe_calM (pv 0) T.cl c_Seats_put (hr.mono (by decide)) (pa_cons (pv 3) (pa_cons (pv 1) pa_nil))))
        (pss_one (ps_set (i := 1) scLead.nd rfl (Or.inl rfl) (pv 4))))))), ?_⟩
    refine ⟨LdW CK X S c L names s sc a b d adr adT ms H, ⟨n, some m, none, none, S, rfl, Kp.refl _ _, hL, hS, .inl ⟨m, rfl, I⟩⟩, ?_⟩
    rintro k σ H1 ⟨cur, v3, v4, S1, rfl, k1, hL1, hS1, ⟨m1, rfl, I1⟩ | ⟨rfl, O1⟩⟩
    · refine ⟨_, rfl, rfl, _, rfl, fun σ' H' => ∃ m', m' < k ∧ LdW CK X S c L names s sc a b d adr adT ms H m' σ' H', fun _ _ h => h, ?_⟩
      obtain ⟨y, l, hin, hmy, hnx⟩ := I1.step
      obtain ⟨dx, h1⟩ := hS1.here
      have gm := dgetT (f := vA) (H := H1) (a := d) (k := m1) (v := adT m1) (.inl hL1.d) (getT_mem (by rw [show keysT (L.map fun x => (x.1, adT x.1)) = L.map (·.1) by unfold keysT; rw [List.map_map]; rfl]; exact I1.ch.nodup) (List.mem_map.mpr ⟨_, hin, rfl⟩))
      have ht := hL1.at' _ hin
      refine ⟨_, rfl, _, rfl, d, _, rfl, gm, adT m1, [.str y, vL l], rfl, SqT.of ht, rfl, _, _, rfl, _, _, rfl, rfl, ?_⟩
      refine ⟨_, rfl, s, dx, _, rfl, h1, rfl, _, rfl, _, rfl, s, sc, a, b, adr, ms, X, S1, names, y, m1, rfl, hS1, I1.ok, hlen, hms y m1 hmy, fun H2 hS2 k2 => ⟨_, rfl, ?_⟩⟩
      have hL2 := hL1.keep hS1 hda k2
      rcases hnx with ⟨rfl, rfl, O2⟩ | ⟨m', k', rfl, hk, I2⟩
      · exact ⟨0, Nat.lt_of_le_of_lt (Nat.zero_le _) (I1.pre _ _ _ _ (I1.ch.at I1.here).choose_spec.choose_spec.choose_spec.choose_spec.1).1, none, _, _, _, rfl, k1.trans k2, hL2, hS2, .inr ⟨rfl, O2⟩⟩
      · exact ⟨k', hk, some m', _, _, _, rfl, k1.trans k2, hL2, hS2, .inl ⟨m', rfl, I2⟩⟩
    · refine ⟨_, rfl, rfl, _, rfl, ?_⟩
      exact q H1 S1 hS1 O1 k1
end
end Mc
namespace Mc
open PySem L2 PySem.Spec PyProof.Rows
section
variable {X : Cx}
theorem sw_dict {kx vx : Expr} {gs : List Comprehension} {scope : Scope} {pos py : Pos} {y : PySem.Str} {n : Nat} {env : Env} (h1 : env.scope.kind = .function) (h2 : env.scope.names.lookup y = some .local) (h3 : (py.line == pos.line) = true)
    (h4 : (scope.names.any fun (n, k) => n == y && (k == .local || k == .cell)) = false) : swapsWith (.DictComp kx vx gs scope pos) (some (.Name y py)) n env = pure true := by
  have a : env.kindOf y = some .local := h2
  have b : env.blockKind = .function := by simp only [Env.blockKind, h1]; rfl
  simp only [swapsWith, a, b, h4, Expr.pos, h3]; rfl
/-- name = {..} on one line, the name a plain local -/
theorem ps_setDc {i : Nat} {y : PySem.Str} {py : Pos} {kx vx tg iter : Expr} {ifs : List Expr} {scope : Scope} {own : List (PySem.Str × Nat)} {pos spos : Pos} {wi : TI} {g : TG} {tt : TT} {tk tv : TE} (hc : X.calm = true) (hN : X.N.Nodup) (hy : X.N[i]? = some y) (hl : X.env.scope.names.lookup y = some .local)
    (hsw : swapsWith (.DictComp kx vx [⟨tg, iter, ifs, 0⟩] scope pos) (some (.Name y py)) spos.line X.env = pure true) (hi : PI X tg iter wi) (ok : BlkOk X.N X.env.scope scope own)
    (pg : ∀ (s : Shared) (H : Hp) (C : Addr) (cl : List (PySem.Str × Addr)) (fp : List Addr), PG (X.blk s H scope (compEnvC scope cl C X.env) fp) tg g)
    (pt : ∀ (s : Shared) (H : Hp) (C : Addr) (cl : List (PySem.Str × Addr)) (fp : List Addr), PTs (X.blk s H scope (compEnvC scope cl C X.env) fp) ifs tt)
    (pk : ∀ (s : Shared) (H : Hp) (C : Addr) (cl : List (PySem.Str × Addr)) (fp : List Addr), PE (X.blk s H scope (compEnvC scope cl C X.env) fp) kx tk)
    (pe : ∀ (s : Shared) (H : Hp) (C : Addr) (cl : List (PySem.Str × Addr)) (fp : List Addr), PE (X.blk s H scope (compEnvC scope cl C X.env) fp) vx tv) (hs : ∀ x, foldedSetIterable iter X.env x = pure x := by intro _; rfl) :
    PS X (.Assign [.Name y py] (.DictComp kx vx [⟨tg, iter, ifs, 0⟩] scope pos) spos) (tAsg (tDc wi g tt tk tv (own.map (·.2))) (gName i)) := ⟨fun pins s σ H D I h => by
  have h' : tDc wi g tt tk tv (own.map (·.2)) σ H (fun x H1 => gName i x σ H1 D.nx) := h
  rw [exec_Assign_Name_used _ _ _ _ hsw]
  refine wpAny_bind (wpAny_standAt (wpAny_bind ?_))
  change wpAny _ X.A (comprehension (.DictComp kx vx [⟨tg, iter, ifs, 0⟩] scope pos) scope X.env (firstIterPos [⟨tg, iter, ifs, 0⟩] pos) newDict false (eval iter X.env) (some (assign (.Name y py) X.env)) >>= fun _ => pure ()) _ _ _
  refine wpAny_bind ?_
  refine thn (dc_core (Qf := fun _ t => SP X pins D .next t) hc hN I hi ok pg pt pk pe hs h' ?_) fun _ t ht => wpAny_pure (wpAny_pure ht)
  intro L C t m H' It q hn fo
  refine wpAny_assign_Name (store_ok2 (v := V.ref L) It hN hy (.inl hl) rfl (fun t2 I2 ⟨c, sb, wh⟩ => ?_) (.inr hl))
  obtain ⟨f0, f1, f2, f3, f4, f5⟩ := fo
  have ne : C ≠ c := wh.elim (fun z => z ▸ f1) fun z e => f4 y c z e.symm
  exact ⟨m, hn.sameBut sb ne, fun t3 sb3 => ⟨_, H', I2.turned (t' := t2.toks) (fun b o n e => (sb3.2 b n).trans e) f0 f1 f3 f4 f5, q⟩⟩⟩
end
end Mc
namespace Mc
open PySem L2 PySem.Spec PyProof.Rows
structure Bf (X : Sc PySem.Str) (S : SMs) (c : PySem.Str) (ms : List PySem.Str) (L : CL) (i : Nat) : Prop where
  ch : Ch X S c L
  hd : ∀ m ∈ X.heard c, m ∈ L.map (·.1)
  sub : ∀ m ∈ L.map (·.1), m ∈ ms
  done : ∀ j, j < i → ∀ m, (L.map (·.1))[j]? = some m → ¬ (S.on m).length < X.cap m ∧ ∀ y ∈ S.on m, ∀ o ∈ X.heard y, o ∈ L.map (·.1)
theorem Bf.grow {X : Sc PySem.Str} {S : SMs} {c : PySem.Str} {ms : List PySem.Str} {L : CL} {i : Nat} (b : Bf X S c ms L i) {m y : PySem.Str} {l : Option PySem.Str} (hc : Ch X S c (L ++ [(m, y, l)])) (hm : m ∈ ms) (hi : i ≤ L.length) : Bf X S c ms (L ++ [(m, y, l)]) i := by
  have inc : ∀ x ∈ L.map (·.1), x ∈ (L ++ [(m, y, l)]).map (·.1) := fun x hx => by rw [List.map_append]; exact List.mem_append_left _ hx
  refine ⟨hc, fun x hx => inc x (b.hd x hx), fun x hx => ?_, fun j hj x hx => ?_⟩
  · rw [List.map_append, List.mem_append] at hx
    rcases hx with hx | hx
    · exact b.sub x hx
    · cases List.mem_singleton.mp hx; exact hm
  · rw [List.map_append, List.getElem?_append_left (by rw [List.length_map]; omega)] at hx
    obtain ⟨d1, d2⟩ := b.done j hj x hx
    exact ⟨d1, fun y hy o ho => inc o (d2 y hy o ho)⟩
theorem Bf.len {X : Sc PySem.Str} {S : SMs} {c : PySem.Str} {ms : List PySem.Str} {L : CL} {i : Nat} (b : Bf X S c ms L i) : L.length ≤ ms.length := by
  have := len_sub b.ch.nodup b.sub
  rwa [List.length_map] at this
def adP (adT : PySem.Str → Addr) (m : PySem.Str) (p : Addr) : PySem.Str → Addr := fun z => if z = m then p else adT z
theorem CameH.push {H : Hp} {d p : Addr} {L : CL} {adT : PySem.Str → Addr} (h : CameH H d L adT) {m y : PySem.Str} {l : Option PySem.Str} (hm : m ∉ L.map (·.1)) (hp : H p = none) :
    putK (kvT vA (L.map fun x => (x.1, adT x.1))) (Sum.inr m : L2.Key) (.ref p) = kvT vA ((L ++ [(m, y, l)]).map fun x => (x.1, adP adT m p x.1)) ∧
    CameH (upd (upd H p (.tup [.str y, vL l])) d (.dK (kvT vA ((L ++ [(m, y, l)]).map fun x => (x.1, adP adT m p x.1))))) d (L ++ [(m, y, l)]) (adP adT m p) := by
  have dp : d ≠ p := ne_of_none h.d hp
  have ne : ∀ x ∈ L, x.1 ≠ m := fun x hx e => hm (by rw [← e]; exact List.mem_map.mpr ⟨x, hx, rfl⟩)
  have eL : (L.map fun x => (x.1, adP adT m p x.1)) = L.map fun x => (x.1, adT x.1) := List.map_congr_left fun x hx => by
    show (x.1, if x.1 = m then p else adT x.1) = _
    rw [if_neg (ne x hx)]
  have td : ∀ x ∈ L, adT x.1 ≠ d := fun x hx e => by have := h.at' x hx; rw [e, h.d] at this; cases this
  refine ⟨?_, upd_same, fun x hx => ?_⟩
  · have e1 := put_new (f := vA) (l := L.map fun x => (x.1, adT x.1)) (k := m) (v := p) (fun z => hm (by unfold keysT at z; rw [List.map_map] at z; exact z))
    rw [e1, List.map_append, eL]
    show _ = kvT vA (_ ++ [(m, if m = m then p else adT m)])
    rw [if_pos rfl]
  · rcases List.mem_append.mp hx with hx | hx
    · show _ = some (HO.tup [V.str x.2.1, vL x.2.2])
      unfold adP
      rw [if_neg (ne x hx), upd_ne (td x hx), upd_ne (ne_of_none (h.at' x hx) hp)]
      exact h.at' x hx
    · cases List.mem_singleton.mp hx
      show _ = some (HO.tup [V.str y, vL l])
      unfold adP
      rw [if_pos rfl, upd_ne dp.symm]
      exact upd_same
structure QsH (H0 H : Hp) (d q : Addr) (L : CL) (adT : PySem.Str → Addr) : Prop where
  same : Same H0 H
  came : CameH H d L adT
  qq : H q = some (.lst ((L.map (·.1)).map V.str))
  d0 : H0 d = none
  q0 : H0 q = none
theorem QsH.push {H0 H : Hp} {d q p : Addr} {L : CL} {adT : PySem.Str → Addr} (h : QsH H0 H d q L adT) {m y : PySem.Str} {l : Option PySem.Str} (hm : m ∉ L.map (·.1)) (hp : H p = none) :
    QsH H0 (upd (upd (upd H p (.tup [.str y, vL l])) d (.dK (kvT vA ((L ++ [(m, y, l)]).map fun x => (x.1, adP adT m p x.1))))) q (.lst ((L.map (·.1)).map V.str ++ [V.str m]))) d q (L ++ [(m, y, l)]) (adP adT m p) := by
  obtain ⟨_, c2⟩ := h.came.push (y := y) (l := l) hm hp
  have dq : d ≠ q := fun e => by have := h.qq; rw [← e, h.came.d] at this; cases this
  have dp : d ≠ p := ne_of_none h.came.d hp
  have qp : q ≠ p := ne_of_none h.qq hp
  refine ⟨fun b o z => ?_, ⟨by rw [upd_ne dq]; exact c2.d, fun x hx => ?_⟩, ?_, h.d0, h.q0⟩
  · have z1 := h.same _ _ z
    have b1 : b ≠ q := fun e => by rw [e, h.q0] at z; cases z
    have b2 : b ≠ d := fun e => by rw [e, h.d0] at z; cases z
    rw [upd_ne b1, upd_ne b2, upd_ne (ne_of_none z1 hp)]; exact z1
  · have z := c2.at' x hx
    rw [upd_ne fun e => ?_]
    · exact z
    · rw [e, upd_ne dq.symm, upd_ne qp, h.qq] at z; cases z
  · rw [upd_same, List.map_append, List.map_append]; rfl

theorem ch_init {X : Sc PySem.Str} {S : SMs} {c : PySem.Str} {l : List PySem.Str} (nd : l.Nodup) (h : ∀ m ∈ l, m ∈ X.heard c) : Ch X S c (l.map fun m => (m, c, (none : Option PySem.Str))) := by
  have go : ∀ i, i ≤ l.length → Ch X S c ((l.take i).map fun m => (m, c, (none : Option PySem.Str))) := by
    intro i
    induction i with
    | zero => exact fun _ => .nil
    | succ i ih =>
      intro hi
      have hm : l[i]? = some l[i] := List.getElem?_eq_getElem hi
      rw [List.take_add_one, hm, List.map_append]
      refine .snoc (ih (Nat.le_of_lt hi)) (h _ (List.getElem_mem hi)) (.inl ⟨rfl, rfl⟩) ?_
      rw [List.map_map, show (l.take i).map ((fun x => x.1) ∘ fun m => (m, c, (none : Option PySem.Str))) = l.take i from List.map_id _]
      exact nd_take nd hm
  have := go l.length (Nat.le_refl _)
  rwa [List.take_length] at this
theorem SeatH.same {CK : Addr} {H H' : Hp} {s sc a b : Addr} {adr : PySem.Str → Addr} {ms : List PySem.Str} {S : SMs} (h : SeatH CK H s sc a b adr ms S) (k : Same H H') : SeatH CK H' s sc a b adr ms S := by
  obtain ⟨dx, h1⟩ := h.here
  obtain ⟨st, h2, h3⟩ := h.seating
  exact ⟨⟨dx, k _ _ h1⟩, ⟨st, k _ _ h2, h3⟩, k _ _ h.seated, fun m hm => k _ _ (h.on m hm), h.inj, h.dom, h.nd, h.ab⟩
theorem CameH.new {H : Hp} {d t : Addr} {L : CL} {adT : PySem.Str → Addr} {o : HO} (h : CameH H d L adT) (ht : H t = none) : CameH (upd H t o) d L adT :=
  ⟨by rw [upd_ne (ne_of_none h.d ht)]; exact h.d, fun x hx => by rw [upd_ne (ne_of_none (h.at' x hx) ht)]; exact h.at' x hx⟩
theorem same_new {H H' : Hp} {t : Addr} {o : HO} (s : Same H H') (ht : H' t = none) : Same H (upd H' t o) := fun b u z => by rw [upd_ne (ne_of_none (s _ _ z) ht)]; exact s _ _ z
def WyW (chs : Chs) (cls : Cls') (S : SMs) (c : PySem.Str) (H : Hp) (s d q : Addr) (k : Nat) (σ : L2.St) (H' : Hp) : Prop := ∃ L adT i v5 v6 v7, σ = [some (.ref s), some (.str c), some (.ref d), some (.ref q), some (.int (i : Nat)), v5, v6, v7] ∧ QsH H H' d q L adT ∧ Bf (ScM chs cls) S c (keysT chs) L i ∧ i ≤ L.length ∧ k + i = (keysT chs).length + 1
def In2 (chs : Chs) (cls : Cls') (S : SMs) (c m : PySem.Str) (H : Hp) (s d q : Addr) (i u : Nat) (y : Option PySem.Str) (zs : List PySem.Str) (v : Nat) (σ : L2.St) (H' : Hp) : Prop := ∃ L adT v6 v7, σ = [some (.ref s), some (.str c), some (.ref d), some (.ref q), some (.int (i : Nat)), some (.str m), v6, v7] ∧ (∀ z, y = some z → v6 = some (.str z)) ∧
  QsH H H' d q L adT ∧ Bf (ScM chs cls) S c (keysT chs) L i ∧ (L.map (·.1))[i]? = some m ∧ (∀ z ∈ (S.on m).take u, ∀ o ∈ (ScM chs cls).heard z, o ∈ L.map (·.1)) ∧ ∀ o ∈ zs.take v, o ∈ L.map (·.1)
def spWay (K : PySem.W.Frag) (CK CS CC : Addr) : Sp := fun vs H Q _ => ∃ (s sc a b : Addr) (adr : PySem.Str → Addr) (chs : Chs) (cls : Cls') (S : SMs) (names : List PySem.Str) (c : PySem.Str), vs = [.ref s, .str c] ∧ SeatH CK H s sc a b adr (keysT chs) S ∧
  ScnH K CS CC H sc (fpS a adr (keysT chs)) chs cls ∧ SOk (ScM chs cls) S names ∧ OkC chs cls ∧ c ∈ keysT cls ∧ (∀ x ∈ names, x ∈ keysT cls) ∧ names.length < 400 ∧
  ∀ (t d : Addr) (H' : Hp) (adT : PySem.Str → Addr) (L : CL) (i : Nat) (r : Option PySem.Str), Same H H' → H' t = some (.tup [vL r, .ref d]) → CameH H' d L adT → H d = none → Bf (ScM chs cls) S c (keysT chs) L i →
    (∀ m, r = some m → m ∈ L.map (·.1) ∧ (S.on m).length < (ScM chs cls).cap m) → (r = none → i = L.length) → Q (.ref t) H'
section
variable {P : Program} {w : World} {K : PySem.W.Frag} {mg : PySem.Str → Option Value} {base : Heap}
theorem scWay : FnScope ["self", "name", "came", "queue", "at", "mast", "call", "other"] ["self", "name"] (defScope sWay) := ⟨rfl, rfl, rfl, by decide +kernel, rfl, by decide +kernel, by decide +kernel⟩
theorem ok_way {f CK CS CC : Addr} {fd : FuncData} (F : Fun K "way_for" "Seats.way_for" sWay f fd) (T : TxK K mg CK CS CC) (c_Seats_has_room : CalM P w K mg base CK 1 "has_room" ["self", "mast"] (spRoom K CK CS CC)) : FnOk P w K mg base CX0 2 f fd ["self", "name"] (spWay K CK CS CC) := by
  refine F.ok scWay (fun vs H Q E h => ?_) (fun cdv A outer s H vs Q E hr h => ?_)
  · obtain ⟨s, sc, a, b, adr, chs, cls, S, names, c, rfl, _⟩ := h
    rfl
  · obtain ⟨s, sc, a, b, adr, chs, cls, S, names, c, rfl, hS, hC, O, ok, hc, hnm, hlen, q_⟩ := h
    have hu := hu_of hr
    refine ⟨_, (pss_cons (ps_setDc (i := 2) (own := [("mast", 5)]) (g := gName 5) (tt := tYes) rfl scWay.nd rfl rfl (sw_dict rfl rfl rfl (by decide +kernel)) (pi_tup (pe_fld (pe_dget hu (pe_fld (pe_fld (pv 0) rfl) rfl) (pv 1) (fun _ _ => rfl)) rfl)) (blkOk_by (own := [("mast", 5)]) (N := ["self", "name", "came", "queue", "at", "mast", "call", "other"]) (sc := defScope sWay) (by decide +kernel)) (fun _ _ _ _ _ => pg_name (i := 5) scWay.nd rfl (Or.inl rfl)) (fun _ _ _ _ _ => pts_nil) (fun _ _ _ _ _ => (pv 5)) (fun _ _ _ _ _ => (pe_tup (pa_cons (pv 1) (pa_cons pe_non pa_nil)))))
      (pss_cons (ps_set (i := 3) scWay.nd rfl (Or.inl rfl) (pe_callTy (call_listD rfl) (by rfl) T.list boot_list (pa_cons (pv 2) pa_nil)))
      (pss_cons (ps_set (i := 4) scWay.nd rfl (Or.inl rfl) pe_int)
      (pss_cons (ps_while PassesOwn.never (pt_cmpR op_lt (pv 4) (pe_callB call_len_seq (by rfl) T.len PySem.boot_len (pa_cons (pv 3) pa_nil)) (nomark _))
        (pss_cons (ps_set (i := 5) scWay.nd rfl (Or.inl rfl) (pe_ix ix_list (pv 3) (pv 4) (fun _ _ => rfl)))
        (pss_cons (ps_if (pt_val (pe_calM (pv 0) T.cl c_Seats_has_room (hr.mono (by decide)) (pa_cons (pv 5) pa_nil)))
          (pss_one (ps_ret (pe_tup (pa_cons (pv 5) (pa_cons (pv 2) pa_nil)))))
          pss_nil)
        (pss_cons (ps_for PassesOwn.never rfl (pi_list (pe_dget hu (pe_fld (pv 0) rfl) (pv 5) (fun _ _ => rfl))) (pg_name (i := 6) scWay.nd rfl (Or.inl rfl))
          (pss_one (ps_for PassesOwn.never rfl (pi_tup (pe_fld (pe_dget hu (pe_fld (pe_fld (pv 0) rfl) rfl) (pv 6) (fun _ _ => rfl)) rfl)) (pg_name (i := 7) scWay.nd rfl (Or.inl rfl))
            (pss_one (ps_if (pt_cmp (pc_dnotin hu (pv 7) (pv 2)))
              (pss_cons (ps_dput hu (pv 2) (pv 7) (pe_tup (pa_cons (pv 6) (pa_cons (pv 5) pa_nil))) rfl)
              (pss_one (ps_expr (pe_bm PySem.F.plainAttrs_list PySem.F.slot_list_append PySem.F.type_list_append mt_append (pv 3) (pa_cons (pv 7) pa_nil)))))
              pss_nil)))))
        (pss_one (ps_aug (i := 4) scWay.nd rfl (Or.inl rfl) pe_int ip_add))))))
      (pss_one (ps_ret (pe_tup (pa_cons pe_non (pa_cons (pv 2) pa_nil))))))))), ?_⟩
    obtain ⟨dx, h1⟩ := hS.here
    obtain ⟨dx2, x, y, c1, c2, c3, nsc, nx, ny⟩ := hC.sc
    obtain ⟨cd, hcd⟩ := getT_key hc
    obtain ⟨o1, o2, o3, o4, o5, o6⟩ := ok.cl _ (getT_in hcd)
    obtain ⟨dx3, hh, e1, e2, ne1, ne2⟩ := hC.calls _ (getT_in hcd)
    have hX : (ScM chs cls).heard c = cd.2.2 := by show ((getT cls c).map (·.2.2)).getD [] = _; rw [hcd]; rfl
    -- came = {mast: (name, None) ..}
    refine ⟨_, rfl, s, CK, dx, _, _, rfl, h1, T.cl, T.n1, rfl, sc, CS, dx2, _, _, rfl, c1, T.clS, T.nCa, rfl, _, rfl, y, _, rfl, dgetT (f := vO) c3 hcd, cd.1, CC, dx3, _, _, rfl, e1, T.clC, T.nH, rfl, hh, rfl, ⟨_, SqT.of e2⟩, fun d hd => dc_it walk_tup (n := (cd.2.2.map V.str).length) (G := fun H' => SqT K H' hh (cd.2.2.map V.str)) (Y := YAt (cd.2.2.map V.str))
      (fun i H' => ∃ adT, Same H H' ∧ CameH H' d ((cd.2.2.take i).map fun m => (m, c, none)) adT) ⟨fun _ => d, fun b o z => by rw [upd_ne (ne_of_none z hd)]; exact z, upd_same, fun x hx => (nomatch hx)⟩ (fun i H' _ ⟨adT, s1, _⟩ => SqT.of (s1 _ _ e2)) ?_ ?_⟩
    · rintro i v _ H1 hi ⟨adT, s1, cm⟩ ⟨rfl, hv⟩
      rw [List.getElem?_map] at hv
      cases hm : cd.2.2[i]? with
      | none => rw [hm] at hv; cases hv
      | some m =>
        rw [hm] at hv
        cases Option.some.inj hv
        have nm : m ∉ ((cd.2.2.take i).map fun m => (m, c, (none : Option PySem.Str))).map (·.1) := by
          rw [List.map_map, show (cd.2.2.take i).map ((fun x => x.1) ∘ fun m => (m, c, (none : Option PySem.Str))) = cd.2.2.take i from List.map_id _]
          exact nd_take o4 hm
        refine ⟨rfl, _, rfl, _, rfl, (by show 2 ≤ sizeLine; decide), fun p hp => ⟨_, Sum.inr m, rfl, by rw [upd_ne (ne_of_none cm.d hp)]; exact cm.d, ?_, ?_⟩⟩
        · rw [List.map_map]; exact len_mk o5
        · obtain ⟨p1, p2⟩ := cm.push (y := c) (l := none) nm hp
          have et : ((cd.2.2.take (i + 1)).map fun m => (m, c, (none : Option PySem.Str))) = ((cd.2.2.take i).map fun m => (m, c, (none : Option PySem.Str))) ++ [(m, c, none)] := by rw [List.take_add_one, hm, List.map_append]; rfl
          rw [p1, et]
          refine ⟨_, fun b o z => ?_, p2⟩
          have bd : b ≠ d := fun e => by rw [e, hd] at z; cases z
          rw [upd_ne bd, upd_ne (ne_of_none (s1 _ _ z) hp)]
          exact s1 _ _ z
    · rintro H1 ⟨adT, s1, cm⟩
      rw [List.length_map, List.take_length] at cm
      have ek : ∀ L : CL, ∀ adT : PySem.Str → Addr, (kvT vA (L.map fun x => (x.1, adT x.1))).map (fun kv => kV kv.1) = (L.map (·.1)).map V.str := fun L adT => by
        unfold kvT; rw [List.map_map, List.map_map, List.map_map]; rfl
      have bf0 : Bf (ScM chs cls) S c (keysT chs) (cd.2.2.map fun m => (m, c, (none : Option PySem.Str))) 0 := by
        have em : (cd.2.2.map fun m => (m, c, (none : Option PySem.Str))).map (·.1) = cd.2.2 := by rw [List.map_map]; exact List.map_id _
        refine ⟨ch_init o4 fun m hm => by rw [hX]; exact hm, fun m hm => ?_, fun m hm => ?_, fun j hj => absurd hj (Nat.not_lt_zero _)⟩
        · rw [em, ← hX]; exact hm
        · rw [em] at hm; exact o6 m hm
      refine ⟨_, rfl, d, _, rfl, .inl cm.d, fun q hq => ?_⟩
      rw [ek]
      have hq0 : H q = none := Classical.byContradiction fun z => by
        cases e : H q with
        | none => exact z e
        | some o => rw [s1 _ _ e] at hq; cases hq
      have dq : d ≠ q := ne_of_none cm.d hq
      have Q0 : QsH H (upd H1 q (.lst (((cd.2.2.map fun m => (m, c, (none : Option PySem.Str))).map (·.1)).map V.str))) d q (cd.2.2.map fun m => (m, c, none)) adT := by
        refine ⟨fun b o z => by rw [upd_ne (ne_of_none (s1 _ _ z) hq)]; exact s1 _ _ z, ⟨by rw [upd_ne dq]; exact cm.d, fun x hx => by rw [upd_ne (ne_of_none (cm.at' x hx) hq)]; exact cm.at' x hx⟩, upd_same, hd, hq0⟩
      generalize upd H1 q (.lst (((cd.2.2.map fun m => (m, c, (none : Option PySem.Str))).map (·.1)).map V.str)) = H2 at Q0 ⊢
      generalize (cd.2.2.map fun m => (m, c, (none : Option PySem.Str))) = L0 at bf0 Q0
      clear cm s1 hq hq0 dq
      -- the search
      refine ⟨WyW chs cls S c H s d q, ⟨(keysT chs).length + 1, L0, adT, 0, none, none, none, rfl, Q0, bf0, Nat.zero_le _, rfl⟩, ?_⟩
      rintro k σ H3 ⟨L, adT', i, v5, v6, v7, rfl, Q3, B, hi, hk⟩
      refine ⟨_, rfl, _, rfl, q, _, rfl, .inl (SqL.of Q3.qq), _, _, rfl, rfl, _, rfl, ?_⟩
      refine ite2 (fun h => ?_) (fun h => ?_)
      · have hiL : i < L.length := by
          have h' := of_decide_eq_true h
          rw [List.length_map, List.length_map] at h'
          exact Int.ofNat_lt.mp h'
        refine ⟨fun σ' H' => ∃ m', m' < k ∧ WyW chs cls S c H s d q m' σ' H', fun _ _ z => z, ?_⟩
        obtain ⟨m, hm⟩ : ∃ m, (L.map (·.1))[i]? = some m := ⟨_, List.getElem?_eq_getElem (by rw [List.length_map]; exact hiL)⟩
        have hmL : m ∈ L.map (·.1) := List.mem_of_getElem? hm
        have hms : m ∈ keysT chs := B.sub m hmL
        obtain ⟨n, hn⟩ := getT_key hms
        have hS3 := hS.same Q3.same
        have hC3 := hC.keep (Kp.same Q3.same)
        have n0 : 0 ≤ n := (ok.ch _ (getT_in hn)).2.1
        have hcap : (ScM chs cls).cap m = n.toNat := by show ((getT chs m).getD 0).toNat = _; rw [hn]; rfl
        refine ⟨_, rfl, _, rfl, q, _, _, .str m, rfl, rfl, SqL.of Q3.qq, at_of rfl (by rw [List.getElem?_map, hm]; rfl), ?_⟩
        refine ⟨_, rfl, s, dx, _, rfl, Q3.same _ _ h1, rfl, _, rfl, s, sc, a, b, adr, chs, S, m, n, rfl, hS3, ⟨dx2, x, y, Q3.same _ _ c1, rd_same c2 Q3.same⟩, hn, _, rfl, ?_⟩
        refine ite2 (fun h => ?_) (fun h => ?_)
        · have h' := of_decide_eq_true h
          refine ⟨_, rfl, _, rfl, (by show 2 ≤ sizeLine; decide), fun t ht => ?_⟩
          exact q_ t d _ adT' L i (some m) (same_new Q3.same ht) upd_same (Q3.came.new ht) Q3.d0 B (fun m' e => by cases Option.some.inj e; exact ⟨hmL, by rw [hcap]; omega⟩) (fun e => nomatch e)
        · have hfull : ¬ (S.on m).length < (ScM chs cls).cap m := fun z => h (decide_eq_true (by rw [hcap] at z; omega))
          have nA : ∀ y ∈ S.on m, ∃ cy, getT cls y = some cy := fun y hy => getT_key (hnm y ((O.dom y).mp ⟨m, (O.mem y m).mpr hy⟩))
          refine ⟨_, rfl, s, CK, dx, _, _, rfl, Q3.same _ _ h1, T.cl, T.n3, rfl, _, rfl, b, _, rfl, hS3.get hms, adr m, rfl, ⟨_, SqL.of (hS3.on m hms)⟩, for_list (K := K) (xs := (S.on m).map V.str) (fun u => In2 chs cls S c m H s d q i u none [] 0) ⟨L, adT', v6, v7, rfl, fun z e => (nomatch e), Q3, B, hm, fun z hz => (nomatch hz), fun z hz => (nomatch hz)⟩
            (fun u σ H' _ ⟨L1, a1, w6, w7, _, _, Q1, _⟩ => SqL.of ((hS.same Q1.same).on m hms)) ?_ ?_⟩
          · rintro u x σ H4 hx ⟨L1, a1, w6, w7, rfl, _, Q4, B4, hm4, hd4, _⟩
            rw [List.getElem?_map] at hx
            cases hy : (S.on m)[u]? with
            | none => rw [hy] at hx; cases hx
            | some y =>
              rw [hy] at hx
              cases Option.some.inj hx
              obtain ⟨cy, hcy⟩ := nA y (List.mem_of_getElem? hy)
              obtain ⟨y1, y2, y3, y4, y5, y6⟩ := ok.cl _ (getT_in hcy)
              have hXy : (ScM chs cls).heard y = cy.2.2 := by show ((getT cls y).map (·.2.2)).getD [] = _; rw [hcy]; rfl
              have hC4 := hC.keep (Kp.same Q4.same)
              obtain ⟨dx4, x4, z4, g1, g2, g3, _⟩ := hC4.sc
              obtain ⟨dx5, hh5, f1', f2', _⟩ := hC.calls _ (getT_in hcy)
              have f1 := Q4.same _ _ f1'
              have f2 := Q4.same _ _ f2'
              refine ⟨_, rfl, s, CK, dx, _, _, rfl, Q4.same _ _ h1, T.cl, T.n1, rfl, sc, CS, dx4, _, _, rfl, g1, T.clS, T.nCa, rfl, _, rfl, z4, _, rfl, dgetT (f := vO) g3 hcy, cy.1, CC, dx5, _, _, rfl, f1, T.clC, T.nH, rfl, hh5, rfl, ⟨_, SqT.of f2⟩, for_tup (K := K) (xs := cy.2.2.map V.str) (fun v => In2 chs cls S c m H s d q i u (some y) cy.2.2 v) ⟨L1, a1, _, _, rfl, fun z e => by cases Option.some.inj e; rfl, Q4, B4, hm4, hd4, fun z hz => (nomatch hz)⟩
                (fun v σ H' _ ⟨L2, a2, t6, t7, _, _, Q5, _⟩ => SqT.of (Q5.same _ _ f2')) ?_ ?_⟩
              · rintro v x σ H5 hx ⟨L2, a2, t6, t7, rfl, h6, Q5, B5, hm5, hd5, hv5⟩
                rw [List.getElem?_map] at hx
                cases ho : cy.2.2[v]? with
                | none => rw [ho] at hx; cases hx
                | some o =>
                  rw [ho] at hx
                  cases Option.some.inj hx
                  cases h6 y rfl
                  have ets : cy.2.2.take (v + 1) = cy.2.2.take v ++ [o] := by rw [List.take_add_one, ho]; rfl
                  refine ⟨_, rfl, _, rfl, d, _, rfl, dgetN (f := vA) (.inl Q5.came.d), _, rfl, ?_⟩
                  refine ite2 (fun h => ?_) (fun h => ?_)
                  · have hno : o ∉ L2.map (·.1) := by
                      intro z
                      obtain ⟨w', hw'⟩ := getT_key (l := L2.map fun x => (x.1, a2 x.1)) (k := o) (by unfold keysT; rw [List.map_map]; exact z)
                      rw [hw'] at h
                      exact absurd (show false = true from h) (by decide)
                    have hil : i < L2.length := by
                      have := (List.getElem?_eq_some_iff.mp hm5).1
                      rwa [List.length_map] at this
                    have hoy : o ∈ (ScM chs cls).heard y := by rw [hXy]; exact List.mem_of_getElem? ho
                    have hoc : o ∈ keysT chs := y6 o (List.mem_of_getElem? ho)
                    have hch : Ch (ScM chs cls) S c (L2 ++ [(o, y, some m)]) := .snoc B5.ch hoy (.inr ⟨m, rfl, List.mem_of_getElem? hm5, List.mem_of_getElem? hy⟩) hno
                    have Bn := B5.grow hch hoc (Nat.le_of_lt hil)
                    have mono : ∀ x ∈ L2.map (·.1), x ∈ (L2 ++ [(o, y, some m)]).map (·.1) := fun x hx => by rw [List.map_append]; exact List.mem_append_left _ hx
                    have small : L2.length < 64 := Nat.lt_of_le_of_lt B5.len (by unfold keysT; rw [List.length_map]; exact ok.len)
                    refine ⟨_, rfl, _, rfl, (by show 2 ≤ sizeLine; decide), fun p hp => ?_⟩
                    have Qn := Q5.push (y := y) (l := some m) hno hp
                    have pk := (Q5.came.push (y := y) (l := some m) hno hp).1
                    refine ⟨_, rfl, _, rfl, d, _, rfl, DPut.k (k := Sum.inr o) (by rw [upd_ne (ne_of_none Q5.came.d hp)]; exact Q5.came.d) (by unfold kvT; rw [List.length_map, List.length_map]; exact Nat.lt_trans small (by decide)), ?_⟩
                    rw [pk]
                    have hqq : (upd (upd H5 p (.tup [.str y, .str m])) d (.dK (kvT vA ((L2 ++ [(o, y, some m)]).map fun x => (x.1, adP a2 o p x.1))))) q = some (.lst ((L2.map (·.1)).map V.str)) := by
                      have dq : q ≠ d := fun e => by have := Q5.qq; rw [e, Q5.came.d] at this; cases this
                      rw [upd_ne dq, upd_ne (ne_of_none Q5.qq hp)]; exact Q5.qq
                    refine ⟨_, rfl, .inl ⟨rfl, _, SqL.of hqq⟩, _, rfl, q, _, _, rfl, rfl, hqq, by rw [List.length_map, List.length_map]; exact Nat.lt_trans small (by decide), ?_⟩
                    refine ⟨_, _, _, _, rfl, fun z e => by cases Option.some.inj e; rfl, Qn, Bn, ?_, fun z hz o' ho' => mono o' (hd5 z hz o' ho'), fun z hz => ?_⟩
                    · rw [List.map_append, List.getElem?_append_left (by rw [List.length_map]; exact hil)]; exact hm5
                    · rw [ets] at hz
                      rcases List.mem_append.mp hz with hz | hz
                      · exact mono z (hv5 z hz)
                      · cases List.mem_singleton.mp hz
                        rw [List.map_append]; exact List.mem_append_right _ (by simp)
                  · refine ⟨L2, a2, _, _, rfl, fun z e => by cases Option.some.inj e; rfl, Q5, B5, hm5, hd5, fun z hz => ?_⟩
                    rw [ets] at hz
                    rcases List.mem_append.mp hz with hz | hz
                    · exact hv5 z hz
                    · cases List.mem_singleton.mp hz
                      refine Classical.byContradiction fun hno => h ?_
                      rw [getT_none.mpr (by unfold keysT; rw [List.map_map]; exact hno)]
                      rfl
              · rintro σ H5 ⟨L2, a2, t6, t7, rfl, h6, Q5, B5, hm5, hd5, hv5⟩
                refine ⟨L2, a2, t6, t7, rfl, fun z e => (nomatch e), Q5, B5, hm5, ?_, fun z hz => (nomatch hz)⟩
                rw [List.length_map, List.take_length] at hv5
                intro z hz
                rw [List.take_add_one, hy] at hz
                rcases List.mem_append.mp hz with hz | hz
                · exact hd5 z hz
                · cases List.mem_singleton.mp hz
                  rw [hXy]; exact hv5
          · rintro σ H4 ⟨L1, a1, w6, w7, rfl, _, Q4, B4, hm4, hd4, _⟩
            refine ⟨_, rfl, _, _, rfl, rfl, ?_⟩
            have hbl := B.len
            refine ⟨k - 1, by omega, L1, a1, i + 1, _, _, _, rfl, Q4, ⟨B4.ch, B4.hd, B4.sub, fun j hj m' hm' => ?_⟩, ?_, by omega⟩
            · by_cases e : j = i
              · subst e
                rw [hm4] at hm'
                cases Option.some.inj hm'
                refine ⟨hfull, fun y hy o ho => hd4 y ?_ o ho⟩
                rw [List.length_map, List.take_length]; exact hy
              · exact B4.done j (by omega) m' hm'
            · have := (List.getElem?_eq_some_iff.mp hm4).1
              rw [List.length_map] at this
              exact this
      · refine ⟨_, rfl, (by show 2 ≤ sizeLine; decide), fun t ht => ?_⟩
        have hi2 : i = L.length := by
          have h' : ¬ ((i : Nat) : Int) < (((L.map (·.1)).map V.str).length : Nat) := fun z => h (decide_eq_true z)
          rw [List.length_map, List.length_map] at h'
          omega
        exact q_ t d _ adT' L i none (same_new Q3.same ht) upd_same (Q3.came.new ht) Q3.d0 B (fun m e => nomatch e) (fun _ => hi2)
end
end Mc
namespace Mc
open PySem L2 PySem.Spec PyProof.Rows
def spAdd (K : PySem.W.Frag) (CK CS CC : Addr) : Sp := fun vs H Q _ => ∃ (s sc a b : Addr) (adr : PySem.Str → Addr) (chs : Chs) (cls : Cls') (S : SMs) (names : List PySem.Str) (c : PySem.Str), vs = [.ref s, .str c] ∧ SeatH CK H s sc a b adr (keysT chs) S ∧
  ScnH K CS CC H sc (fpS a adr (keysT chs)) chs cls ∧ SOk (ScM chs cls) S names ∧ OkC chs cls ∧ c ∈ keysT cls ∧ (∀ x ∈ names, x ∈ keysT cls) ∧ names.length < 399 ∧ names.Nodup ∧ c ∉ names ∧
  (Seatable (ScM chs cls) (names ++ [c]) → ∀ H' S', SeatH CK H' s sc a b adr (keysT chs) S' → SOk (ScM chs cls) S' (names ++ [c]) → Kp (fpS a adr (keysT chs)) H H' → Q (.bl true) H') ∧
  (¬ Seatable (ScM chs cls) (names ++ [c]) → ∀ H', Same H H' → Q (.bl false) H')
section
variable {P : Program} {w : World} {K : PySem.W.Frag} {mg : PySem.Str → Option Value} {base : Heap}
theorem scAdd : FnScope ["self", "name", "mast", "came"] ["self", "name"] (defScope sAdd) := ⟨rfl, rfl, rfl, by decide +kernel, rfl, by decide +kernel, by decide +kernel⟩
theorem ok_add {f CK CS CC : Addr} {fd : FuncData} (F : Fun K "add" "Seats.add" sAdd f fd) (T : TxK K mg CK CS CC) (c_Seats_way_for : CalM P w K mg base CK 2 "way_for" ["self", "name"] (spWay K CK CS CC)) (c_Seats_lead : CalM P w K mg base CK 3 "lead" ["self", "mast", "came"] (spLead CK)) :
    FnOk P w K mg base CX0 4 f fd ["self", "name"] (spAdd K CK CS CC) := by
  refine F.ok scAdd (fun vs H Q E h => ?_) (fun cdv A outer s H vs Q E hr h => ?_)
  · obtain ⟨s, sc, a, b, adr, chs, cls, S, names, c, rfl, _⟩ := h
    rfl
  · obtain ⟨s, sc, a, b, adr, chs, cls, S, names, c, rfl, hS, hC, O, ok, hc, hnm, hlen, nd, hcn, qy, qn⟩ := h
    refine ⟨_, (pss_cons (ps_asg (pe_calM (pv 0) T.cl c_Seats_way_for (hr.mono (by decide)) (pa_cons (pv 1) pa_nil)) (pg_tup rfl (pgs_cons (pg_name (i := 2) scAdd.nd rfl (Or.inl rfl)) (pgs_cons (pg_name (i := 3) scAdd.nd rfl (Or.inl rfl)) pgs_nil))))
      (pss_cons (ps_if (pt_cmpR op_isN (pv 2) pe_non (nomark _))
        (pss_one (ps_ret pe_bl))
        pss_nil)
      (pss_cons (ps_expr (pe_calM (pv 0) T.cl c_Seats_lead (hr.mono (by decide)) (pa_cons (pv 2) (pa_cons (pv 3) pa_nil))))
      (pss_one (ps_ret pe_bl))))), ?_⟩
    obtain ⟨dx, h1⟩ := hS.here
    have ndc : (names ++ [c]).Nodup := List.nodup_append.mpr ⟨nd, by simp, fun x hx y hy e => hcn (by simp at hy; rw [← hy, ← e]; exact hx)⟩
    refine ⟨_, rfl, s, dx, _, rfl, h1, rfl, _, rfl, s, sc, a, b, adr, chs, cls, S, names, c, rfl, hS, hC, O, ok, hc, hnm, Nat.lt_succ_of_lt hlen, fun t d H1 adT L i r s1 ht cm hd B hy hn => ?_⟩
    refine ⟨t, [vL r, .ref d], rfl, SqT.of ht, rfl, _, _, rfl, _, _, rfl, rfl, ?_⟩
    cases r with
    | none =>
      refine ⟨_, rfl, rfl, _, rfl, ?_⟩
      refine qn (no_seat O hcn B.ch.nodup B.hd ?_ ?_ fun x => by simp) _ s1
      · intro m hm
        obtain ⟨j, hj⟩ := List.mem_iff_getElem?.mp hm
        exact (B.done j (by rw [hn rfl]; have := (List.getElem?_eq_some_iff.mp hj).1; rwa [List.length_map] at this) m hj).1
      · intro m hm
        obtain ⟨j, hj⟩ := List.mem_iff_getElem?.mp hm
        exact (B.done j (by rw [hn rfl]; have := (List.getElem?_eq_some_iff.mp hj).1; rwa [List.length_map] at this) m hj).2
    | some m =>
      obtain ⟨hm, hroom⟩ := hy m rfl
      refine ⟨_, rfl, rfl, _, rfl, ?_⟩
      have hda : d ≠ a := fun e => by obtain ⟨st, st1, _⟩ := hS.seating; rw [e, st1] at hd; cases hd
      have hms : ∀ c m, m ∈ (ScM chs cls).heard c → m ∈ keysT chs := fun c m hm => by
        have hm : m ∈ ((getT cls c).map (·.2.2)).getD [] := hm
        cases e : getT cls c with
        | none => rw [e] at hm; cases hm
        | some cd =>
          rw [e] at hm
          exact (ok.cl _ (getT_in e)).2.2.2.2.2 m hm
      have LD : Lead (ScM chs cls) S c L S names m (L.length + 1) := ⟨O, hcn, B.ch, hroom, hm, fun L1 y l L2 e => ⟨by rw [e]; simp; omega, fun _ _ => rfl⟩⟩
      refine ⟨_, rfl, s, dx, _, rfl, s1 _ _ h1, rfl, _, rfl, _, rfl, s, sc, a, b, d, adr, adT, keysT chs, ScM chs cls, S, names, c, m, L, L.length + 1, rfl, hS.same s1, Nat.lt_succ_of_lt hlen, hms, cm, hda, LD, fun H2 S2 hS2 O2 k2 => ?_⟩
      exact qy (O2.seatable ndc) H2 S2 hS2 O2 ((Kp.same s1).trans k2)
end
end Mc
namespace Mc
open PySem L2 PySem.Spec PyProof.Rows
abbrev S0 : SMs := ⟨fun _ => none, fun _ => []⟩
/-- a new list for each of some masts -/
structure NewL (H0 H : Hp) (D : Addr) (ms : List PySem.Str) (adr : PySem.Str → Addr) : Prop where
  same : Same H0 H
  d : H D = some (.dK (kvT vA (ms.map fun m => (m, adr m))))
  d0 : H0 D = none
  on : ∀ m ∈ ms, H (adr m) = some (.lst []) ∧ H0 (adr m) = none
  inj : ∀ m ∈ ms, ∀ n ∈ ms, adr m = adr n → m = n
theorem NewL.push {H0 H : Hp} {D p : Addr} {ms : List PySem.Str} {adr : PySem.Str → Addr} (h : NewL H0 H D ms adr) {m : PySem.Str} (hm : m ∉ ms) (hp : H p = none) :
    putK (kvT vA (ms.map fun m => (m, adr m))) (Sum.inr m : L2.Key) (.ref p) = kvT vA ((ms ++ [m]).map fun z => (z, adP adr m p z)) ∧
    NewL H0 (upd (upd H p (.lst [])) D (.dK (kvT vA ((ms ++ [m]).map fun z => (z, adP adr m p z))))) D (ms ++ [m]) (adP adr m p) := by
  have Dp : D ≠ p := ne_of_none h.d hp
  have ne : ∀ x ∈ ms, x ≠ m := fun x hx e => hm (by rw [← e]; exact hx)
  have eL : (ms.map fun x => (x, adP adr m p x)) = ms.map fun x => (x, adr x) := List.map_congr_left fun x hx => by
    show (x, if x = m then p else adr x) = _
    rw [if_neg (ne x hx)]
  have p0 : H0 p = none := Classical.byContradiction fun z => by
    cases e : H0 p with
    | none => exact z e
    | some o => rw [h.same _ _ e] at hp; cases hp
  have em : adP adr m p m = p := if_pos rfl
  have ex : ∀ x ∈ ms, adP adr m p x = adr x := fun x hx => if_neg (ne x hx)
  have xp : ∀ x ∈ ms, adr x ≠ p := fun x hx => ne_of_none (h.on x hx).1 hp
  refine ⟨?_, fun b o z => ?_, upd_same, h.d0, fun x hx => ?_, fun x hx y hy e => ?_⟩
  · have e1 := put_new (f := vA) (l := ms.map fun x => (x, adr x)) (k := m) (v := p) (fun z => hm (by rw [keysT_mk] at z; exact z))
    rw [e1, List.map_append, eL]
    show _ = kvT vA (_ ++ [(m, adP adr m p m)])
    rw [em]
  · have bD : b ≠ D := fun e => by rw [e, h.d0] at z; cases z
    rw [upd_ne bD, upd_ne (ne_of_none (h.same _ _ z) hp)]; exact h.same _ _ z
  · rcases List.mem_append.mp hx with hx | hx
    · obtain ⟨h1, h2⟩ := h.on x hx
      have xD : adr x ≠ D := fun e => by rw [e, h.d] at h1; cases h1
      rw [ex x hx, upd_ne xD, upd_ne (xp x hx)]; exact ⟨h1, h2⟩
    · cases List.mem_singleton.mp hx
      rw [em, upd_ne Dp.symm, upd_same]; exact ⟨rfl, p0⟩
  · rcases List.mem_append.mp hx with hx | hx
    · rcases List.mem_append.mp hy with hy | hy
      · rw [ex x hx, ex y hy] at e; exact h.inj x hx y hy e
      · cases List.mem_singleton.mp hy
        rw [ex x hx, em] at e; exact absurd e (xp x hx)
    · cases List.mem_singleton.mp hx
      rcases List.mem_append.mp hy with hy | hy
      · rw [em, ex y hy] at e; exact absurd e.symm (xp y hy)
      · cases List.mem_singleton.mp hy; rfl
def spKInit (K : PySem.W.Frag) (CK CS CC : Addr) : Sp := fun vs H Q _ => ∃ (p dx sc : Addr) (chs : Chs) (cls : Cls'), vs = [.ref p, .ref sc] ∧ H p = some (.ins CK dx []) ∧ SceneH K CS CC H sc chs cls ∧ OkC chs cls ∧
  ∀ (a b : Addr) (adr : PySem.Str → Addr) (H' : Hp), SeatH CK H' p sc a b adr (keysT chs) S0 → ScnH K CS CC H' sc (fpS a adr (keysT chs)) chs cls → H a = none → (∀ m ∈ keysT chs, H (adr m) = none) → Kp [p] H H' → Q .non H'
section
variable {P : Program} {w : World} {K : PySem.W.Frag} {mg : PySem.Str → Option Value} {base : Heap}
theorem scKI : FnScope ["self", "scene", "mast"] ["self", "scene"] (defScope sKInit) := ⟨rfl, rfl, rfl, by decide +kernel, rfl, by decide +kernel, by decide +kernel⟩
theorem ok_kinit {f CK CS CC : Addr} {fd : FuncData} (F : Fun K "__init__" "Seats.__init__" sKInit f fd) (T : TxK K mg CK CS CC) : FnOk P w K mg base CX0 1 f fd ["self", "scene"] (spKInit K CK CS CC) := by
  refine F.ok scKI (fun vs H Q E h => ?_) (fun cdv A outer s H vs Q E hr h => ?_)
  · obtain ⟨p, dx, sc, chs, cls, rfl, _⟩ := h
    rfl
  · obtain ⟨p, dx, sc, chs, cls, rfl, hp, ⟨⟨dx2, x, y, c1, c2, c3⟩, hC⟩, ok, q⟩ := h
    rcases c2 with c2 | ⟨o2, c2⟩
    · refine ⟨_, (pss_cons (ps_fld (pv 0) (pv 1) rfl)
        (pss_cons (ps_fld (pv 0) pe_dnewK rfl)
        (pss_one (ps_fld (pv 0) (pe_lock (pe_dc (own := [("mast", 2)]) (g := gName 2) (tt := tYes) rfl scKI.nd (pi_keys (pe_fld (pv 1) rfl)) (blkOk_by (own := [("mast", 2)]) (N := ["self", "scene", "mast"]) (sc := defScope sKInit) (by decide +kernel)) (fun _ _ _ _ _ => pg_name (i := 2) scKI.nd rfl (Or.inl rfl)) (fun _ _ _ _ _ => pts_nil) (fun _ _ _ _ _ => (pv 2)) (fun _ _ _ _ _ => (pe_lst pa_nil)))) rfl)))), ?_⟩
      refine ⟨_, rfl, _, rfl, p, CK, dx, [], rfl, hp, T.cl, T.n1, (by show 0 < 1000; decide), ?_⟩
      rw [show putF "scene" (V.ref sc) [] = ([("scene", V.ref sc)] : List (PySem.Str × V)) from rfl]
      intro a ha
      have pa : p ≠ a := ne_of_none upd_same ha
      have ha0 : H a = none := by rw [upd_ne pa.symm] at ha; exact ha
      refine ⟨_, rfl, p, CK, dx, _, rfl, (by rw [upd_ne pa]; exact upd_same), T.cl, T.n2, (by show 1 < 1000; decide), ?_⟩
      rw [show putF "seating" (V.ref a) [("scene", V.ref sc)] = ([("scene", V.ref sc), ("seating", V.ref a)] : List (PySem.Str × V)) from rfl]
      have hp2 : (upd (upd (upd H p (.ins CK dx [("scene", .ref sc)])) a (.dK [])) p (.ins CK dx [("scene", .ref sc), ("seating", .ref a)])) p = some (.ins CK dx [("scene", .ref sc), ("seating", .ref a)]) := upd_same
      have ha2 : (upd (upd (upd H p (.ins CK dx [("scene", .ref sc)])) a (.dK [])) p (.ins CK dx [("scene", .ref sc), ("seating", .ref a)])) a = some (.dK []) := by rw [upd_ne pa.symm]; exact upd_same
      have far : ∀ b, b ≠ p → ∀ o, H b = some o → (upd (upd (upd H p (.ins CK dx [("scene", .ref sc)])) a (.dK [])) p (.ins CK dx [("scene", .ref sc), ("seating", .ref a)])) b = some o := fun b n o z => by
        rw [upd_ne n, upd_ne (ne_of_none z ha0), upd_ne n]; exact z
      generalize (upd (upd (upd H p (.ins CK dx [("scene", .ref sc)])) a (.dK [])) p (.ins CK dx [("scene", .ref sc), ("seating", .ref a)])) = H2 at hp2 ha2 far ⊢
      have np : ∀ {b : Addr} {o : HO}, H b = some o → (∀ C d fs, o = .ins C d fs → fs ≠ []) → b ≠ p := fun {b o} z h e => by
        rw [e, hp] at z; exact h _ _ _ (Option.some.inj z).symm rfl
      have c1' := far sc (np c1 fun C d fs e => by cases e; simp) _ c1
      have c2' := far x (np c2 fun C d fs e => by cases e) _ c2
      have npy : y ≠ p := c3.elim (fun z => np z fun C d fs e => by cases e) fun ⟨o, z⟩ => np z fun C d fs e => by cases e
      have c3' : Rd _ y _ := c3.elim (fun z => .inl (far y npy _ z)) fun ⟨o, z⟩ => .inr ⟨o, far y npy _ z⟩
      refine ⟨x, _, c2', trivial, fun od => ⟨_, rfl, sc, CS, dx2, _, _, rfl, (by
        have : sc ≠ x := fun e => by rw [e, c2] at c1; cases c1
        rw [upd_ne this]; exact c1'), T.clS, T.nCh, rfl, x, od, rfl, .inl ⟨_, upd_same, fun D hD => dc_it walk_keys (fun i H' => ∃ adr, NewL (upd H2 x (.frz od (.dK (kvT vI chs)))) H' D ((keysT chs).take i) adr) ?_ ?_ ?_ ?_⟩⟩⟩
      · exact ⟨fun _ => D, ⟨fun b o z => by rw [upd_ne (ne_of_none z hD)]; exact z, upd_same, hD, fun m hm => (nomatch hm), fun m hm => (nomatch hm)⟩⟩
      · rintro i H' _ ⟨adr, N⟩
        exact N.same _ _ upd_same
      · rintro i v _ H3 hi ⟨adr, N⟩ ⟨rfl, kk, v', hk, rfl⟩
        obtain ⟨z, hz, rfl, rfl⟩ := kvT_get hk
        have hz' : (keysT chs)[i]? = some z.1 := by unfold keysT; rw [List.getElem?_map, hz]; rfl
        refine ⟨rfl, _, rfl, Nat.zero_le _, fun p' hp' => ⟨_, Sum.inr z.1, rfl, by rw [upd_ne (ne_of_none N.d hp')]; exact N.d, len_mk (by unfold keysT; rw [List.length_map]; exact ok.len), ?_⟩⟩
        obtain ⟨p1, p2⟩ := N.push (nd_take ok.nd hz') hp'
        have et : (keysT chs).take (i + 1) = (keysT chs).take i ++ [z.1] := by rw [List.take_add_one, hz']; rfl
        rw [p1, et]
        exact ⟨_, p2⟩
      · rintro H3 ⟨adr, N⟩
        rw [show (kvT vI chs).length = (keysT chs).length by unfold kvT keysT; rw [List.length_map, List.length_map], List.take_length] at N
        refine ⟨N.same _ _ upd_same, ?_⟩
        have L0x : (upd H2 x (.frz od (.dK (kvT vI chs)))) x = some (.frz od (.dK (kvT vI chs))) := upd_same
        have Dx : D ≠ x := fun e => by have := N.d0; rw [e, L0x] at this; cases this
        have ax : ∀ m ∈ keysT chs, adr m ≠ x := fun m hm e => by have := (N.on m hm).2; rw [e, L0x] at this; cases this
        have s4 : Same H2 (upd H3 x (.dK (kvT vI chs))) := un_same N.same c2'
        have d4 : (upd H3 x (.dK (kvT vI chs))) D = some (.dK (kvT vA ((keysT chs).map fun m => (m, adr m)))) := by rw [upd_ne Dx]; exact N.d
        have o4 : ∀ m ∈ keysT chs, (upd H3 x (.dK (kvT vI chs))) (adr m) = some (.lst []) := fun m hm => by rw [upd_ne (ax m hm)]; exact (N.on m hm).1
        generalize upd H3 x (.dK (kvT vI chs)) = H4 at s4 d4 o4 ⊢
        have p4 := s4 _ _ hp2
        refine ⟨_, rfl, p, CK, dx, _, rfl, p4, T.cl, T.n3, (by show 2 < 1000; decide), ?_⟩
        rw [show putF "seated" (V.ref D) [("scene", V.ref sc), ("seating", V.ref a)] = ([("scene", V.ref sc), ("seating", V.ref a), ("seated", V.ref D)] : List (PySem.Str × V)) from rfl]
        have H2none : ∀ u, H2 u = none → H u = none := fun u hu => Classical.byContradiction fun z => by
          cases e : H u with
          | none => exact z e
          | some o =>
            by_cases up : u = p
            · rw [up, hp2] at hu; cases hu
            · rw [far u up o e] at hu; cases hu
        have D2 : H2 D = none := by have := N.d0; rw [upd_ne Dx] at this; exact this
        have a2 : ∀ m ∈ keysT chs, H2 (adr m) = none := fun m hm => by have := (N.on m hm).2; rw [upd_ne (ax m hm)] at this; exact this
        have far5 : ∀ u, u ≠ p → ∀ o, H4 u = some o → (upd H4 p (.ins CK dx [("scene", .ref sc), ("seating", .ref a), ("seated", .ref D)])) u = some o := fun u n o z => by rw [upd_ne n]; exact z
        have farH : ∀ u, u ≠ p → ∀ o, H u = some o → (upd H4 p (.ins CK dx [("scene", .ref sc), ("seating", .ref a), ("seated", .ref D)])) u = some o := fun u n o z => far5 u n o (s4 _ _ (far u n o z))
        have Dp : D ≠ p := fun e => by rw [e, p4] at d4; cases d4
        have Da : D ≠ a := fun e => by rw [e, ha2] at D2; cases D2
        have ap : ∀ m ∈ keysT chs, adr m ≠ p := fun m hm e => by have := o4 m hm; rw [e, p4] at this; cases this
        have nF : ∀ u o, H u = some o → u ∉ fpS a adr (keysT chs) := fun u o z hu => by
          rcases List.mem_cons.mp hu with e | e
          · rw [e, ha0] at z; cases z
          · obtain ⟨m, hm, e⟩ := List.mem_map.mp e
            rw [← e, H2none _ (a2 m hm)] at z; cases z
        refine q a D adr _ ⟨⟨dx, upd_same⟩, ⟨[], far5 a (fun e => pa e.symm) _ (s4 _ _ ha2), List.Pairwise.nil, by decide, fun c => rfl⟩, far5 D Dp _ d4, fun m hm => far5 _ (ap m hm) _ (o4 m hm), N.inj, fun c m e => (nomatch e), ok.nd, Da⟩ ⟨⟨dx2, x, y, farH _ (np c1 fun C d fs e => by cases e; simp) _ c1, .inl (farH _ (np c2 fun C d fs e => by cases e) _ c2), c3.elim (fun z => .inl (farH _ npy _ z)) fun ⟨o, z⟩ => .inr ⟨o, farH _ npy _ z⟩, nF _ _ c1, nF _ _ c2, c3.elim (fun z => nF _ _ z) fun ⟨o, z⟩ => nF _ _ z⟩, fun z hz => ?_⟩ ha0 (fun m hm => H2none _ (a2 m hm)) fun u o z n => farH u (fun e => n (List.mem_singleton.mpr e)) o z
        obtain ⟨dx', h', g1, g2⟩ := (hC z hz).here
        exact ⟨dx', h', farH _ (np g1 fun C d fs e => by cases e; simp) _ g1, farH _ (np g2 fun C d fs e => by cases e) _ g2, nF _ _ g1, nF _ _ g2⟩
    · refine ⟨_, (pss_cons (ps_fld (pv 0) (pv 1) rfl)
        (pss_cons (ps_fld (pv 0) pe_dnewK rfl)
        (pss_one (ps_fld (pv 0) ((pe_dc (own := [("mast", 2)]) (g := gName 2) (tt := tYes) rfl scKI.nd (pi_keys (pe_fld (pv 1) rfl)) (blkOk_by (own := [("mast", 2)]) (N := ["self", "scene", "mast"]) (sc := defScope sKInit) (by decide +kernel)) (fun _ _ _ _ _ => pg_name (i := 2) scKI.nd rfl (Or.inl rfl)) (fun _ _ _ _ _ => pts_nil) (fun _ _ _ _ _ => (pv 2)) (fun _ _ _ _ _ => (pe_lst pa_nil)))) rfl)))), ?_⟩
      refine ⟨_, rfl, _, rfl, p, CK, dx, [], rfl, hp, T.cl, T.n1, (by show 0 < 1000; decide), ?_⟩
      rw [show putF "scene" (V.ref sc) [] = ([("scene", V.ref sc)] : List (PySem.Str × V)) from rfl]
      intro a ha
      have pa : p ≠ a := ne_of_none upd_same ha
      have ha0 : H a = none := by rw [upd_ne pa.symm] at ha; exact ha
      refine ⟨_, rfl, p, CK, dx, _, rfl, (by rw [upd_ne pa]; exact upd_same), T.cl, T.n2, (by show 1 < 1000; decide), ?_⟩
      rw [show putF "seating" (V.ref a) [("scene", V.ref sc)] = ([("scene", V.ref sc), ("seating", V.ref a)] : List (PySem.Str × V)) from rfl]
      have hp2 : (upd (upd (upd H p (.ins CK dx [("scene", .ref sc)])) a (.dK [])) p (.ins CK dx [("scene", .ref sc), ("seating", .ref a)])) p = some (.ins CK dx [("scene", .ref sc), ("seating", .ref a)]) := upd_same
      have ha2 : (upd (upd (upd H p (.ins CK dx [("scene", .ref sc)])) a (.dK [])) p (.ins CK dx [("scene", .ref sc), ("seating", .ref a)])) a = some (.dK []) := by rw [upd_ne pa.symm]; exact upd_same
      have far : ∀ b, b ≠ p → ∀ o, H b = some o → (upd (upd (upd H p (.ins CK dx [("scene", .ref sc)])) a (.dK [])) p (.ins CK dx [("scene", .ref sc), ("seating", .ref a)])) b = some o := fun b n o z => by
        rw [upd_ne n, upd_ne (ne_of_none z ha0), upd_ne n]; exact z
      generalize (upd (upd (upd H p (.ins CK dx [("scene", .ref sc)])) a (.dK [])) p (.ins CK dx [("scene", .ref sc), ("seating", .ref a)])) = H2 at hp2 ha2 far ⊢
      have np : ∀ {b : Addr} {o : HO}, H b = some o → (∀ C d fs, o = .ins C d fs → fs ≠ []) → b ≠ p := fun {b o} z h e => by
        rw [e, hp] at z; exact h _ _ _ (Option.some.inj z).symm rfl
      have c1' := far sc (np c1 fun C d fs e => by cases e; simp) _ c1
      have c2' := far x (np c2 fun C d fs e => by cases e) _ c2
      have npy : y ≠ p := c3.elim (fun z => np z fun C d fs e => by cases e) fun ⟨o, z⟩ => np z fun C d fs e => by cases e
      have c3' : Rd _ y _ := c3.elim (fun z => .inl (far y npy _ z)) fun ⟨o, z⟩ => .inr ⟨o, far y npy _ z⟩
      refine ⟨_, rfl, sc, CS, dx2, _, _, rfl, c1', T.clS, T.nCh, rfl, x, o2, rfl, .inl ⟨_, c2', fun D hD => dc_it walk_keys (fun i H' => ∃ adr, NewL H2 H' D ((keysT chs).take i) adr) ?_ ?_ ?_ ?_⟩⟩
      · exact ⟨fun _ => D, ⟨fun b o z => by rw [upd_ne (ne_of_none z hD)]; exact z, upd_same, hD, fun m hm => (nomatch hm), fun m hm => (nomatch hm)⟩⟩
      · rintro i H' _ ⟨adr, N⟩
        exact N.same _ _ c2'
      · rintro i v _ H3 hi ⟨adr, N⟩ ⟨rfl, kk, v', hk, rfl⟩
        obtain ⟨z, hz, rfl, rfl⟩ := kvT_get hk
        have hz' : (keysT chs)[i]? = some z.1 := by unfold keysT; rw [List.getElem?_map, hz]; rfl
        refine ⟨rfl, _, rfl, Nat.zero_le _, fun p' hp' => ⟨_, Sum.inr z.1, rfl, by rw [upd_ne (ne_of_none N.d hp')]; exact N.d, len_mk (by unfold keysT; rw [List.length_map]; exact ok.len), ?_⟩⟩
        obtain ⟨p1, p2⟩ := N.push (nd_take ok.nd hz') hp'
        have et : (keysT chs).take (i + 1) = (keysT chs).take i ++ [z.1] := by rw [List.take_add_one, hz']; rfl
        rw [p1, et]
        exact ⟨_, p2⟩
      · rintro H3 ⟨adr, N⟩
        rw [show (kvT vI chs).length = (keysT chs).length by unfold kvT keysT; rw [List.length_map, List.length_map], List.take_length] at N
        have s4 : Same H2 H3 := N.same
        have d4 := N.d
        have o4 : ∀ m ∈ keysT chs, H3 (adr m) = some (.lst []) := fun m hm => (N.on m hm).1
        have p4 := s4 _ _ hp2
        refine ⟨_, rfl, p, CK, dx, _, rfl, p4, T.cl, T.n3, (by show 2 < 1000; decide), ?_⟩
        rw [show putF "seated" (V.ref D) [("scene", V.ref sc), ("seating", V.ref a)] = ([("scene", V.ref sc), ("seating", V.ref a), ("seated", V.ref D)] : List (PySem.Str × V)) from rfl]
        have H2none : ∀ u, H2 u = none → H u = none := fun u hu => Classical.byContradiction fun z => by
          cases e : H u with
          | none => exact z e
          | some o =>
            by_cases up : u = p
            · rw [up, hp2] at hu; cases hu
            · rw [far u up o e] at hu; cases hu
        have D2 : H2 D = none := N.d0
        have a2 : ∀ m ∈ keysT chs, H2 (adr m) = none := fun m hm => (N.on m hm).2
        have far5 : ∀ u, u ≠ p → ∀ o, H3 u = some o → (upd H3 p (.ins CK dx [("scene", .ref sc), ("seating", .ref a), ("seated", .ref D)])) u = some o := fun u n o z => by rw [upd_ne n]; exact z
        have farH : ∀ u, u ≠ p → ∀ o, H u = some o → (upd H3 p (.ins CK dx [("scene", .ref sc), ("seating", .ref a), ("seated", .ref D)])) u = some o := fun u n o z => far5 u n o (s4 _ _ (far u n o z))
        have Dp : D ≠ p := fun e => by rw [e, p4] at d4; cases d4
        have Da : D ≠ a := fun e => by rw [e, ha2] at D2; cases D2
        have ap : ∀ m ∈ keysT chs, adr m ≠ p := fun m hm e => by have := o4 m hm; rw [e, p4] at this; cases this
        have nF : ∀ u o, H u = some o → u ∉ fpS a adr (keysT chs) := fun u o z hu => by
          rcases List.mem_cons.mp hu with e | e
          · rw [e, ha0] at z; cases z
          · obtain ⟨m, hm, e⟩ := List.mem_map.mp e
            rw [← e, H2none _ (a2 m hm)] at z; cases z
        refine q a D adr _ ⟨⟨dx, upd_same⟩, ⟨[], far5 a (fun e => pa e.symm) _ (s4 _ _ ha2), List.Pairwise.nil, by decide, fun c => rfl⟩, far5 D Dp _ d4, fun m hm => far5 _ (ap m hm) _ (o4 m hm), N.inj, fun c m e => (nomatch e), ok.nd, Da⟩ ⟨⟨dx2, x, y, farH _ (np c1 fun C d fs e => by cases e; simp) _ c1, .inr ⟨o2, farH _ (np c2 fun C d fs e => by cases e) _ c2⟩, c3.elim (fun z => .inl (farH _ npy _ z)) fun ⟨o, z⟩ => .inr ⟨o, farH _ npy _ z⟩, nF _ _ c1, nF _ _ c2, c3.elim (fun z => nF _ _ z) fun ⟨o, z⟩ => nF _ _ z⟩, fun z hz => ?_⟩ ha0 (fun m hm => H2none _ (a2 m hm)) fun u o z n => farH u (fun e => n (List.mem_singleton.mpr e)) o z
        obtain ⟨dx', h', g1, g2⟩ := (hC z hz).here
        exact ⟨dx', h', farH _ (np g1 fun C d fs e => by cases e; simp) _ g1, farH _ (np g2 fun C d fs e => by cases e) _ g2, nF _ _ g1, nF _ _ g2⟩
end
end Mc
namespace Mc
open PySem L2 PySem.Spec PyProof.Rows
theorem seatable_sub {α : Type} [DecidableEq α] {X : Sc α} {a b : List α} (nd : a.Nodup) (h : ∀ x ∈ a, x ∈ b) : Seatable X b → Seatable X a := fun ⟨T, t1, t2⟩ =>
  ⟨T, fun c hc => t1 c (h c hc), fun m => Nat.le_trans (len_sub (nd.filter _) fun x hx => List.mem_filter.mpr ⟨h x (List.mem_filter.mp hx).1, (List.mem_filter.mp hx).2⟩) (t2 m)⟩
theorem sok0 (X : Sc PySem.Str) : SOk X S0 [] := ⟨fun c m => ⟨fun e => (nomatch e), fun e => (nomatch e)⟩, fun _ => List.nodup_nil, fun _ => Nat.zero_le _, fun c m h => (nomatch h), fun c => ⟨fun ⟨m, e⟩ => (nomatch e), fun e => (nomatch e)⟩⟩
theorem kp_same {F : List Addr} {H H1 H' : Hp} (s : Same H H1) (k : Kp F H1 H') (h : ∀ u ∈ F, H u = none) : Same H H' := fun u o z => k u o (s u o z) fun hu => by rw [h u hu] at z; cases z
end Mc
namespace Mc
open PySem L2 PySem.Spec PyProof.Rows
/-! a list comprehension with two fors, by two walks -/
theorem yes_ite {σ : L2.St} {H : Hp} {A B : Hp → Prop} (h : A H) : tYes σ H (fun b H3 => if b = true then A H3 else B H3) := by
  show (if true = true then A H else B H)
  rw [if_pos rfl]
  exact h
theorem pi_listK {X : Cx} {K : PySem.W.Frag} {tg l : Expr} {tl : TE} (h : X.K = K) (hl : PE X l tl) : PI X tg l (iList K tl) := by
  subst h
  exact pi_list hl
section
variable {J J1 : It} {n n1 : Nat} {G G1 : Hp → Prop} {Y Y1 : Nat → Hp → V → Hp → Prop} {g g1 : TG} {tt tt1 : TT} {te : TE} {wi1 : TI} {vs vs1 : List Nat} {σ σ2 : L2.St} {H1 H4 : Hp} {D : Addr} {Qd Nx : Hp → Prop}
theorem lc2_out (w : Walk J n G Y) (Pv : Nat → Hp → Prop) (h0 : Pv 0 (upd H1 D (.lst []))) (hG : ∀ i H, i ≤ n → Pv i H → G H)
    (hs : ∀ i x H H', i < n → Pv i H → Y i H x H' → g x (wipe σ vs) H' fun σ2 H2 => wipe σ2 vs = wipe σ vs ∧ tt σ2 H2 fun b H3 => if b = true then wi1 σ2 H3 fun J1 H4 => ∃ W1 : Nat → Nat → Hp → Prop, (∃ m, W1 0 m H4) ∧ ∀ j k H, W1 j k H →
      (J1.stop j H ∧ Pv (i + 1) H) ∨ (J1.go j H ∧ ∃ Nx1 : Hp → Prop, (∀ H', Nx1 H' → ∃ k', k' < k ∧ W1 (j + 1) k' H') ∧ ∀ x H', J1.yld j H x H' → g1 x (wipe σ2 vs1) H' fun σ3 H5 => wipe σ3 vs1 = wipe σ2 vs1 ∧ tt1 σ3 H5 fun b H6 =>
        if b = true then te σ3 H6 fun y H7 => ∃ acc, H7 D = some (.lst acc) ∧ acc.length < sizeLine ∧ Nx1 (upd H7 D (.lst (acc ++ [y]))) else Nx1 H6) else Pv (i + 1) H3) (hd : ∀ H, Pv n H → Qd H) :
    ∃ W : Nat → Nat → Hp → Prop, (∃ m, W 0 m (upd H1 D (.lst []))) ∧ ∀ i m H, W i m H →
  (J.stop i H ∧ Qd H) ∨ (J.go i H ∧ ∃ Nx : Hp → Prop, (∀ H', Nx H' → ∃ m', m' < m ∧ W (i + 1) m' H') ∧ ∀ x H', J.yld i H x H' → g x (wipe σ vs) H' fun σ2 H2 => wipe σ2 vs = wipe σ vs ∧ tt σ2 H2 fun b H3 =>
    if b = true then wi1 σ2 H3 fun J1 H4 => ∃ W1 : Nat → Nat → Hp → Prop, (∃ m, W1 0 m H4) ∧ ∀ j k H, W1 j k H →
      (J1.stop j H ∧ Nx H) ∨ (J1.go j H ∧ ∃ Nx1 : Hp → Prop, (∀ H', Nx1 H' → ∃ k', k' < k ∧ W1 (j + 1) k' H') ∧ ∀ x H', J1.yld j H x H' → g1 x (wipe σ2 vs1) H' fun σ3 H5 => wipe σ3 vs1 = wipe σ2 vs1 ∧ tt1 σ3 H5 fun b H6 =>
        if b = true then te σ3 H6 fun y H7 => ∃ acc, H7 D = some (.lst acc) ∧ acc.length < sizeLine ∧ Nx1 (upd H7 D (.lst (acc ++ [y]))) else Nx1 H6)
    else Nx H3) := by
  refine ⟨fun i m H => m = n - i ∧ i ≤ n ∧ Pv i H, ⟨n, by simp, Nat.zero_le _, h0⟩, ?_⟩
  rintro i m H ⟨rfl, hi, p⟩
  by_cases hlt : i < n
  · exact .inr ⟨w.goes i H hlt (hG i H hi p), Pv (i + 1), fun H' p' => ⟨n - (i + 1), by omega, rfl, hlt, p'⟩, fun x H' y => hs i x H H' hlt p (w.yields i H x H' hlt (hG i H hi p) y)⟩
  · obtain rfl : i = n := by omega
    exact .inl ⟨w.stops H (hG _ H hi p), hd H p⟩
theorem lc2_in (w : Walk J1 n1 G1 Y1) (Pj : Nat → Hp → Prop) (h0 : Pj 0 H4) (hG : ∀ i H, i ≤ n1 → Pj i H → G1 H)
    (hs : ∀ j x H H', j < n1 → Pj j H → Y1 j H x H' → g1 x (wipe σ2 vs1) H' fun σ3 H5 => wipe σ3 vs1 = wipe σ2 vs1 ∧ tt1 σ3 H5 fun b H6 => if b = true then te σ3 H6 fun y H7 => ∃ acc, H7 D = some (.lst acc) ∧ acc.length < sizeLine ∧ Pj (j + 1) (upd H7 D (.lst (acc ++ [y]))) else Pj (j + 1) H6)
    (hd : ∀ H, Pj n1 H → Nx H) :
    ∃ W1 : Nat → Nat → Hp → Prop, (∃ m, W1 0 m H4) ∧ ∀ j k H, W1 j k H →
      (J1.stop j H ∧ Nx H) ∨ (J1.go j H ∧ ∃ Nx1 : Hp → Prop, (∀ H', Nx1 H' → ∃ k', k' < k ∧ W1 (j + 1) k' H') ∧ ∀ x H', J1.yld j H x H' → g1 x (wipe σ2 vs1) H' fun σ3 H5 => wipe σ3 vs1 = wipe σ2 vs1 ∧ tt1 σ3 H5 fun b H6 =>
        if b = true then te σ3 H6 fun y H7 => ∃ acc, H7 D = some (.lst acc) ∧ acc.length < sizeLine ∧ Nx1 (upd H7 D (.lst (acc ++ [y]))) else Nx1 H6) := by
  refine ⟨fun i m H => m = n1 - i ∧ i ≤ n1 ∧ Pj i H, ⟨n1, by simp, Nat.zero_le _, h0⟩, ?_⟩
  rintro i m H ⟨rfl, hi, p⟩
  by_cases hlt : i < n1
  · exact .inr ⟨w.goes i H hlt (hG i H hi p), Pj (i + 1), fun H' p' => ⟨n1 - (i + 1), by omega, rfl, hlt, p'⟩, fun x H' y => hs i x H H' hlt p (w.yields i H x H' hlt (hG i H hi p) y)⟩
  · obtain rfl : i = n1 := by omega
    exact .inl ⟨w.stops H (hG _ H hi p), hd H p⟩
end
end Mc
namespace Mc
open PySem L2 PySem.Spec PyProof.Rows
/-! ### comprehensions whose turns change nothing that stood -/
theorem itP {c A B : Prop} [Decidable c] (h : c) (a : A) : if c then A else B := by rw [if_pos h]; exact a
theorem itN {c A B : Prop} [Decidable c] (h : ¬ c) (b : B) : if c then A else B := by rw [if_neg h]; exact b
theorem Same.new {p : Addr} {H : Hp} {o : HO} (h : H p = none) : Same H (upd H p o) := fun b u z => by rw [upd_ne (ne_of_none z h)]; exact z
theorem Same.rfl' {H : Hp} : Same H H := fun _ _ z => z
theorem Same.two {p q : Addr} {H : Hp} {o u : HO} (h : H p = none) (k : upd H p o q = none) : Same H (upd (upd H p o) q u) := (Same.new h).trans (Same.new k)
section
variable {α : Type} {c f : α → V} {ys : List α} {J : It} {n : Nat} {G : Hp → Prop} {te : TE} {vs : List Nat} {σ : L2.St} {H1 : Hp} {D : Addr} {Qd : Hp → Prop} {j : Nat}
/-- [e for x in xs], as a map -/
theorem lc_m (w : Walk J n G (YAt (ys.map c))) (f : α → V) (hn : n = ys.length) (hD : H1 D = none) (hG : ∀ H', Same H1 H' → G H') (hz : ys.length ≤ sizeLine)
    (turn : ∀ (i : Nat) (y : α) (H' : Hp) (k : VK), ys[i]? = some y → Same H1 H' → (∀ H4, Same H' H4 → k (f y) H4) → te ((wipe σ vs).set j (some (c y))) H' k)
    (hd : ∀ H', Same H1 H' → H' D = some (.lst (ys.map f)) → Qd H') (hw : ∀ v, wipe ((wipe σ vs).set j (some v)) vs = wipe σ vs := by intro _; rfl) :
    ∃ W : Nat → Nat → Hp → Prop, (∃ m, W 0 m (upd H1 D (.lst []))) ∧ ∀ i m H, W i m H →
      (J.stop i H ∧ Qd H) ∨ (J.go i H ∧ ∃ Nx : Hp → Prop, (∀ H', Nx H' → ∃ m', m' < m ∧ W (i + 1) m' H') ∧ ∀ x H', J.yld i H x H' → gName j x (wipe σ vs) H' fun σ2 H2 => wipe σ2 vs = wipe σ vs ∧ tYes σ2 H2 fun b H3 =>
        if b = true then te σ2 H3 fun y H4 => ∃ acc, H4 D = some (.lst acc) ∧ acc.length < sizeLine ∧ Nx (upd H4 D (.lst (acc ++ [y]))) else Nx H3) := by
  refine lc_it w (fun i H' => Same H1 H' ∧ H' D = some (.lst ((ys.take i).map f))) ⟨Same.new hD, upd_same⟩ (fun i H' _ z => hG H' z.1) ?_ ?_
  · rintro i x H H' hi ⟨s1, d1⟩ ⟨rfl, hx⟩
    rw [List.getElem?_map] at hx
    cases e : ys[i]? with
    | none => rw [e] at hx; cases hx
    | some y =>
      rw [e] at hx
      obtain rfl := Option.some.inj hx
      refine ⟨hw _, yes_ite (turn i y _ _ e s1 fun H4 s4 => ⟨_, s4 _ _ d1, ?_, ?_, ?_⟩)⟩
      · rw [List.length_map, List.length_take]; omega
      · exact fun b o z => by
          have nb : b ≠ D := ne_of_none z hD
          rw [upd_ne nb]
          exact s4 _ _ (s1 _ _ z)
      · rw [upd_same, List.take_add_one, e, List.map_append]
        rfl
  · rintro H ⟨s1, d1⟩
    subst hn
    rw [List.take_length] at d1
    exact hd H s1 d1
/-- [x for x in xs if t] and the like, as a filter and a map -/
theorem lc_f {tt : TT} (w : Walk J n G (YAt (ys.map c))) (p : α → Bool) (f : α → V) (hn : n = ys.length) (hD : H1 D = none) (hG : ∀ H', Same H1 H' → G H') (hz : ys.length ≤ sizeLine)
    (test : ∀ (i : Nat) (y : α) (H' : Hp) (k : Bool → Hp → Prop), ys[i]? = some y → Same H1 H' → (∀ H4, Same H' H4 → k (p y) H4) → tt ((wipe σ vs).set j (some (c y))) H' k)
    (turn : ∀ (i : Nat) (y : α) (H' : Hp) (k : VK), ys[i]? = some y → p y = true → Same H1 H' → (∀ H4, Same H' H4 → k (f y) H4) → te ((wipe σ vs).set j (some (c y))) H' k)
    (hd : ∀ H', Same H1 H' → H' D = some (.lst ((ys.filter p).map f)) → Qd H') (hw : ∀ v, wipe ((wipe σ vs).set j (some v)) vs = wipe σ vs := by intro _; rfl) :
    ∃ W : Nat → Nat → Hp → Prop, (∃ m, W 0 m (upd H1 D (.lst []))) ∧ ∀ i m H, W i m H →
      (J.stop i H ∧ Qd H) ∨ (J.go i H ∧ ∃ Nx : Hp → Prop, (∀ H', Nx H' → ∃ m', m' < m ∧ W (i + 1) m' H') ∧ ∀ x H', J.yld i H x H' → gName j x (wipe σ vs) H' fun σ2 H2 => wipe σ2 vs = wipe σ vs ∧ tt σ2 H2 fun b H3 =>
        if b = true then te σ2 H3 fun y H4 => ∃ acc, H4 D = some (.lst acc) ∧ acc.length < sizeLine ∧ Nx (upd H4 D (.lst (acc ++ [y]))) else Nx H3) := by
  refine lc_it w (fun i H' => Same H1 H' ∧ H' D = some (.lst (((ys.take i).filter p).map f))) ⟨Same.new hD, upd_same⟩ (fun i H' _ z => hG H' z.1) ?_ ?_
  · rintro i x H H' hi ⟨s1, d1⟩ ⟨rfl, hx⟩
    rw [List.getElem?_map] at hx
    cases e : ys[i]? with
    | none => rw [e] at hx; cases hx
    | some y =>
      rw [e] at hx
      obtain rfl := Option.some.inj hx
      have et : (ys.take (i + 1)).filter p = (ys.take i).filter p ++ (if p y = true then [y] else []) := by
        rw [List.take_add_one, e, List.filter_append]
        show _ ++ [y].filter p = _
        rw [List.filter_cons]
        split <;> rfl
      refine ⟨hw _, test i y _ _ e s1 fun H3 s3 => ?_⟩
      by_cases hp : p y = true
      · rw [if_pos hp]
        refine turn i y _ _ e hp (s1.trans s3) fun H4 s4 => ⟨_, s4 _ _ (s3 _ _ d1), ?_, ?_, ?_⟩
        · have h1 := List.length_filter_le p (ys.take i)
          have h2 := List.length_take_le i ys
          rw [List.length_map]
          have h3 : (ys.take i).length < ys.length := by
            have := (List.getElem?_eq_some_iff.mp e).1
            rw [List.length_take]; omega
          omega
        · exact fun b o z => by
            have nb : b ≠ D := ne_of_none z hD
            rw [upd_ne nb]
            exact s4 _ _ (s3 _ _ (s1 _ _ z))
        · rw [upd_same, et, if_pos hp, List.map_append]
          rfl
      · rw [if_neg hp]
        refine ⟨s1.trans s3, ?_⟩
        rw [et, if_neg hp, List.append_nil]
        exact s3 _ _ d1
  · rintro H ⟨s1, d1⟩
    subst hn
    rw [List.take_length] at d1
    exact hd H s1 d1
/-- [e for x in xs], each item a new object -/
theorem lc_n {R : Hp → α → Addr → Prop} (w : Walk J n G (YAt (ys.map c))) (hn : n = ys.length) (hD : H1 D = none) (hG : ∀ H', Same H1 H' → G H') (hz : ys.length ≤ sizeLine)
    (hR : ∀ H H' y a, R H y a → a ≠ D → (∀ b o, b ≠ D → H b = some o → H' b = some o) → R H' y a)
    (turn : ∀ (i : Nat) (y : α) (H' : Hp) (k : VK), ys[i]? = some y → Same H1 H' → (∀ H4 a, Same H' H4 → H' a = none → R H4 y a → k (.ref a) H4) → te ((wipe σ vs).set j (some (c y))) H' k)
    (hd : ∀ (H' : Hp) (as : List Addr), Same H1 H' → H' D = some (.lst (as.map V.ref)) → as.length = ys.length → (∀ (i : Nat) a y, as[i]? = some a → ys[i]? = some y → R H' y a ∧ a ≠ D ∧ H1 a = none) → Qd H') (hw : ∀ v, wipe ((wipe σ vs).set j (some v)) vs = wipe σ vs := by intro _; rfl) :
    ∃ W : Nat → Nat → Hp → Prop, (∃ m, W 0 m (upd H1 D (.lst []))) ∧ ∀ i m H, W i m H →
      (J.stop i H ∧ Qd H) ∨ (J.go i H ∧ ∃ Nx : Hp → Prop, (∀ H', Nx H' → ∃ m', m' < m ∧ W (i + 1) m' H') ∧ ∀ x H', J.yld i H x H' → gName j x (wipe σ vs) H' fun σ2 H2 => wipe σ2 vs = wipe σ vs ∧ tYes σ2 H2 fun b H3 =>
        if b = true then te σ2 H3 fun y H4 => ∃ acc, H4 D = some (.lst acc) ∧ acc.length < sizeLine ∧ Nx (upd H4 D (.lst (acc ++ [y]))) else Nx H3) := by
  refine lc_it w (fun i H' => ∃ as : List Addr, Same H1 H' ∧ H' D = some (.lst (as.map V.ref)) ∧ as.length = (ys.take i).length ∧ ∀ (l : Nat) a y, as[l]? = some a → (ys.take i)[l]? = some y → R H' y a ∧ a ≠ D ∧ H1 a = none) ⟨[], Same.new hD, upd_same, rfl, fun l a y z => (nomatch z)⟩ (fun i H' _ ⟨_, z, _⟩ => hG H' z) ?_ ?_
  · rintro i x H H' hi ⟨as, s1, d1, l1, r1⟩ ⟨rfl, hx⟩
    rw [List.getElem?_map] at hx
    cases e : ys[i]? with
    | none => rw [e] at hx; cases hx
    | some y =>
      rw [e] at hx
      obtain rfl := Option.some.inj hx
      have hil := (List.getElem?_eq_some_iff.mp e).1
      have ti : (ys.take i).length = i := by rw [List.length_take]; omega
      refine ⟨hw _, yes_ite (turn i y _ _ e s1 fun H4 a s4 na ra => ⟨_, s4 _ _ d1, ?_, as ++ [a], ?_, ?_, ?_, ?_⟩)⟩
      · rw [List.length_map, l1, ti]; omega
      · exact fun b o z => by
          have nb : b ≠ D := ne_of_none z hD
          rw [upd_ne nb]
          exact s4 _ _ (s1 _ _ z)
      · rw [upd_same, List.map_append]
        rfl
      · rw [List.length_append, l1, ti, List.length_take]; simp; omega
      · have naD : a ≠ D := fun e => by rw [e, d1] at na; cases na
        have k4 : ∀ b o, b ≠ D → H4 b = some o → upd H4 D (.lst (as.map V.ref ++ [V.ref a])) b = some o := fun b o nb z => by rw [upd_ne nb]; exact z
        intro l b z hb hz
        have et : ys.take (i + 1) = ys.take i ++ [y] := by rw [List.take_add_one, e]; rfl
        rw [et] at hz
        rcases Nat.lt_trichotomy l i with hl | hl | hl
        · rw [List.getElem?_append_left (by omega)] at hb hz
          obtain ⟨q1, q2, q3⟩ := r1 l b z hb hz
          refine ⟨hR _ _ _ _ q1 q2 fun c o nc h => k4 _ _ nc (s4 _ _ h), q2, q3⟩
        · subst hl
          rw [List.getElem?_append_right (by omega), l1, ti, Nat.sub_self] at hb
          rw [List.getElem?_append_right (by omega), ti, Nat.sub_self] at hz
          cases Option.some.inj hb
          cases Option.some.inj hz
          refine ⟨hR _ _ _ _ ra naD k4, naD, ?_⟩
          cases e1 : H1 a with
          | none => rfl
          | some o => rw [s1 _ _ e1] at na; cases na
        · rw [List.getElem?_eq_none (by rw [List.length_append, l1, ti]; simp; omega)] at hb
          cases hb
  · rintro H ⟨as, s1, d1, l1, r1⟩
    subst hn
    rw [List.take_length] at l1 r1
    exact hd H as s1 d1 l1 r1
end
/-- over a dict's keys, by their texts -/
theorem walk_kT {β : Type} {g : β → V} {l : List (PySem.Str × β)} {d : Addr} {o : Obj} : Walk (Itk d o (kvT g l)) (keysT l).length (fun H => H d = some (.frz o (.dK (kvT g l)))) (YAt ((keysT l).map V.str)) := by
  have e : (kvT g l).length = (keysT l).length := by unfold kvT keysT; rw [List.length_map, List.length_map]
  rw [← e]
  refine walk_keys.mono (fun _ h => h) ?_
  rintro i H x H' hi _ ⟨rfl, k, v, hk, rfl⟩
  refine ⟨rfl, ?_⟩
  unfold kvT at hk
  rw [List.getElem?_map] at hk
  unfold keysT
  rw [List.getElem?_map, List.getElem?_map]
  cases e2 : l[i]? with
  | none => rw [e2] at hk; cases hk
  | some z =>
    rw [e2] at hk
    cases Option.some.inj hk
    rfl
theorem walk_rng {lo : Int} {n : Nat} : Walk (Itr lo n) n (fun _ => True) (YAt ((List.range n).map fun i => V.int (lo + (i : Nat)))) := by
  refine walk_range.mono (fun _ h => h) ?_
  rintro i H x H' hi _ ⟨rfl, rfl⟩
  refine ⟨rfl, ?_⟩
  rw [List.getElem?_map, List.getElem?_range hi]
  rfl
theorem map_bl (p : α → Bool) (l : List α) : l.map (fun x => V.bl (p x)) = (l.map p).map V.bl := by rw [List.map_map]; rfl
theorem all_map_id {α : Type} (p : α → Bool) (l : List α) : (l.map p).all id = l.all p := by rw [List.all_map]; rfl
theorem any_map_id {α : Type} (p : α → Bool) (l : List α) : (l.map p).any id = l.any p := by rw [List.any_map]; rfl
end Mc
namespace Mc
open PySem L2 PySem.Spec PyProof.Rows FbM
/-! ### sorted(d, key=o.m), d a dict with text keys, m a method that gives an int and the key -/
/-- a method that is taken as a value -/
def CalB (P : Program) (w : World) (K : PySem.W.Frag) (mg : PySem.Str → Option Value) (base : Heap) (C : Addr) (k : Nat) (m : PySem.Str) (ps : List PySem.Str) (sp : Sp) : Prop :=
  ∃ (f : Addr) (fd : FuncData), BMeth K C m f ∧ Binds K fd ps [] ∧ FnOk P w K mg base CX0 k f fd ps sp
def kdM (kf : PySem.Str → Int) (x : PySem.Str) : PyData := .tuple [.int (kf x), .str x]
/-- what is asked of the method at each key -/
def RankOk (sp : Sp) (o : Addr) (kf : PySem.Str → Int) (ks : List PySem.Str) (H : Hp) : Prop :=
  ∀ x ∈ ks, ∀ H', Same H H' → sp [.ref o, .str x] H' (fun v H2 => ∃ p, v = .ref p ∧ H' p = none ∧ H2 = upd H' p (.tup [.int (kf x), .str x])) E0
/-- the heap with the object at k thrown away: the records behind a call of ours -/
def rid (h : Heap) (k : Addr) : Heap := h.update k fun _ => { cls := .none, data := .freed }
theorem rid_none {h : Heap} {k : Addr} : (rid h k).get? k = none := by
  by_cases hk : k < h.objs.size
  · unfold rid Heap.get?
    rw [Heap.objs_update_self, Array.getElem?_eq_getElem hk]
    rfl
  · refine Heap.get?_none_of_le ?_
    unfold rid
    rw [Heap.size_update]
    exact Nat.le_of_not_lt hk
theorem rid_ne {h : Heap} {k b : Addr} (n : b ≠ k) : (rid h k).get? b = h.get? b := Heap.get?_update_ne _ _ _ _ n
section
variable {X : Cx} {pins : List (Addr × Obj)} {σ : L2.St} {H : Hp} {s : Shared} {k : Nat} {g o q a kS : Addr} {fd : FuncData} {ps : List PySem.Str} {sp : Sp} {kf : PySem.Str → Int} {ks : List PySem.Str} {vs : List Value} {A : Around} {E : Value → Shared → Prop} {e1 : Nat} {P : PySem.Fin → Shared → Prop}
theorem tup_reads {h : Heap} {p : Addr} {H : Hp} {n : Int} {x : PySem.Str} (hok : HOk X.prog X.w H h) (e : H p = some (.tup [.int n, .str x])) : Reads h (.ref p) (.tuple [.int n, .str x]) [] := by
  obtain ⟨_, its, rv, ob, ho, hc, nn, hd⟩ := hok p _ e
  obtain ⟨v1, v2, rfl, r1, r2⟩ := vals2 rv
  obtain ⟨t1, rfl⟩ := r1
  obtain ⟨t2, rfl⟩ := r2
  exact .tuple ho hc hd (.cons (.int _ _) (.cons (.str _ _) .nil))
theorem km_rest (hr : Room k A) (hA : A.frames = some X.stack) (hb : Binds X.K fd ps []) (F : FnOk X.prog X.w X.K X.mg X.base CX0 k g fd ps sp) (I : Inv X pins σ H s) (hq : H q = some (.met g o)) (ra : Rec X pins a) (rk : Rec X pins kS) (na : H a = none) (nk : H kS = none)
    (hka : kS ≠ a) (ek : s.heap.get? kS = some (seqObj "list" #[] 0)) (ea : s.heap.get? a = some (seqObj "list" #[] e1)) (hv : StrsAre vs ks) (h64 : ks.length < 64) (turn : RankOk sp o kf ks H)
    (done : ∀ s' H' out c, Inv X pins σ H' s' → Same H H' → H' a = none → s'.heap.get? a = some (seqObj "list" (List.toArray out) c) → PySem.W.KeyedOut false (ks.map (kdM kf)) vs out → P (.done (.ret .none)) s') :
    wpAny (model X.prog X.w) A (ksk_rest a (.ref q) false vs.toArray e1 (.ref kS)) P E s := by
  have hlen : vs.length = ks.length := hv.len_eq
  have h16 : vs.length ≤ sizeLine := by rw [hlen, sizeLine_eq]; omega
  unfold ksk_rest
  refine wpAny_bind (wpAny_rule ?_)
  rw [List.forIn_toArray]
  refine wpAny_bind (ksk_fold (fun i s' => ∃ H' kA e, Inv X pins σ H' s' ∧ Same H H' ∧ H' a = none ∧ H' kS = none ∧ s'.heap.get? kS = some (seqObj "list" kA e) ∧ s'.heap.get? a = some (seqObj "list" #[] e1) ∧
    PySem.W.EachIs (fun v x => ∃ p, v = Value.ref p ∧ H' p = some (.tup [.int (kf x), .str x])) kA.toList (ks.take i)) vs 0 s ⟨H, #[], 0, I, fun _ _ h => h, na, nk, ek, ea, by rw [List.take_zero]; exact PySem.W.EachIs.nil⟩ ?step ?done)
  case step =>
    rintro j x s' hx ⟨H', kA, e, I', sm, na', nk', ek', ea', hk⟩
    rw [Nat.zero_add] at hk ⊢
    obtain ⟨y, t, rfl, hy⟩ := hv.item j x hx
    have hz : kA.size ≤ ks.length := by
      have h1 := hk.length
      rw [Array.length_toList, List.length_take] at h1
      omega
    have h64' : kA.size < 64 := by omega
    have em := sm q _ hq
    have e0 := I'.env0
    have e1' : Env0 X.prog X.w X.K X.mg X.base A X.stack s' H' := ⟨hA, e0.mod, e0.bs, e0.bsz, e0.funs, e0.frf, e0.hok, e0.bare⟩
    have D := turn y (List.mem_of_getElem? hy) H' sm
    have hl2 : ([Value.ref o, .str y t] ++ []).length = ps.length := F.len _ _ _ _ D
    have bt := hb s' [Value.ref o, .str y t] I'.kIn hl2
    rw [List.append_nil] at bt
    refine wpAny_bind (wpAny_attempt ?_)
    refine wpAny_call (PySem.W.method_call (I'.hok q _ em) (codeAny_mono (F.run A X.stack s' H' ⟨[.ref o, .str y t], []⟩ _ [.ref o, .str y] _ E0 hr e1' bt (.cons rfl (.cons ⟨t, rfl⟩ .nil)) D) fun rr s2 hrr => ?_))
    cases rr with
    | error er => exact False.elim hrr
    | ok fl =>
      cases fl with
      | next => exact False.elim hrr
      | brk => exact False.elim hrr
      | cont => exact False.elim hrr
      | ret v =>
        obtain ⟨v', H2, os, bare, un, hok, rv', p, ev, hp, eH⟩ := (show CE X.stack X.prog X.w H' s' _ v s2 from hrr)
        subst ev
        cases rv'
        have I2 : Inv X pins σ H2 s2 := I'.call' os un hok bare (fun b z => absurd z List.not_mem_nil)
        have sm2 : Same H' H2 := fun b u e => by
          rw [eH, upd_ne (ne_of_none e hp)]
          exact e
        have keep : ∀ {b : Addr} {ob : Obj}, Rec X pins b → H' b = none → s'.heap.get? b = some ob → s2.heap.get? b = some ob := fun rb ub eb => un.keep _ _ eb ub rb.fr List.not_mem_nil
        have fr2 : ∀ {b : Addr} {ob : Obj}, H' b = none → s'.heap.get? b = some ob → H2 b = none := fun ub eb => un.free _ _ eb ub List.not_mem_nil
        have nk2 := keep rk nk' ek'
        have na2 := keep ra na' ea'
        have uk2 := fr2 nk' ek'
        have ua2 := fr2 na' ea'
        try dsimp only
        obtain ⟨h2, g2, d2, t2, o2⟩ := s2
        obtain ⟨c2, hc2⟩ : ∃ c2, (h2.update kS (Obj.mapSeq (·.push (.ref p)))).get? kS = some (seqObj "list" (kA.push (.ref p)) c2) := ⟨_, get?_update_seq nk2 (·.push (.ref p))⟩
        have sb : Heap.SameBut kS h2 (h2.update kS (Obj.mapSeq (·.push (.ref p)))) := Heap.SameBut.update ..
        refine wpAny_bind (listUpdate_at nk2 rfl ?_ (by rw [sizeLine_eq]; omega) (by rw [Array.size_push, sizeLine_eq]; omega))
        refine wpAny_pure ⟨rfl, H2, kA.push (.ref p), c2, rk.turn (t' := t2) I2 uk2 fun c ob hc e => sb.extBut c ob hc e, fun b u e => sm2 b u (sm b u e), ua2, uk2, hc2, sb.extBut _ _ hka.symm na2, ?_⟩
        have ek3 : ks.take (j + 1) = ks.take j ++ [y] := by rw [List.take_add_one, hy]; rfl
        have ea3 : (kA.push (Value.ref p)).toList = kA.toList ++ [.ref p] := by simp
        rw [ek3, ea3]
        refine PySem.W.each_snoc ⟨p, rfl, by rw [eH, upd_same]⟩ (hk.mono fun u d z => ?_)
        obtain ⟨p', ep, z⟩ := z
        exact ⟨p', ep, sm2 _ _ z⟩
  case done =>
    rintro s' ⟨H', kA, e, I', sm, na', nk', ek', ea', hk⟩
    have hk' : PySem.W.EachIs (fun v k => ∃ as, Reads s'.heap v k as) kA.toList (ks.map (kdM kf)) := by
      have e3 : ks.take (0 + vs.length) = ks := List.take_of_length_le (by omega)
      rw [e3] at hk
      refine PySem.W.each_map (kdM kf) (hk.mono fun v x z => ?_)
      obtain ⟨p, rfl, z⟩ := z
      exact ⟨[], tup_reads I'.hok z⟩
    have hsz : kA.size = vs.length := by
      have h1 := hk'.length
      rw [Array.length_toList, List.length_map] at h1
      omega
    refine wpAny_bind (listItems_at ek' rfl ?_)
    have hal : PySem.W.AllAlike (ks.map (kdM kf)) := PySem.W.AllAlike.of fun _ _ => by simp [kdM, PySem.W.alike, PySem.W.alikeAll]
    refine PySem.W.keyH_end (κ := PySem.W.dataKind s'.heap (ks.map (kdM kf))) (h₁ := rid s'.heap kS) (b := false) (fun b ob hb z => ?_) rid_none ek' ea' hka (PySem.W.SortsAt.data hk' hal (PySem.W.Sortable.tuples fun _ => ⟨_, _, rfl⟩) ?_) hsz h16 fun h' tk c kp hD => ?_
    · by_cases hbk : b = kS
      · subst hbk
        rw [rid_none] at z
        cases z
      · exact (rid_ne hbk).symm.trans z
    · intro d hd
      obtain ⟨x, _, rfl⟩ := List.mem_map.mp hd
      have h2 : (kdM kf x).depth = 1 := by simp [kdM, PyData.depth, PyData.depthAll]
      have := hr.units
      omega
    · have keep : ∀ b ob, b ≠ a → b ≠ kS → s'.heap.get? b = some ob → h'.get? b = some ob := fun b ob ha hk z => kp b ob ha ((rid_ne hk).trans z)
      have nb : ∀ {b u}, H' b = some u → b ≠ a ∧ b ≠ kS := fun {b u} z => ⟨fun e => (by rw [e, na'] at z; cases z), fun e => (by rw [e, nk'] at z; cases z)⟩
      refine done _ H' (PySem.W.sortVals (PySem.W.dataKind s'.heap (ks.map (kdM kf))) false kA.toList vs) c ?_ sm na' hD ⟨s'.heap, kA.toList, hal, rfl, hk'⟩
      obtain ⟨h1, g1, d1, t1, o1⟩ := s'
      refine I'.call' (ch := [a, kS]) rfl ⟨fun b ob z n _ hx => ?_, fun b ob z n _ hx => ⟨ob.slots, ?_⟩, fun b ob z n hx => n, fun b ob z hx => ⟨ob, ?_⟩, fun b xs z => z, fun b ob u z => z, fun b pz z => ⟨#[], by rw [z]; simp⟩⟩ (fun b u z => ?_) I'.bare fun b hb => ?_
      · exact keep b ob (fun e => hx (by simp [e])) (fun e => hx (by simp [e])) z
      · exact keep b ob (fun e => hx (by simp [e])) (fun e => hx (by simp [e])) z
      · exact keep b ob (fun e => hx (by simp [e])) (fun e => hx (by simp [e])) z
      · refine (I'.hok b u z).stay (fun cc v hc q => ?_) (fun _ q => q) fun _ _ q => q
        rcases hc with e | e
        · rw [e] at q ⊢
          exact keep b v (nb z).1 (nb z).2 q
        · exact keep cc v (nb e).1 (nb e).2 q
      · rcases List.mem_cons.mp hb with e | e
        · subst e
          exact ⟨.inr ra.ge, ra.nl, ra.ce, ra.pn⟩
        · obtain rfl := List.mem_singleton.mp e
          exact ⟨.inr rk.ge, rk.nl, rk.ce, rk.pn⟩
/-- what lies raw is named -/
theorem adopt {ob : HO} (I : Inv X pins σ H s) (ra : Rec X pins a) (na : H a = none) (new : ObjOk X.prog X.w (upd H a ob) s.heap a ob) : Inv X pins σ (upd H a ob) s := by
  have ne : ∀ {b u}, H b = some u → b ≠ a := fun {b u} z e => by rw [e, na] at z; cases z
  refine I.call' (ch := [a]) rfl ⟨fun b u z _ _ _ => z, fun b u z _ _ _ => ⟨u.slots, z⟩, fun b u z n hx => ?_, fun b u z _ => ⟨u, z⟩, fun b xs z => ?_, fun b u v z => ?_, fun b pz z => ⟨#[], ?_⟩⟩ (fun b u z => ?_) I.bare fun b hb => ?_
  · rw [upd_ne fun e => hx (by simp [e])]
    exact n
  · rw [upd_ne (ne z)]
    exact z
  · rw [upd_ne (ne z)]
    exact z
  · rw [upd_ne (ne z), z]
    simp
  · by_cases e : b = a
    · subst e
      rw [upd_same] at z
      cases z
      exact new
    · rw [upd_ne e] at z
      exact (I.hok b u z).stay (fun _ _ _ q => q) (fun c q => by rw [upd_ne (ne q)]; exact q) fun c xs q => by rw [upd_ne (ne q)]; exact q
  · obtain rfl := List.mem_singleton.mp hb
    exact ⟨.inr ra.ge, ra.nl, ra.ce, ra.pn⟩
theorem each_vals : ∀ {vs : List Value} {ys : List PySem.Str}, PySem.W.EachIs (fun v x => ∃ t, v = Value.str x t) vs ys → Vals (ys.map V.str) vs
  | _, _, .nil => .nil
  | _, _, .cons ⟨t, e⟩ r => .cons ⟨t, e⟩ (each_vals r)
theorem each_strs : ∀ {vs : List Value} {ys : List PySem.Str}, StrsAre vs ys → PySem.W.EachIs (fun v x => ∃ t, v = Value.str x t) vs ys
  | _, _, .nil => .nil
  | _, _, .cons y t r => .cons ⟨t, rfl⟩ (each_strs r)
/-- the order of the keys: the less number first, of one number by name -/
def rkLe (kf : PySem.Str → Int) (x y : PySem.Str) : Prop := kf x < kf y ∨ (kf x = kf y ∧ ¬ ltN y x)
theorem kdM_le {x y : PySem.Str} : PySem.W.dataLe false (kdM kf) x y = true ↔ rkLe kf x y := by
  show (!PySem.W.dataLt (kdM kf y) (kdM kf x)) = true ↔ _
  unfold kdM
  rw [PySem.W.dataLt_pair (by simp [PySem.W.alike]) (by simp [PySem.W.alike]), PySem.W.dataLt_int, PySem.W.dataLt_str]
  unfold rkLe ltN
  simp only [PyData.eqv, beq_iff_eq]
  by_cases h1 : kf y = kf x
  · rw [if_pos h1]
    by_cases h2 : y = x
    · subst h2
      simp
    · simp [h2, h1]
  · rw [if_neg h1]
    have : ¬ kf x = kf y := fun z => h1 z.symm
    simp only [Bool.not_eq_true', decide_eq_false_iff_not, this, false_and, or_false]
    omega
theorem kdM_sorted (ks : List PySem.Str) : (ks.mergeSort (PySem.W.dataLe false (kdM kf))).Pairwise (rkLe kf) := by
  refine List.Pairwise.imp (fun {a b} z => kdM_le.mp z) (List.pairwise_mergeSort (fun a b c h1 h2 => ?_) (fun a b => ?_) ks)
  · rw [kdM_le] at *
    unfold rkLe ltN at *
    rcases h1 with h1 | ⟨h1, h1'⟩ <;> rcases h2 with h2 | ⟨h2, h2'⟩
    · exact .inl (by omega)
    · exact .inl (by omega)
    · exact .inl (by omega)
    · exact .inr ⟨by omega, List.not_lt.mpr (List.le_trans (List.not_lt.mp h1') (List.not_lt.mp h2'))⟩
  · rw [Bool.or_eq_true, kdM_le, kdM_le]
    unfold rkLe ltN
    by_cases e : kf a = kf b
    · rcases List.le_total a.cps.toList b.cps.toList with h | h
      · exact .inl (.inr ⟨e, List.not_lt.mpr h⟩)
      · exact .inr (.inr ⟨e.symm, List.not_lt.mpr h⟩)
    · omega
theorem sortedKM (hcalm : X.calm = true) (hr : Room k X.A.in1.in1) (hb : Binds X.K fd ps []) (F : FnOk X.prog X.w X.K X.mg X.base CX0 k g fd ps sp) {d : Addr} {kvs : List (Key × V)} {Q : VK} (I : Inv X pins σ H s) (hd : Rd H d (.dK kvs)) (hks : kvs.map (·.1) = ks.map Sum.inr) (h64 : ks.length < 64)
    (hq : H q = some (.met g o)) (turn : RankOk sp o kf ks H) (fin : ∀ (ys : List PySem.Str) p H', Same H H' → ys.Perm ks → ys.Pairwise (rkLe kf) → H' p = none → Q (.ref p) (upd H' p (.lst (ys.map V.str)))) :
    wpAny (model X.prog X.w) X.A (call (.builtin "sorted") [.ref d] [(PySem.Str.ofString "key", .ref q)]) (EP X pins σ Q) X.xe s := by
  obtain ⟨z, lo, vs, rel, dd⟩ := dk_rd I.hok hd
  obtain ⟨ep, hat⟩ := dd.dictAt
  have hkeys : vs.map (·.1) = ks.map Sum.inr := rel.keys.symm.trans hks
  have hl : vs.length = ks.length := by
    have e := congrArg List.length hkeys
    rw [List.length_map, List.length_map] at e
    exact e
  have h16 : vs.length ≤ sizeLine := by rw [hl, sizeLine_eq]; omega
  refine call_function_entry_kw kind_sorted plain_sorted entry_sorted (ksk_s1 _ _) ?_
  unfold Builtin.«sorted»
  refine wpAny_bind (m := checkCount "sorted" 1 1 _) (wpAny_pure ?_)
  refine wpAny_bind (PySem.W.kdu_collect (A := X.A.in1) (PySem.W.kdl_dict (knd := mixKind X.prog X.w) (kvs := vs) (ep := ep) lo) (I.ok.hd hcalm) hat h16 fun h1 tk acc hk hacc => ?_)
  have hal : acc.toList.length = ks.length := by rw [Array.length_toList, hacc.1, hl]
  have hS : StrsAre acc.toList ks := strs_at hal fun j v e => by
    obtain ⟨kx, x, w1, w2⟩ := hacc.2 j v (by rw [← Array.getElem?_toList]; exact e)
    have w3 : (vs.map (·.1))[j]? = some kx := by rw [List.getElem?_map, w1]; all_goals rfl
    rw [hkeys, List.getElem?_map] at w3
    cases w4 : ks[j]? with
    | none => rw [w4] at w3; cases w3
    | some y =>
      rw [w4] at w3
      obtain rfl : Sum.inr y = kx := Option.some.inj w3
      obtain ⟨t, ev⟩ := Value.isStrOf_shape (x := y) (v := v) w2
      exact ⟨y, t, rfl, ev⟩
  have I1 : Inv X pins σ H { s with heap := h1, toks := tk } := I.kept hk
  refine wpAny_bind (wpAny_newList ?_ (by rw [hal, sizeLine_eq]; omega))
  have hoL : (h1.push (seqObj "list" acc.toList.toArray 0)).get? h1.objs.size = some (seqObj "list" acc.toList.toArray 0) := Heap.get?_push_size _ rfl
  have I2 : Inv X pins σ H { s with heap := h1.push (seqObj "list" acc.toList.toArray 0), toks := tk } := I1.kept (t' := tk) fun b u e => Heap.get?_push_of_some _ e
  have ra : Rec X pins h1.objs.size := rec_new I1 (Nat.le_refl _)
  have na : H h1.objs.size = none := I1.hok.fresh (Nat.le_refl _)
  show wpAny _ _ _ _ _ { s with heap := h1.push (seqObj "list" acc.toList.toArray 0), toks := tk }
  refine wpAny_bind (wpAny_holding (wpAny_call_entry_kw slot_list_sort ⟨_, hoL, rfl⟩ entry_list_sort ?body (ksk_l1 _ _)))
  case body =>
    rw [ksk_t1]
    unfold ksk_tree
    refine wpAny_bind (listItems_at hoL rfl ?_)
    have hz : acc.toList.toArray.size ≤ sizeLine := by rw [List.size_toArray, hal, sizeLine_eq]; omega
    refine wpAny_bind (listUpdate_at hoL rfl ?_ hz (Nat.zero_le _))
    obtain ⟨e1, ho1⟩ : ∃ e1, ((h1.push (seqObj "list" acc.toList.toArray 0)).update h1.objs.size (Obj.mapSeq fun _ => (#[] : Array Value))).get? h1.objs.size = some (seqObj "list" #[] e1) := ⟨_, get?_update_seq hoL fun _ => #[]⟩
    refine wpAny_bind (seqEpoch_at ho1 rfl ?_)
    refine wpAny_bind (wpAny_newTuple ?_ (by show acc.toList.length ≤ _; rw [hal, sizeLine_eq]; omega))
    refine wpAny_bind (wpAny_newList ?_ (Nat.zero_le _))
    refine wpAny_holding ?_
    have sb : Heap.SameBut h1.objs.size (h1.push (seqObj "list" acc.toList.toArray 0)) ((h1.push (seqObj "list" acc.toList.toArray 0)).update h1.objs.size (Obj.mapSeq fun _ => (#[] : Array Value))) := Heap.SameBut.update ..
    have I3 := ra.turn (t' := tk) I2 na fun c ob hc e => sb.extBut c ob hc e
    have I4 := I3.kept (t' := tk) fun b u e => Heap.get?_push_of_some (seqObj "tuple" acc.toList.toArray 0) e
    have I5 := I4.kept (t' := tk) fun b u e => Heap.get?_push_of_some (seqObj "list" #[] 0) e
    have lt1 : h1.objs.size < (((h1.push (seqObj "list" acc.toList.toArray 0)).update h1.objs.size (Obj.mapSeq fun _ => (#[] : Array Value))).push (seqObj "tuple" acc.toList.toArray 0)).objs.size := by
      rw [size_push', Heap.size_update, size_push']
      omega
    refine km_rest (fd := fd) (ps := ps) (sp := sp) (k := k) (g := g) (o := o) (kf := kf) (ks := ks) hr I.ok.frames hb F I5 hq ra (rec_new I4 (Nat.le_refl _)) na (I4.hok.fresh (Nat.le_refl _)) (Nat.ne_of_gt lt1) (Heap.get?_push_size _ rfl)
      (Heap.get?_push_of_some _ (Heap.get?_push_of_some _ ho1)) hS h64 turn fun s' H' out c J sm na' hD ko => ?_
    have eo := PySem.W.keyedOut_each (kdM kf) ko (each_strs hS)
    have pm := List.mergeSort_perm ks (PySem.W.dataLe false (kdM kf))
    have hlo : (ks.mergeSort (PySem.W.dataLe false (kdM kf))).length ≤ sizeLine := by rw [pm.length_eq, sizeLine_eq]; omega
    refine ⟨_, rfl, wpAny_pure ⟨_, rfl, .ref h1.objs.size, upd H' h1.objs.size (.lst ((ks.mergeSort (PySem.W.dataLe false (kdM kf))).map V.str)), adopt J ra na' ⟨?_, out, c, each_vals eo, hD⟩, rfl, fin _ _ H' sm pm (kdM_sorted ks) na'⟩⟩
    rw [List.length_map]
    exact hlo
end
/-- sorted(e, key=o.m) -/
def tSrtM (C : Addr) (m : PySem.Str) (sp : Sp) (ta to : TE) : TE := fun σ H Q => ta σ H fun x H1 => to σ H1 fun y H2 => ∃ (d a dx : Addr) (kvs : List (Key × V)) (fs : List (PySem.Str × V)) (ks : List PySem.Str) (kf : PySem.Str → Int), x = .ref d ∧ y = .ref a ∧ H2 a = some (.ins C dx fs) ∧ fs.lookup m = none ∧
  Rd H2 d (.dK kvs) ∧ kvs.map (·.1) = ks.map Sum.inr ∧ ks.length < 64 ∧ RankOk sp a kf ks H2 ∧ ∀ (ys : List PySem.Str) p H', Same H2 H' → ys.Perm ks → ys.Pairwise (rkLe kf) → H' p = none → Q (.ref p) (upd H' p (.lst (ys.map V.str)))
section
variable {X : Cx} {k : Nat} {C : Addr} {m : PySem.Str} {ps : List PySem.Str} {sp : Sp} {e o : Expr} {ta to : TE} {p pos apos kpos : Pos}
theorem pe_srtM (hcalm : X.calm = true) (cl : Cls X.K C) (c : CalB X.prog X.w X.K X.mg X.base C k m ps sp) (hr : Room (k + 2) X.A) (hg : Gl X "sorted") (hm : X.mg "sorted" = none) (he : PE X e ta) (ho : PE X o to)
    (hs1 : starEach [e] X.env = (false, eval e X.env) :: starEach [] X.env := by rfl) (hb : attributeBase o m X.env (eval o X.env) = eval o X.env := by rfl)
    (hst : backTo pos (starEach [e] X.env) = (false, eval e X.env) :: backTo pos (starEach [] X.env) := by rfl) (hpl : (backTo pos (starEach [e] X.env)).any (·.1) = false := by rfl)
    (hall : (backToKw pos (keywordEach [⟨some "key", .Attribute o m apos, kpos⟩] X.env)).all (·.1.isSome) = true := by rfl) (hno : (backToKw pos (keywordEach [⟨some "key", .Attribute o m apos, kpos⟩] X.env)).any (·.1.isNone) = false := by rfl)
    (hks : (backToKw pos (keywordEach [⟨some "key", .Attribute o m apos, kpos⟩] X.env)).filterMap (·.1) = [PySem.Str.ofString "key"] := by rfl) :
    PE X (.Call (.Name "sorted" p) [e] [⟨some "key", .Attribute o m apos, kpos⟩] pos) (tSrtM C m sp ta to) := by
  obtain ⟨g, fd, B, hbd, F⟩ := c
  have rule : CallRK X (.builtin "sorted") [PySem.Str.ofString "key"] (fun vs zs H Q => ∃ (d q a : Addr) (kvs : List (Key × V)) (ks : List PySem.Str) (kf : PySem.Str → Int), vs = [.ref d] ∧ zs = [.ref q] ∧ H q = some (.met g a) ∧
      Rd H d (.dK kvs) ∧ kvs.map (·.1) = ks.map Sum.inr ∧ ks.length < 64 ∧ RankOk sp a kf ks H ∧ ∀ (ys : List PySem.Str) p H', Same H H' → ys.Perm ks → ys.Pairwise (rkLe kf) → H' p = none → Q (.ref p) (upd H' p (.lst (ys.map V.str)))) := by
    intro pins s σ H vs zs us ws Q I r rz h
    obtain ⟨d, q, a, kvs, ks, kf, rfl, rfl, hq, hd, hk, h64, tu, fin⟩ := h
    obtain rfl := Vals.ref1 r
    obtain rfl := Vals.ref1 rz
    exact sortedKM hcalm hr.in1.in1 hbd F I hd hk h64 hq tu fin
  refine ⟨fun pins s σ H Q I h => ?_⟩
  refine wpAny_Call_Name_kw (ld_blt I hg hm rfl ?_ (by decide) (by decide))
  show wpAny _ _ (callWith pos (.builtin "sorted") [] _ _) _ _ _
  refine callWith_kw (thn ((pa_cons he pa_nil hs1).run pos pins s σ H (fun vs H1 => match vs with
    | [x] => to σ H1 fun y H2 => ∃ (d a dx : Addr) (kvs : List (Key × V)) (fs : List (PySem.Str × V)) (ks : List PySem.Str) (kf : PySem.Str → Int), x = .ref d ∧ y = .ref a ∧ H2 a = some (.ins C dx fs) ∧ fs.lookup m = none ∧ Rd H2 d (.dK kvs) ∧ kvs.map (·.1) = ks.map Sum.inr ∧
        ks.length < 64 ∧ RankOk sp a kf ks H2 ∧ ∀ (ys : List PySem.Str) p H', Same H2 H' → ys.Perm ks → ys.Pairwise (rkLe kf) → H' p = none → Q (.ref p) (upd H' p (.lst (ys.map V.str)))
    | _ => False) I h) fun us s1 hu => ?_) hst hpl hall hno
  obtain ⟨vs, H1, I1, r1, q1⟩ := hu
  match vs, q1 with
  | [x], q1 =>
    refine wpAny_evalAll_cons (wpAny_bind (attr_of hb (thn (ho.run pins s1 σ H1 _ I1 q1) fun u s2 hu => ?_)))
    obtain ⟨y, H2, I2, r2, d, a, dx, kvs, fs, ks, kf, rfl, rfl, ea, l, hd, hk, h64, tu, fin⟩ := hu
    cases r2
    refine getbound_ok I2 ea cl B l fun q s3 hq I3 => wpAny_bind (wpAny_standAt (wpAny_pure ?_))
    refine wpAny_evalAll_nil ?_
    rw [hks]
    obtain rfl := Vals.ref1 r1
    have sm : Same H2 (upd H2 q (.met g a)) := fun b u e => by rw [upd_ne (ne_of_none e hq)]; exact e
    exact sortedKM hcalm hr.in1.in1 hbd F I3 (hd.elim (fun z => .inl (sm _ _ z)) fun ⟨ob, z⟩ => .inr ⟨ob, sm _ _ z⟩) hk h64 upd_same (fun x hx H' k => tu x hx H' fun b u e => k b u (sm b u e)) fun ys p H' k => fin ys p H' fun b u e => k b u (sm b u e)
end
end Mc
namespace Mc
open PySem L2 PySem.Spec PyProof.Rows
/-! < and <= of pairs (a number, a text) -/
section
variable {X : Cx}
def rPair (R : (PySem.Str → Int) → PySem.Str → PySem.Str → Prop) : R2 := fun x y H Q => ∃ (a b : Addr) (kf : PySem.Str → Int) (s t : PySem.Str), x = .ref a ∧ y = .ref b ∧ H a = some (.tup [.int (kf s), .str s]) ∧ H b = some (.tup [.int (kf t), .str t]) ∧ ∀ v : Bool, (v = true ↔ R kf s t) → Q (.bl v) H
theorem kdM_alike (kf : PySem.Str → Int) (s t : PySem.Str) : PySem.W.alike (kdM kf s) (kdM kf t) = true := by simp [kdM, PySem.W.alike, PySem.W.alikeAll]
theorem kdM_depth (kf : PySem.Str → Int) (s : PySem.Str) : (kdM kf s).depth = 1 := by simp [kdM, PyData.depth, PyData.depthAll]
theorem op_leP (hu : X.A.units + 1 < cLine) : OpR X (compareOp .LtE) (rPair rkLe) := by
  intro pins s σ H x y v u Q I rx ry h
  obtain ⟨a, b, kf, p, q, rfl, rfl, ha, hb, k⟩ := h
  cases rx
  cases ry
  refine PySem.W.le_data (tup_reads I.hok ha) (tup_reads I.hok hb) (kdM_alike kf p q) (by intro e; cases e) (by rw [show PyData.depth (.tuple [.int (kf p), .str p]) = 1 from kdM_depth kf p, show PyData.depth (.tuple [.int (kf q), .str q]) = 1 from kdM_depth kf q]; exact hu) ?_
  exact ⟨.bl _, H, I, rfl, k _ kdM_le⟩
theorem op_ltP (hu : X.A.units + 1 < cLine) : OpR X (compareOp .Lt) (rPair fun kf s t => ¬ rkLe kf t s) := by
  intro pins s σ H x y v u Q I rx ry h
  obtain ⟨a, b, kf, p, q, rfl, rfl, ha, hb, k⟩ := h
  cases rx
  cases ry
  refine PySem.W.lt_data (tup_reads I.hok ha) (tup_reads I.hok hb) (kdM_alike kf p q) (by intro e; cases e) (by rw [show PyData.depth (.tuple [.int (kf p), .str p]) = 1 from kdM_depth kf p, show PyData.depth (.tuple [.int (kf q), .str q]) = 1 from kdM_depth kf q]; exact hu) ?_
  refine ⟨.bl _, H, I, rfl, k _ ?_⟩
  have e : (!PySem.W.dataLt (kdM kf p) (kdM kf q)) = true ↔ rkLe kf q p := kdM_le
  show PySem.W.dataLt (kdM kf p) (kdM kf q) = true ↔ ¬ rkLe kf q p
  rw [← e]
  cases PySem.W.dataLt (kdM kf p) (kdM kf q) <;> simp
end
end Mc
namespace Mc
open PySem L2 PySem.Spec PyProof.Rows Evl
/-! ### what evaluates to what, further: fields, dicts, calls, comprehensions -/
theorem has_T {β : Type} {f : β → V} {l : List (PySem.Str × β)} {k : PySem.Str} : (valV (kvT f l) (Sum.inr k)).isSome = decide (k ∈ keysT l) := by
  cases e : getT l k with
  | none =>
    have h1 := getT_none.mp e
    have h2 : valV (kvT f l) (Sum.inr k) = none := by rw [val_T, e]; rfl
    rw [h2, decide_eq_false h1]
    rfl
  | some v =>
    have h1 : k ∈ keysT l := List.mem_map.mpr ⟨_, getT_in e, rfl⟩
    have h2 : valV (kvT f l) (Sum.inr k) = some (f v) := by rw [val_T, e]; rfl
    rw [h2, decide_eq_true h1]
    rfl
theorem dgetK {H : Hp} {a : Addr} {kvs : List (L2.Key × V)} {x : PySem.Str} (e : Rd H a (.dK kvs)) : DGet H a (.str x) (valV kvs (Sum.inr x)) := .inl ⟨kvs, Sum.inr x, e, rfl, rfl⟩
instance (f : PySem.Str → Int) (x y : PySem.Str) : Decidable (rkLe f x y) := by unfold rkLe ltN; exact inferInstance
theorem inV_str {x : PySem.Str} {xs : List PySem.Str} : inV (.str x) (xs.map V.str) = decide (x ∈ xs) := by
  unfold inV
  induction xs with
  | nil => rfl
  | cons y ys ih =>
    rw [List.map_cons, List.any_cons, ih]
    by_cases e : x = y
    · subst e
      have : eqV (V.str x) (V.str x) = true := by simp [eqV]
      simp [this]
    · have : eqV (V.str y) (V.str x) = false := by
        simp [eqV]
        exact fun z => e z.symm
      simp [this, e]
theorem flat_strs (xs : List PySem.Str) : (xs.map V.str).all flatV = true := by
  rw [List.all_map, List.all_eq_true]
  exact fun x _ => rfl
section
variable {K : PySem.W.Frag} {σ : L2.St} {H H' : Hp} {ta tb te tx to td ty tl : TE} {t u : TT} {x y z v : V} {r : R2}
theorem EvU.mono {xs : List V} (e : Ex H H') (h : EvU te σ H xs) : EvU te σ H' xs := fun H1 a Q q => h H1 (e.trans a) Q q
theorem ev_fld {p C dx : Addr} {fs : List (PySem.Str × V)} {f : PySem.Str} (h : Ev to σ H (.ref p)) (hp : H p = some (.ins C dx fs)) (c : Cls K C) (n : NoAttr K C f) (l : fs.lookup f = some v) : Ev (tFld K to f) σ H v := fun H1 e Q q =>
  h H1 e _ fun H2 e2 => ⟨p, C, dx, fs, v, rfl, e2 _ _ (e _ _ hp), c, n, l, q H2 e2⟩
theorem ev_dget {β : Type} {f : β → V} {l : List (PySem.Str × β)} {b : β} {d : Addr} {k : PySem.Str} (hd : Ev td σ H (.ref d)) (hk : Ev ty σ H (.str k)) (h : Rd H d (.dK (kvT f l))) (e : getT l k = some b) : Ev (tDGet td ty) σ H (f b) := fun H1 e1 Q q =>
  hd H1 e1 _ fun H2 e2 => hk H2 (e1.trans e2) _ fun H3 e3 => ⟨d, f b, rfl, dgetT (ex_rd ((e1.trans e2).trans e3) h) e, q H3 (e2.trans e3)⟩
theorem ev_din {β : Type} {f : β → V} {l : List (PySem.Str × β)} {d : Addr} {k : PySem.Str} (hk : Ev ty σ H (.str k)) (hd : Ev td σ H (.ref d)) (h : Rd H d (.dK (kvT f l))) : Ev (tDIn ty td) σ H (.bl (decide (k ∈ keysT l))) := fun H1 e1 Q q =>
  hk H1 e1 _ fun H2 e2 => hd H2 (e1.trans e2) _ fun H3 e3 => ⟨d, _, rfl, dgetK (ex_rd ((e1.trans e2).trans e3) h), by rw [has_T]; exact q H3 (e2.trans e3)⟩
theorem ev_dnotin {β : Type} {f : β → V} {l : List (PySem.Str × β)} {d : Addr} {k : PySem.Str} (hk : Ev ty σ H (.str k)) (hd : Ev td σ H (.ref d)) (h : Rd H d (.dK (kvT f l))) : Ev (tDNotIn ty td) σ H (.bl (!decide (k ∈ keysT l))) := fun H1 e1 Q q =>
  hk H1 e1 _ fun H2 e2 => hd H2 (e1.trans e2) _ fun H3 e3 => ⟨d, _, rfl, dgetK (ex_rd ((e1.trans e2).trans e3) h), by rw [has_T]; exact q H3 (e2.trans e3)⟩
theorem isD_rd {d : Addr} {kvs : List (L2.Key × V)} (h : Rd H d (.dK kvs)) : IsD H d := by
  rcases h with h | ⟨o, h⟩
  · first | exact .inl ⟨_, .inl h⟩ | exact ⟨_, .inl h⟩ | exact .inl ⟨kvs, h⟩ | (unfold IsD; exact .inl ⟨_, Rd.of h⟩)
  · first | exact .inl ⟨_, .inr ⟨o, h⟩⟩ | exact ⟨_, .inr ⟨o, h⟩⟩ | (unfold IsD; exact .inl ⟨_, .inr ⟨o, h⟩⟩)
/-- d.get(k, x) -/
theorem ev_get2 {β : Type} {f : β → V} {l : List (PySem.Str × β)} {d : Addr} {k : PySem.Str} (hd : Ev td σ H (.ref d)) (hk : Ev ty σ H (.str k)) (hx : Ev tx σ H z) (h : Rd H d (.dK (kvT f l))) : Ev (tDGet2 td ty tx) σ H (((getT l k).map f).getD z) := fun H1 e1 Q q =>
  hd H1 e1 _ fun H2 e2 => ⟨d, rfl, isD_rd (ex_rd (e1.trans e2) h), hk H2 (e1.trans e2) _ fun H3 e3 => hx H3 ((e1.trans e2).trans e3) _ fun H4 e4 => ⟨_, dgetN (ex_rd (((e1.trans e2).trans e3).trans e4) h), q H4 ((e2.trans e3).trans e4)⟩⟩
theorem ev_all {bs : List Bool} (h : EvL te σ H (bs.map V.bl)) : Ev (tCB (rAll K) (tCons te tNil)) σ H (.bl (bs.all id)) := fun H1 e Q q =>
  h H1 e _ fun p H2 _ e2 h2 => ⟨p, bs, rfl, sq_of h2, q H2 e2⟩
theorem ev_any {bs : List Bool} (h : EvL te σ H (bs.map V.bl)) : Ev (tCB (rAny K) (tCons te tNil)) σ H (.bl (bs.any id)) := fun H1 e Q q =>
  h H1 e _ fun p H2 _ e2 h2 => ⟨p, bs, rfl, sq_of h2, q H2 e2⟩
theorem ev_sum {ns : List Int} (h : EvL te σ H (ns.map V.int)) : Ev (tCB (rSum K) (tCons te tNil)) σ H (.int ns.sum) := fun H1 e Q q =>
  h H1 e _ fun p H2 _ e2 h2 => ⟨p, ns, rfl, sq_of h2, q H2 e2⟩
theorem ev_lenT {p : Addr} {xs : List V} (ha : Ev ta σ H (.ref p)) (h : SqT K H p xs) : Ev (tCB (rLenS K) (tCons ta tNil)) σ H (.int (xs.length : Int)) := fun H1 e Q q =>
  ha H1 e _ fun H2 e2 => ⟨p, xs, rfl, Or.inr (ex_t (e.trans e2) h), q H2 e2⟩
theorem rv_inSL {neg : Bool} {p : Addr} {s : PySem.Str} {xs : List PySem.Str} (h : SqL K H p (xs.map V.str)) : RV (rIn K neg) (.str s) (.ref p) H (.bl (if neg then !decide (s ∈ xs) else decide (s ∈ xs))) := by
  rw [← inV_str]
  exact rv_inL h rfl (flat_strs _)
theorem rv_inST {neg : Bool} {p : Addr} {s : PySem.Str} {xs : List PySem.Str} (h : SqT K H p (xs.map V.str)) : RV (rIn K neg) (.str s) (.ref p) H (.bl (if neg then !decide (s ∈ xs) else decide (s ∈ xs))) := by
  rw [← inV_str]
  exact rv_inT h rfl (flat_strs _)
theorem ev_inSL {p : Addr} {s : PySem.Str} {xs : List PySem.Str} (ha : Ev ta σ H (.str s)) (hb : Ev tb σ H (.ref p)) (h : SqL K H p (xs.map V.str)) : Ev (tOp (rIn K false) ta tb) σ H (.bl (decide (s ∈ xs))) := ev_op ha hb (rv_inSL (neg := false) h)
theorem ev_niSL {p : Addr} {s : PySem.Str} {xs : List PySem.Str} (ha : Ev ta σ H (.str s)) (hb : Ev tb σ H (.ref p)) (h : SqL K H p (xs.map V.str)) : Ev (tOp (rIn K true) ta tb) σ H (.bl (!decide (s ∈ xs))) := ev_op ha hb (rv_inSL (neg := true) h)
theorem ev_inST {p : Addr} {s : PySem.Str} {xs : List PySem.Str} (ha : Ev ta σ H (.str s)) (hb : Ev tb σ H (.ref p)) (h : SqT K H p (xs.map V.str)) : Ev (tOp (rIn K false) ta tb) σ H (.bl (decide (s ∈ xs))) := ev_op ha hb (rv_inST (neg := false) h)
theorem ev_niST {p : Addr} {s : PySem.Str} {xs : List PySem.Str} (ha : Ev ta σ H (.str s)) (hb : Ev tb σ H (.ref p)) (h : SqT K H p (xs.map V.str)) : Ev (tOp (rIn K true) ta tb) σ H (.bl (!decide (s ∈ xs))) := ev_op ha hb (rv_inST (neg := true) h)
theorem ev_eqS {a b : PySem.Str} (ha : Ev ta σ H (.str a)) (hb : Ev tb σ H (.str b)) : Ev (tOp rEq ta tb) σ H (.bl (decide (a = b))) := ev_is (ev_op ha hb (rv_eq rfl)) (by simp)
theorem ev_neS {a b : PySem.Str} (ha : Ev ta σ H (.str a)) (hb : Ev tb σ H (.str b)) : Ev (tOp rNe ta tb) σ H (.bl (!decide (a = b))) := ev_is (ev_op ha hb (rv_ne rfl)) (by simp)
theorem ev_eqB {a b : Bool} (ha : Ev ta σ H (.bl a)) (hb : Ev tb σ H (.bl b)) : Ev (tOp rEq ta tb) σ H (.bl (decide (a = b))) := ev_is (ev_op ha hb (rv_eq rfl)) (by simp)
theorem ev_neB {a b : Bool} (ha : Ev ta σ H (.bl a)) (hb : Ev tb σ H (.bl b)) : Ev (tOp rNe ta tb) σ H (.bl (!decide (a = b))) := ev_is (ev_op ha hb (rv_ne rfl)) (by simp)
theorem ev_eqI {a b : Int} (ha : Ev ta σ H (.int a)) (hb : Ev tb σ H (.int b)) : Ev (tOp rEq ta tb) σ H (.bl (decide (a = b))) := ev_is (ev_op ha hb (rv_eq rfl)) (by simp)
theorem ev_neI {a b : Int} (ha : Ev ta σ H (.int a)) (hb : Ev tb σ H (.int b)) : Ev (tOp rNe ta tb) σ H (.bl (!decide (a = b))) := ev_is (ev_op ha hb (rv_ne rfl)) (by simp)
/-- a method that gives a value and changes nothing that stood -/
theorem ev_meth {p C dx : Addr} {fs : List (PySem.Str × V)} {m : PySem.Str} {sp : Sp} {dvs vs : List V} {E : XK} {tr : TA} (h : Ev to σ H (.ref p)) (hp : H p = some (.ins C dx fs)) (l : fs.lookup m = none) (ha : EvA tr σ H vs) (hs : SpV sp (.ref p :: (vs ++ dvs)) H z) : Ev (tMeth C m sp dvs E to tr) σ H z := fun H1 e Q q =>
  h H1 e _ fun H2 e2 => ⟨p, dx, fs, rfl, e2 _ _ (e _ _ hp), l, ha H2 (e.trans e2) _ fun H3 e3 => hs H3 ((e.trans e2).trans e3) Q (fun H4 e4 => q H4 ((e2.trans e3).trans e4)) E⟩
theorem ev_anyM {α : Type} {ys : List α} {p : α → Bool} (h : EvL te σ H (ys.map fun y => V.bl (p y))) : Ev (tCB (rAny K) (tCons te tNil)) σ H (.bl (ys.any p)) := by
  rw [map_bl] at h
  have := ev_any (K := K) h
  rw [any_map_id] at this
  exact this
theorem ev_allM {α : Type} {ys : List α} {p : α → Bool} (h : EvL te σ H (ys.map fun y => V.bl (p y))) : Ev (tCB (rAll K) (tCons te tNil)) σ H (.bl (ys.all p)) := by
  rw [map_bl] at h
  have := ev_all (K := K) h
  rw [all_map_id] at this
  exact this
theorem ev_sumM {α : Type} {ys : List α} {p : α → Int} (h : EvL te σ H (ys.map fun y => V.int (p y))) : Ev (tCB (rSum K) (tCons te tNil)) σ H (.int (ys.map p).sum) := by
  have e : (ys.map fun y => V.int (p y)) = (ys.map p).map V.int := by rw [List.map_map]; rfl
  rw [e] at h
  exact ev_sum h
/-- the first operand a new tuple -/
theorem ev_op1U {xs : List V} (ha : EvU ta σ H xs) (hb : Ev tb σ H y) (hr : ∀ p H1, H1 p = some (.tup xs) → Ex H H1 → RV r (.ref p) y H1 z) : Ev (tOp r ta tb) σ H z := fun H1 e Q q =>
  ha H1 e _ fun p H2 _ e2 hp => hb H2 (e.trans e2) _ fun H3 e3 => hr p H3 (e3 p _ hp) ((e.trans e2).trans e3) H3 (Ex.refl H3) Q fun H4 e4 => q H4 ((e2.trans e3).trans e4)
theorem rv_leP {p q : Addr} {kf : PySem.Str → Int} {s t : PySem.Str} (hp : H p = some (.tup [.int (kf s), .str s])) (hq : H q = some (.tup [.int (kf t), .str t])) : RV (rPair rkLe) (.ref p) (.ref q) H (.bl (decide (rkLe kf s t))) := fun H1 e Q k =>
  ⟨p, q, kf, s, t, rfl, rfl, e _ _ hp, e _ _ hq, fun v hv => by
    have : v = decide (rkLe kf s t) := by
      cases v with
      | true => exact (decide_eq_true (hv.mp rfl)).symm
      | false => exact (decide_eq_false fun z => by have := hv.mpr z; cases this).symm
    rw [this]
    exact k H1 (Ex.refl _)⟩
theorem rv_gt {i j : Int} : RV (rI0 fun a b => .bl (decide (a > b))) (.int i) (.int j) H (.bl (decide (i > j))) := rv_I0
/-! comprehensions as maps and filters -/
section
variable {α : Type} {ys : List α} {j : Nat} {vs : List Nat} {a : Addr}
theorem el_mL {c : α → V} (f : α → V) (hl : Ev tl σ H (.ref a)) (h : SqL K H a (ys.map c)) (hz : ys.length ≤ 100000) (turn : ∀ (i : Nat) y, ys[i]? = some y → ∀ H', Ex H H' → Ev te ((wipe σ vs).set j (some (c y))) H' (f y)) (hw : ∀ v, wipe ((wipe σ vs).set j (some v)) vs = wipe σ vs := by intro _; rfl) :
    EvL (tLc (iList K tl) (gName j) tYes te vs) σ H (ys.map f) := fun H1 e Q q => hl H1 e _ fun H2 e2 => ⟨a, rfl, ⟨_, ex_l (e.trans e2) h⟩, fun D hD =>
  lc_m (j := j) (c := c) (ys := ys) walk_list f (by rw [List.length_map]) hD (fun H' s => ex_l ((e.trans e2).trans s) h) (sz_of hz) (fun i y H' k hy s hk => turn i y hy H' ((e.trans e2).trans s) H' (Ex.refl _) k hk) (fun H' s hD' => q D H' (fresh_back e2 hD) (e2.trans s) hD') hw⟩
theorem el_mT {c : α → V} (f : α → V) (hl : Ev tl σ H (.ref a)) (h : SqT K H a (ys.map c)) (hz : ys.length ≤ 100000) (turn : ∀ (i : Nat) y, ys[i]? = some y → ∀ H', Ex H H' → Ev te ((wipe σ vs).set j (some (c y))) H' (f y)) (hw : ∀ v, wipe ((wipe σ vs).set j (some v)) vs = wipe σ vs := by intro _; rfl) :
    EvL (tLc (iTup K tl) (gName j) tYes te vs) σ H (ys.map f) := fun H1 e Q q => hl H1 e _ fun H2 e2 => ⟨a, rfl, ⟨_, ex_t (e.trans e2) h⟩, fun D hD =>
  lc_m (j := j) (c := c) (ys := ys) walk_tup f (by rw [List.length_map]) hD (fun H' s => ex_t ((e.trans e2).trans s) h) (sz_of hz) (fun i y H' k hy s hk => turn i y hy H' ((e.trans e2).trans s) H' (Ex.refl _) k hk) (fun H' s hD' => q D H' (fresh_back e2 hD) (e2.trans s) hD') hw⟩
/-- over a new list -/
theorem el_mN {c : α → V} (f : α → V) (hl : EvL tl σ H (ys.map c)) (hz : ys.length ≤ 100000) (turn : ∀ (i : Nat) y, ys[i]? = some y → ∀ H', Ex H H' → Ev te ((wipe σ vs).set j (some (c y))) H' (f y)) (hw : ∀ v, wipe ((wipe σ vs).set j (some v)) vs = wipe σ vs := by intro _; rfl) :
    EvL (tLc (iList K tl) (gName j) tYes te vs) σ H (ys.map f) := fun H1 e Q q => hl H1 e _ fun a H2 ha e2 h2 => ⟨a, rfl, ⟨_, sq_of h2⟩, fun D hD =>
  lc_m (j := j) (c := c) (ys := ys) walk_list f (by rw [List.length_map]) hD (fun H' s => sq_of (s _ _ h2)) (sz_of hz) (fun i y H' k hy s hk => turn i y hy H' ((e.trans e2).trans s) H' (Ex.refl _) k hk) (fun H' s hD' => q D H' (fresh_back e2 hD) (e2.trans s) hD') hw⟩
theorem el_fL {c : α → V} (p : α → Bool) (f : α → V) (hl : Ev tl σ H (.ref a)) (h : SqL K H a (ys.map c)) (hz : ys.length ≤ 100000) (test : ∀ (i : Nat) y, ys[i]? = some y → ∀ H', Ex H H' → EvT t ((wipe σ vs).set j (some (c y))) H' (p y))
    (turn : ∀ (i : Nat) y, ys[i]? = some y → p y = true → ∀ H', Ex H H' → Ev te ((wipe σ vs).set j (some (c y))) H' (f y)) (hw : ∀ v, wipe ((wipe σ vs).set j (some v)) vs = wipe σ vs := by intro _; rfl) :
    EvL (tLc (iList K tl) (gName j) t te vs) σ H ((ys.filter p).map f) := fun H1 e Q q => hl H1 e _ fun H2 e2 => ⟨a, rfl, ⟨_, ex_l (e.trans e2) h⟩, fun D hD =>
  lc_f (j := j) (c := c) (ys := ys) walk_list p f (by rw [List.length_map]) hD (fun H' s => ex_l ((e.trans e2).trans s) h) (sz_of hz) (fun i y H' k hy s hk => test i y hy H' ((e.trans e2).trans s) H' (Ex.refl _) k hk) (fun i y H' k hy hp s hk => turn i y hy hp H' ((e.trans e2).trans s) H' (Ex.refl _) k hk) (fun H' s hD' => q D H' (fresh_back e2 hD) (e2.trans s) hD') hw⟩
theorem el_fT {c : α → V} (p : α → Bool) (f : α → V) (hl : Ev tl σ H (.ref a)) (h : SqT K H a (ys.map c)) (hz : ys.length ≤ 100000) (test : ∀ (i : Nat) y, ys[i]? = some y → ∀ H', Ex H H' → EvT t ((wipe σ vs).set j (some (c y))) H' (p y))
    (turn : ∀ (i : Nat) y, ys[i]? = some y → p y = true → ∀ H', Ex H H' → Ev te ((wipe σ vs).set j (some (c y))) H' (f y)) (hw : ∀ v, wipe ((wipe σ vs).set j (some v)) vs = wipe σ vs := by intro _; rfl) :
    EvL (tLc (iTup K tl) (gName j) t te vs) σ H ((ys.filter p).map f) := fun H1 e Q q => hl H1 e _ fun H2 e2 => ⟨a, rfl, ⟨_, ex_t (e.trans e2) h⟩, fun D hD =>
  lc_f (j := j) (c := c) (ys := ys) walk_tup p f (by rw [List.length_map]) hD (fun H' s => ex_t ((e.trans e2).trans s) h) (sz_of hz) (fun i y H' k hy s hk => test i y hy H' ((e.trans e2).trans s) H' (Ex.refl _) k hk) (fun i y H' k hy hp s hk => turn i y hy hp H' ((e.trans e2).trans s) H' (Ex.refl _) k hk) (fun H' s hD' => q D H' (fresh_back e2 hD) (e2.trans s) hD') hw⟩
theorem el_fN {c : α → V} (p : α → Bool) (f : α → V) (hl : EvL tl σ H (ys.map c)) (hz : ys.length ≤ 100000) (test : ∀ (i : Nat) y, ys[i]? = some y → ∀ H', Ex H H' → EvT t ((wipe σ vs).set j (some (c y))) H' (p y))
    (turn : ∀ (i : Nat) y, ys[i]? = some y → p y = true → ∀ H', Ex H H' → Ev te ((wipe σ vs).set j (some (c y))) H' (f y)) (hw : ∀ v, wipe ((wipe σ vs).set j (some v)) vs = wipe σ vs := by intro _; rfl) :
    EvL (tLc (iList K tl) (gName j) t te vs) σ H ((ys.filter p).map f) := fun H1 e Q q => hl H1 e _ fun a H2 ha e2 h2 => ⟨a, rfl, ⟨_, sq_of h2⟩, fun D hD =>
  lc_f (j := j) (c := c) (ys := ys) walk_list p f (by rw [List.length_map]) hD (fun H' s => sq_of (s _ _ h2)) (sz_of hz) (fun i y H' k hy s hk => test i y hy H' ((e.trans e2).trans s) H' (Ex.refl _) k hk) (fun i y H' k hy hp s hk => turn i y hy hp H' ((e.trans e2).trans s) H' (Ex.refl _) k hk) (fun H' s hD' => q D H' (fresh_back e2 hD) (e2.trans s) hD') hw⟩
/-- over the keys of a dict that is locked already -/
theorem el_mK {β : Type} {g : β → V} {l : List (PySem.Str × β)} {o : Obj} (f : PySem.Str → V) (hl : Ev tl σ H (.ref a)) (h : H a = some (.frz o (.dK (kvT g l)))) (hz : l.length ≤ 100000) (turn : ∀ (i : Nat) y, (keysT l)[i]? = some y → ∀ H', Ex H H' → Ev te ((wipe σ vs).set j (some (.str y))) H' (f y)) (hw : ∀ v, wipe ((wipe σ vs).set j (some v)) vs = wipe σ vs := by intro _; rfl) :
    EvL (tLc (iKeys tl) (gName j) tYes te vs) σ H ((keysT l).map f) := fun H1 e Q q => hl H1 e _ fun H2 e2 => ⟨a, o, rfl, .inl ⟨_, e2 _ _ (e _ _ h), fun D hD =>
  lc_m (j := j) (c := V.str) (ys := keysT l) walk_kT f rfl hD (fun H' s => s _ _ (e2 _ _ (e _ _ h))) (by unfold keysT; rw [List.length_map]; exact sz_of hz) (fun i y H' k hy s hk => turn i y hy H' ((e.trans e2).trans s) H' (Ex.refl _) k hk) (fun H' s hD' => q D H' (fresh_back e2 hD) (e2.trans s) hD') hw⟩⟩
theorem el_fK {β : Type} {g : β → V} {l : List (PySem.Str × β)} {o : Obj} (p : PySem.Str → Bool) (f : PySem.Str → V) (hl : Ev tl σ H (.ref a)) (h : H a = some (.frz o (.dK (kvT g l)))) (hz : l.length ≤ 100000) (test : ∀ (i : Nat) y, (keysT l)[i]? = some y → ∀ H', Ex H H' → EvT t ((wipe σ vs).set j (some (.str y))) H' (p y))
    (turn : ∀ (i : Nat) y, (keysT l)[i]? = some y → p y = true → ∀ H', Ex H H' → Ev te ((wipe σ vs).set j (some (.str y))) H' (f y)) (hw : ∀ v, wipe ((wipe σ vs).set j (some v)) vs = wipe σ vs := by intro _; rfl) :
    EvL (tLc (iKeys tl) (gName j) t te vs) σ H (((keysT l).filter p).map f) := fun H1 e Q q => hl H1 e _ fun H2 e2 => ⟨a, o, rfl, .inl ⟨_, e2 _ _ (e _ _ h), fun D hD =>
  lc_f (j := j) (c := V.str) (ys := keysT l) walk_kT p f rfl hD (fun H' s => s _ _ (e2 _ _ (e _ _ h))) (by unfold keysT; rw [List.length_map]; exact sz_of hz) (fun i y H' k hy s hk => test i y hy H' ((e.trans e2).trans s) H' (Ex.refl _) k hk) (fun i y H' k hy hp s hk => turn i y hy hp H' ((e.trans e2).trans s) H' (Ex.refl _) k hk) (fun H' s hD' => q D H' (fresh_back e2 hD) (e2.trans s) hD') hw⟩⟩
/-- a list made while the dict d is locked, from the state within the lock -/
theorem el_lock {kvs : List (L2.Key × V)} {xs : List V} (h : H a = some (.dK kvs)) (k : ∀ od, EvL te σ (upd H a (.frz od (.dK kvs))) xs) : EvL (tLockE te) σ H xs := fun H1 e Q q => by
  have h1 := e _ _ h
  refine ⟨a, _, h1, trivial, fun od => ?_⟩
  have e1 : Ex (upd H a (.frz od (.dK kvs))) (upd H1 a (.frz od (.dK kvs))) := fun b o z => by
    by_cases nb : b = a
    · rw [nb, upd_same] at z ⊢; exact z
    · rw [upd_ne nb] at z ⊢; exact e _ _ z
  refine k od _ e1 _ fun p H2 hp e2 h2 => ?_
  have na : p ≠ a := fun z => by rw [z, upd_same] at hp; cases hp
  have fa : H2 a = some (.frz od (.dK kvs)) := e2 _ _ upd_same
  refine ⟨fa, q p _ (by rw [upd_ne na] at hp; exact hp) (fun b o z => ?_) (by rw [upd_ne na]; exact h2)⟩
  by_cases nb : b = a
  · rw [nb, h1] at z; rw [nb, upd_same]; exact z
  · rw [upd_ne nb]; exact e2 _ _ (by rw [upd_ne nb]; exact z)
end
end
/-! ### statements under a dict's lock -/
section
variable {K : PySem.W.Frag} {σ : L2.St} {H H' : Hp} {te td : TE} {D : Ends} {tb tz : TS} {a : Addr} {u : HO}
theorem ex_lock {H1 : Hp} {f : HO} (e : Ex H H1) : Ex (upd H a f) (upd H1 a f) := fun b o z => by
  by_cases nb : b = a
  · rw [nb, upd_same] at z ⊢; exact z
  · rw [upd_ne nb] at z ⊢; exact e _ _ z
theorem ex_unlock {f : HO} (h : H a = some u) (e : Ex (upd H a f) H') : Ex H (upd H' a u) := fun b o z => by
  by_cases nb : b = a
  · rw [nb, h] at z; rw [nb, upd_same]; exact z
  · rw [upd_ne nb]; exact e _ _ (by rw [upd_ne nb]; exact z)
/-- y = [.. for k in d ..], d locked meanwhile -/
theorem s_lockL {kvs : List (L2.Key × V)} {xs : List V} {i : Nat} (h : H a = some (.dK kvs)) (k : ∀ od, EvL te σ (upd H a (.frz od (.dK kvs))) xs) (q : ∀ p H1, H p = none → Ex H H1 → H1 p = some (.lst xs) → D.nx (σ.set i (some (.ref p))) H1) : tLock (tAsg te (gName i)) D σ H := by
  refine ⟨a, _, h, trivial, fun od => k od _ (Ex.refl _) _ fun p H2 hp e2 h2 => ?_⟩
  have na : p ≠ a := fun z => by rw [z, upd_same] at hp; cases hp
  refine ⟨e2 _ _ upd_same, q p _ (by rw [upd_ne na] at hp; exact hp) (ex_unlock h e2) (by rw [upd_ne na]; exact h2)⟩
theorem q_lockL {kvs : List (L2.Key × V)} {xs : List V} {i : Nat} (h : H a = some (.dK kvs)) (k : ∀ od, EvL te σ (upd H a (.frz od (.dK kvs))) xs) (q : ∀ p H1, H p = none → Ex H H1 → H1 p = some (.lst xs) → tz D (σ.set i (some (.ref p))) H1) : tSeq (tLock (tAsg te (gName i))) tz D σ H :=
  s_lockL (D := { D with nx := tz D }) h k q
/-- for k in d: ..; the turns within the lock -/
theorem s_lockFor {β : Type} {g : β → V} {l : List (PySem.Str × β)} {j : Nat} (h : H a = some (.dK (kvT g l))) (hd : ∀ od, Ev td σ (upd H a (.frz od (.dK (kvT g l)))) (.ref a)) (Pv : Obj → Nat → L2.St → Hp → Prop) (h0 : ∀ od H1, Ex (upd H a (.frz od (.dK (kvT g l)))) H1 → Pv od 0 σ H1)
    (hl : ∀ od i σ' H', Pv od i σ' H' → H' a = some (.frz od (.dK (kvT g l))))
    (hs : ∀ od (i : Nat) y σ' H', (keysT l)[i]? = some y → Pv od i σ' H' → tb ⟨Pv od (i + 1), fun v H' => H' a = some (.frz od (.dK (kvT g l))) ∧ D.rt v (upd H' a (.dK (kvT g l))), fun σ' H' => H' a = some (.frz od (.dK (kvT g l))) ∧ D.nx σ' (upd H' a (.dK (kvT g l))), Pv od (i + 1)⟩ (σ'.set j (some (.str y))) H')
    (he : ∀ od σ' H', Pv od (keysT l).length σ' H' → D.nx σ' (upd H' a (.dK (kvT g l)))) : tLock (tFor (iKeys td) (gName j) tb) D σ H := by
  refine ⟨a, _, h, trivial, fun od => hd od _ (Ex.refl _) _ fun H1 e1 => ⟨a, od, rfl, .inl ⟨_, e1 _ _ upd_same, for_it walk_kT (Pv od) (h0 od H1 e1) (fun i σ' H' _ p => hl od i σ' H' p) ?_ ?_⟩⟩⟩
  · rintro i x σ' H' H'' hi p ⟨rfl, hx⟩
    rw [List.getElem?_map] at hx
    cases e : (keysT l)[i]? with
    | none => rw [e] at hx; cases hx
    | some y =>
      rw [e] at hx
      obtain rfl := Option.some.inj hx
      exact hs od i y σ' _ e p
  · exact fun σ' H' p => ⟨hl od _ σ' H' p, he od σ' H' p⟩
theorem q_lockFor {β : Type} {g : β → V} {l : List (PySem.Str × β)} {j : Nat} (h : H a = some (.dK (kvT g l))) (hd : ∀ od, Ev td σ (upd H a (.frz od (.dK (kvT g l)))) (.ref a)) (Pv : Obj → Nat → L2.St → Hp → Prop) (h0 : ∀ od H1, Ex (upd H a (.frz od (.dK (kvT g l)))) H1 → Pv od 0 σ H1)
    (hl : ∀ od i σ' H', Pv od i σ' H' → H' a = some (.frz od (.dK (kvT g l))))
    (hs : ∀ od (i : Nat) y σ' H', (keysT l)[i]? = some y → Pv od i σ' H' → tb ⟨Pv od (i + 1), fun v H' => H' a = some (.frz od (.dK (kvT g l))) ∧ D.rt v (upd H' a (.dK (kvT g l))), fun σ' H' => H' a = some (.frz od (.dK (kvT g l))) ∧ tz D σ' (upd H' a (.dK (kvT g l))), Pv od (i + 1)⟩ (σ'.set j (some (.str y))) H')
    (he : ∀ od σ' H', Pv od (keysT l).length σ' H' → tz D σ' (upd H' a (.dK (kvT g l)))) : tSeq (tLock (tFor (iKeys td) (gName j) tb)) tz D σ H :=
  s_lockFor (D := { D with nx := tz D }) h hd Pv h0 hl hs he
end
section
variable {X : Cx} {K : PySem.W.Frag}
theorem cr_anyK (h : X.K = K) (hc : X.calm = true) : CallR X (.builtin "any") (rAny K) := by subst h; exact cr_any hc
theorem cr_allK (h : X.K = K) (hc : X.calm = true) : CallR X (.builtin "all") (rAll K) := by subst h; exact cr_all hc
theorem cr_sumK (h : X.K = K) (hc : X.calm = true) : CallR X (.builtin "sum") (rSum K) := by subst h; exact cr_sum hc
end
end Mc
namespace Mc
open PySem L2 PySem.Spec PyProof.Rows Evl
/-! ### a dict that is walked where it is made: it stays locked -/
def tFrz (t : TE) : TE := fun σ H Q => t σ H fun x H1 => ∃ d u, x = .ref d ∧ H1 d = some u ∧ Mut (some u) ∧ ∀ o, Q x (upd H1 d (.frz o u))
theorem pe_frz {X : Cx} {e : Expr} {t : TE} (h : PE X e t) : PE X e (tFrz t) := ⟨fun pins s σ H Q I hw => thn (h.run pins s σ H _ I hw) fun v s1 hv => by
  obtain ⟨x, H1, I1, r1, d, u, rfl, hd, mu, q⟩ := hv
  obtain ⟨od, I2⟩ := I1.lock hd mu
  exact ⟨_, _, I2, r1, q od⟩⟩
/-! ### xs.count(text) -/
theorem cntS : ∀ {xs : List PySem.Str} {its : List Value} {k : PySem.Str}, Vals (xs.map V.str) its → its.countP (isS k) = xs.count k
  | [], _, _, .nil => rfl
  | x :: xs, _ :: us, k, .cons ⟨t, e⟩ r => by
    subst e
    rw [List.countP_cons, List.count_cons, cntS (k := k) r]
    have e2 : isS k (.str x t) = (x == k) := by
      show (x.cps.toList == k.cps.toList) = (x == k)
      by_cases h : x = k
      · subst h; simp
      · have n1 : ¬ x.cps.toList = k.cps.toList := fun z => h (str_ext z)
        rw [beq_eq_false_iff_ne.mpr n1, beq_eq_false_iff_ne.mpr h]
    rw [e2]
section
variable {X : Cx} {K : PySem.W.Frag}
def rCntS (K : PySem.W.Frag) : V → List V → Hp → VK → Prop := fun x xs H Q => ∃ (p : Addr) (ys : List PySem.Str) (k : PySem.Str), x = .ref p ∧ xs = [.str k] ∧ SqL K H p (ys.map V.str) ∧ Q (.int (ys.count k : Nat)) H
theorem mt_lcountS : MtR X "list.count" (rCntS X.K) := by
  intro pins s σ H x xs v us Q I rx rxs h
  obtain ⟨p, ys, k, rfl, rfl, hs, q⟩ := h
  cases rx
  obtain ⟨u, rfl, ru⟩ := rxs.one
  obtain ⟨t, rfl⟩ := ru
  obtain ⟨its, rv, ⟨⟨cls, dd, data, sl⟩, n, ho, hc, hdn, hd⟩, hlen⟩ := I.list hs
  simp only at hc hd
  subst hc hd
  refine call_meets PySem.F.slot_list_count ⟨_, ho, rfl⟩ PySem.F.entry_list_count (PySem.F.args_list_count_2 _ _) (SeqAt.list_countAt p its.toArray n dd sl (.str k t) (isS k)) ⟨ho, fun y hy => ?_, ?_⟩
  · obtain ⟨i, hi⟩ := List.mem_iff_getElem?.mp (show y ∈ its by simpa using hy)
    cases hx : ys[i]? with
    | none => rw [rv.none_of (by rw [List.getElem?_map, hx]; rfl)] at hi; cases hi
    | some z =>
      obtain ⟨w', h1, ⟨t', h2⟩⟩ := rv.get (i := i) (x := .str z) (by rw [List.getElem?_map, hx]; rfl)
      rw [hi] at h1; cases h1
      rw [h2]
      exact (SeqRoads2.EqGives.str z k t' t).at _ _
  · refine ⟨.int (ys.count k : Nat), H, I.tok _, ⟨s.toks, ?_⟩, q⟩
    show Value.int ((its.toArray.toList.countP (isS k) : Nat) : Int) s.toks = Value.int ((ys.count k : Nat) : Int) s.toks
    rw [List.toList_toArray, cntS rv]
theorem mt_lcountSK (h : X.K = K) : MtR X "list.count" (rCntS K) := by subst h; exact mt_lcountS
end
/-! ### {k: e for k in ..} as a map -/
section
variable {f : PySem.Str → V} {ys : List PySem.Str} {J : It} {n : Nat} {G : Hp → Prop} {te : TE} {vs : List Nat} {σ : L2.St} {H1 : Hp} {D : Addr} {Qd : Hp → Prop} {j : Nat}
def mkD (f : PySem.Str → V) (ys : List PySem.Str) : List (L2.Key × V) := ys.map fun y => (Sum.inr y, f y)
theorem mkD_put {y : PySem.Str} (h : y ∉ ys) (f : PySem.Str → V) : putK (mkD f ys) (Sum.inr y) (f y) = mkD f (ys ++ [y]) := by
  have e1 : mkD f ys = kvT id (ys.map fun y => (y, f y)) := by unfold mkD kvT; rw [List.map_map]; rfl
  have e2 := put_new (f := (id : V → V)) (l := ys.map fun y => (y, f y)) (k := y) (v := f y) (by rw [keysT_mk]; exact h)
  rw [e1]
  refine e2.trans ?_
  unfold mkD kvT
  rw [List.map_append, List.map_map, List.map_append]
  rfl
theorem dc_m (w : Walk J n G (YAt (ys.map V.str))) (f : PySem.Str → V) (hn : n = ys.length) (nd : ys.Nodup) (hD : H1 D = none) (hG : ∀ H', Same H1 H' → G H') (hz : ys.length ≤ sizeLine)
    (turn : ∀ (i : Nat) (y : PySem.Str) (H' : Hp) (k : VK), ys[i]? = some y → Same H1 H' → (∀ H4, Same H' H4 → k (f y) H4) → te ((wipe σ vs).set j (some (.str y))) H' k)
    (hd : ∀ H', Same H1 H' → H' D = some (.dK (mkD f ys)) → Qd H') (hj : ∀ v, ((wipe σ vs).set j (some v))[j]? = some (some v) := by intro _; rfl) (hw : ∀ v, wipe ((wipe σ vs).set j (some v)) vs = wipe σ vs := by intro _; rfl) :
    ∃ W : Nat → Nat → Hp → Prop, (∃ m, W 0 m (upd H1 D (.dK []))) ∧ ∀ i m H, W i m H →
      (J.stop i H ∧ Qd H) ∨ (J.go i H ∧ ∃ Nx : Hp → Prop, (∀ H', Nx H' → ∃ m', m' < m ∧ W (i + 1) m' H') ∧ ∀ x H', J.yld i H x H' → gName j x (wipe σ vs) H' fun σ2 H2 => wipe σ2 vs = wipe σ vs ∧ tYes σ2 H2 fun b H3 =>
        if b = true then tVar j σ2 H3 fun y H4 => te σ2 H4 fun z H5 => ∃ kvs k, y = kV k ∧ H5 D = some (.dK kvs) ∧ kvs.length < sizeLine ∧ Nx (upd H5 D (.dK (putK kvs k z))) else Nx H3) := by
  refine ⟨fun i m H => m = n - i ∧ i ≤ n ∧ Same H1 H ∧ H D = some (.dK (mkD f (ys.take i))), ⟨n, by simp, Nat.zero_le _, Same.new hD, upd_same⟩, ?_⟩
  rintro i m H ⟨rfl, hi, s1, d1⟩
  by_cases hlt : i < n
  · refine .inr ⟨w.goes i H hlt (hG H s1), fun H' => Same H1 H' ∧ H' D = some (.dK (mkD f (ys.take (i + 1)))), fun H' p' => ⟨n - (i + 1), by omega, rfl, hlt, p'⟩, fun x H' y => ?_⟩
    obtain ⟨rfl, hx⟩ := w.yields i H x H' hlt (hG H s1) y
    rw [List.getElem?_map] at hx
    cases e : ys[i]? with
    | none => rw [e] at hx; cases hx
    | some c =>
      rw [e] at hx
      obtain rfl := Option.some.inj hx
      refine ⟨hw _, yes_ite ⟨_, hj _, turn i c _ _ e s1 fun H4 s4 => ⟨_, Sum.inr c, rfl, s4 _ _ d1, ?_, ?_, ?_⟩⟩⟩
      · unfold mkD; rw [List.length_map, List.length_take]; omega
      · exact fun b o z => by
          have nb : b ≠ D := ne_of_none z hD
          rw [upd_ne nb]
          exact s4 _ _ (s1 _ _ z)
      · rw [upd_same, mkD_put (nd_take nd e), List.take_add_one, e]
        rfl
  · obtain rfl : i = n := by omega
    subst hn
    rw [List.take_length] at d1
    exact .inl ⟨w.stops H (hG H s1), hd H s1 d1⟩
/-- a new dict -/
def EvD (te : TE) (σ : L2.St) (H : Hp) (kvs : List (L2.Key × V)) : Prop := ∀ H1, Ex H H1 → ∀ Q : VK, (∀ p H2, H1 p = none → Ex H1 H2 → H2 p = some (.dK kvs) → Q (.ref p) H2) → te σ H1 Q
theorem mkD_kvT {β : Type} {g : β → V} {h : PySem.Str → β} (ys : List PySem.Str) : mkD (fun y => g (h y)) ys = kvT g (ys.map fun y => (y, h y)) := by unfold mkD kvT; rw [List.map_map]; rfl
section
variable {K : PySem.W.Frag} {H : Hp} {tl : TE} {a : Addr}
theorem ed_N (f : PySem.Str → V) (nd : ys.Nodup) (hl : EvL tl σ H (ys.map V.str)) (hz : ys.length ≤ 100000) (turn : ∀ (i : Nat) y, ys[i]? = some y → ∀ H', Ex H H' → Ev te ((wipe σ vs).set j (some (.str y))) H' (f y)) (hj : ∀ v, ((wipe σ vs).set j (some v))[j]? = some (some v) := by intro _; rfl) (hw : ∀ v, wipe ((wipe σ vs).set j (some v)) vs = wipe σ vs := by intro _; rfl) :
    EvD (tDc (iList K tl) (gName j) tYes (tVar j) te vs) σ H (mkD f ys) := fun H1 e Q q => hl H1 e _ fun a H2 ha e2 h2 => ⟨a, rfl, ⟨_, sq_of h2⟩, fun D hD =>
  dc_m (j := j) (ys := ys) walk_list f (by rw [List.length_map]) nd hD (fun H' s => sq_of (s _ _ h2)) (sz_of hz) (fun i y H' k hy s hk => turn i y hy H' ((e.trans e2).trans s) H' (Ex.refl _) k hk) (fun H' s hD' => q D H' (fresh_back e2 hD) (e2.trans s) hD') hj hw⟩
theorem ed_K {β : Type} {g : β → V} {l : List (PySem.Str × β)} {o : Obj} (f : PySem.Str → V) (nd : (keysT l).Nodup) (hl : Ev tl σ H (.ref a)) (h : H a = some (.frz o (.dK (kvT g l)))) (hz : l.length ≤ 100000) (turn : ∀ (i : Nat) y, (keysT l)[i]? = some y → ∀ H', Ex H H' → Ev te ((wipe σ vs).set j (some (.str y))) H' (f y)) (hj : ∀ v, ((wipe σ vs).set j (some v))[j]? = some (some v) := by intro _; rfl) (hw : ∀ v, wipe ((wipe σ vs).set j (some v)) vs = wipe σ vs := by intro _; rfl) :
    EvD (tDc (iKeys tl) (gName j) tYes (tVar j) te vs) σ H (mkD f (keysT l)) := fun H1 e Q q => hl H1 e _ fun H2 e2 => ⟨a, o, rfl, .inl ⟨_, e2 _ _ (e _ _ h), fun D hD =>
  dc_m (j := j) (ys := keysT l) walk_kT f rfl nd hD (fun H' s => s _ _ (e2 _ _ (e _ _ h))) (by unfold keysT; rw [List.length_map]; exact sz_of hz) (fun i y H' k hy s hk => turn i y hy H' ((e.trans e2).trans s) H' (Ex.refl _) k hk) (fun H' s hD' => q D H' (fresh_back e2 hD) (e2.trans s) hD') hj hw⟩⟩
theorem ed_lock {kvs xs : List (L2.Key × V)} (h : H a = some (.dK kvs)) (k : ∀ od, EvD te σ (upd H a (.frz od (.dK kvs))) xs) : EvD (tLockE te) σ H xs := fun H1 e Q q => by
  have h1 := e _ _ h
  refine ⟨a, _, h1, trivial, fun od => k od _ (ex_lock e) _ fun p H2 hp e2 h2 => ?_⟩
  have na : p ≠ a := fun z => by rw [z, upd_same] at hp; cases hp
  exact ⟨e2 _ _ upd_same, q p _ (by rw [upd_ne na] at hp; exact hp) (ex_unlock h1 e2) (by rw [upd_ne na]; exact h2)⟩
end
end
end Mc
namespace Mc
open PySem L2 PySem.Spec PyProof.Rows Evl
theorem rising_pw : ∀ (r : List PySem.Str) (p : PySem.Str), risingS p r = true → (p :: r).Pairwise fun a b => ¬ ltN b a
  | [], p, _ => List.pairwise_singleton _ _
  | x :: r, p, h => by
    unfold risingS at h
    rw [Bool.and_eq_true] at h
    have ih := rising_pw r x h.2
    have px : ¬ ltN x p := by
      have h1 := h.1
      rw [ltCps_eq] at h1
      intro z
      rw [decide_eq_true (show x.cps.toList < p.cps.toList from z)] at h1
      cases h1
    refine List.pairwise_cons.mpr ⟨fun y hy => ?_, ih⟩
    rcases List.mem_cons.mp hy with e | e
    · rw [e]; exact px
    · intro z
      have xy := (List.pairwise_cons.mp ih).1 y e
      by_cases ep : p = x
      · rw [ep] at z; exact xy z
      · by_cases ey : y = x
        · rw [ey] at z; exact px z
        · exact ltN_irr _ (ltN_trans (ltN_trans (ltN_tri px fun q => ep q.symm) (ltN_tri xy ey)) z)
theorem srt_pw {ys : List PySem.Str} (h : sortedS ys = true) : ys.Pairwise fun a b => ¬ ltN b a := by
  cases ys with
  | nil => exact .nil
  | cons x r => exact rising_pw r x h
theorem srt_eq {ys zs : List PySem.Str} (hp : ys.Perm zs) (h1 : sortedS ys = true) (h2 : sortedS zs = true) : ys = zs :=
  List.Perm.eq_of_pairwise (le := fun a b => ¬ ltN b a) (fun a b _ _ h k => Classical.byContradiction fun n => h (ltN_tri k n)) (srt_pw h1) (srt_pw h2) hp
theorem perm_nd {α : Type} [DecidableEq α] {a b : List α} (h1 : a.Nodup) (h2 : b.Nodup) (h : ∀ x, x ∈ a ↔ x ∈ b) : a.Perm b := by
  refine List.perm_iff_count.mpr fun x => ?_
  by_cases e : x ∈ a
  · rw [h1.count, h2.count, if_pos e, if_pos ((h x).mp e)]
  · rw [h1.count, h2.count, if_neg e, if_neg fun z => e ((h x).mpr z)]
def pdS (xs : List PySem.Str) : PyData := .list (xs.map PyData.str)
theorem dpAllS (K : PySem.W.Frag) (H : Hp) : ∀ xs : List PySem.Str, DpAll K H (xs.map V.str) (xs.map PyData.str)
  | [] => .nil
  | x :: xs => .cons (.str x) (dpAllS K H xs)
theorem dpS {K : PySem.W.Frag} {H : Hp} {a : Addr} {xs : List PySem.Str} (h : SqL K H a (xs.map V.str)) : Dp K H (.ref a) (pdS xs) := .lst h (dpAllS K H xs)
theorem lay_of {x : PySem.Str} (h : PyData.strOk x = true) : PyData.canLay0 (.str x) = true := by rw [PyData.canLay0]; exact h
theorem layS : ∀ xs : List PySem.Str, (∀ x ∈ xs, PyData.strOk x = true) → PyData.canLayAll0 (xs.map PyData.str) = true
  | [], _ => rfl
  | x :: xs, h => by
    show (PyData.canLay0 (.str x) && PyData.canLayAll0 (xs.map PyData.str)) = true
    rw [layS xs fun y hy => h y (.tail _ hy), lay_of (h x (.head _))]; rfl
theorem depS : ∀ xs : List PySem.Str, PyData.depthAll (xs.map PyData.str) = 0
  | [] => rfl
  | x :: xs => by
    show max (PyData.depth (.str x)) (PyData.depthAll (xs.map PyData.str)) = 0
    rw [depS xs]; rfl
theorem shapedS {xs : List PySem.Str} (hx : ∀ x ∈ xs, PyData.strOk x = true) : SeqAt.shaped (pdS xs) = true := by
  have h : PyData.depth (pdS xs) = PyData.depthAll (xs.map PyData.str) + 1 := by unfold pdS; rw [PyData.depth]
  have h2 : (pdS xs).canLay0 = true := by unfold pdS; rw [PyData.canLay0]; exact layS xs hx
  unfold SeqAt.shaped
  rw [h, depS, h2]; rfl
theorem eqvS (xs : List PySem.Str) : PyData.eqv (pdS xs) (pdS xs) = true := by
  unfold pdS
  rw [PyData.eqv]
  induction xs with
  | nil => rfl
  | cons x xs ih =>
    show (PyData.eqv (.str x) (.str x) && PyData.eqvAll (xs.map PyData.str) (xs.map PyData.str)) = true
    rw [ih]
    simp [PyData.eqv]
theorem eqvAllS : ∀ xs ys : List PySem.Str, PyData.eqvAll (xs.map PyData.str) (ys.map PyData.str) = decide (xs = ys)
  | [], [] => rfl
  | [], y :: ys => by simp [PyData.eqvAll]
  | x :: xs, [] => by simp [PyData.eqvAll]
  | x :: xs, y :: ys => by
    show (PyData.eqv (.str x) (.str y) && PyData.eqvAll (xs.map PyData.str) (ys.map PyData.str)) = _
    rw [eqvAllS xs ys]
    have : PyData.eqv (.str x) (.str y) = (x == y) := by rw [PyData.eqv]
    rw [this]
    by_cases h : x = y <;> simp [h]
theorem eqvLS (xs ys : List PySem.Str) : PyData.eqv (pdS xs) (pdS ys) = decide (xs = ys) := by
  unfold pdS
  rw [PyData.eqv]
  exact eqvAllS xs ys
def pdTS (xs : List PySem.Str) : PyData := .tuple (xs.map PyData.str)
theorem eqvTS (xs ys : List PySem.Str) : PyData.eqv (pdTS xs) (pdTS ys) = decide (xs = ys) := by
  unfold pdTS
  rw [PyData.eqv]
  exact eqvAllS xs ys
theorem shapedTS {xs : List PySem.Str} (hx : ∀ x ∈ xs, PyData.strOk x = true) : SeqAt.shaped (pdTS xs) = true := by
  have h : PyData.depth (pdTS xs) = PyData.depthAll (xs.map PyData.str) + 1 := by unfold pdTS; rw [PyData.depth]
  have h2 : (pdTS xs).canLay0 = true := by unfold pdTS; rw [PyData.canLay0]; exact layS xs hx
  unfold SeqAt.shaped
  rw [h, depS, h2]; rfl
theorem dpTS {K : PySem.W.Frag} {H : Hp} {a : Addr} {xs : List PySem.Str} (h : SqT K H a (xs.map V.str)) : Dp K H (.ref a) (pdTS xs) := .tup h (dpAllS K H xs)
section
variable {K : PySem.W.Frag} {H : Hp} {p q : Addr} {xs ys : List PySem.Str}
theorem rv_eqSL (hp : SqL K H p (xs.map V.str)) (hq : SqL K H q (ys.map V.str)) (ox : ∀ x ∈ xs, PyData.strOk x = true) (oy : ∀ x ∈ ys, PyData.strOk x = true) : RV (rEqD K) (.ref p) (.ref q) H (.bl (decide (xs = ys))) := fun H1 e _ k =>
  ⟨_, _, dpS (ex_l e hp), dpS (ex_l e hq), shapedS ox, shapedS oy, by rw [eqvLS]; exact k H1 (Ex.refl _)⟩
theorem rv_neSL (hp : SqL K H p (xs.map V.str)) (hq : SqL K H q (ys.map V.str)) (ox : ∀ x ∈ xs, PyData.strOk x = true) (oy : ∀ x ∈ ys, PyData.strOk x = true) : RV (rNeD K) (.ref p) (.ref q) H (.bl (!decide (xs = ys))) := fun H1 e _ k =>
  ⟨_, _, dpS (ex_l e hp), dpS (ex_l e hq), shapedS ox, shapedS oy, by rw [eqvLS]; exact k H1 (Ex.refl _)⟩
theorem rv_eqST (hp : SqT K H p (xs.map V.str)) (hq : SqT K H q (ys.map V.str)) (ox : ∀ x ∈ xs, PyData.strOk x = true) (oy : ∀ x ∈ ys, PyData.strOk x = true) : RV (rEqD K) (.ref p) (.ref q) H (.bl (decide (xs = ys))) := fun H1 e _ k =>
  ⟨_, _, dpTS (ex_t e hp), dpTS (ex_t e hq), shapedTS ox, shapedTS oy, by rw [eqvTS]; exact k H1 (Ex.refl _)⟩
theorem rv_neST (hp : SqT K H p (xs.map V.str)) (hq : SqT K H q (ys.map V.str)) (ox : ∀ x ∈ xs, PyData.strOk x = true) (oy : ∀ x ∈ ys, PyData.strOk x = true) : RV (rNeD K) (.ref p) (.ref q) H (.bl (!decide (xs = ys))) := fun H1 e _ k =>
  ⟨_, _, dpTS (ex_t e hp), dpTS (ex_t e hq), shapedTS ox, shapedTS oy, by rw [eqvTS]; exact k H1 (Ex.refl _)⟩
end
theorem asc_eq {ys zs : List PySem.Str} (n1 : ys.Nodup) (n2 : zs.Nodup) (h1 : sortedS ys = true) (h2 : sortedS zs = true) (h : ∀ x, x ∈ ys ↔ x ∈ zs) : ys = zs := srt_eq (perm_nd n1 n2 h) h1 h2
theorem sorted_of_pw {ys : List PySem.Str} (h : ys.Pairwise fun a b => ltN a b) : sortedS ys = true := by
  refine sortedS_of_pairwise ys (h.imp fun {a b} z => ?_)
  rw [ltCps_eq]
  exact decide_eq_false (List.not_lt.mpr (List.le_of_lt z))
end Mc
namespace Mc
open PySem L2 PySem.Spec PyProof.Rows
abbrev sLMasts : Stmt := top 36
abbrev sLHeard : Stmt := top 37
abbrev sLScene : Stmt := top 38
def nN (p : PySem.Str) (j : Nat) : PySem.Str := p ++ PySem.Str.ofString (toString ((0 : Int) + (j : Int)))
def mN : Nat → PySem.Str := nN (PySem.Str.ofString "m")
def cN : Nat → PySem.Str := nN (PySem.Str.ofString "c")
theorem nN_small : ∀ j : Nat, j < 8 → ((0 : Int) + (j : Int)).natAbs.log2 < 1920 := by decide +kernel
theorem mN_len : ∀ j : Nat, j < 8 → (PySem.Str.ofString "m").length + (PySem.Str.ofString (toString ((0 : Int) + (j : Int)))).length ≤ sizeLine := by decide +kernel
theorem cN_len : ∀ j : Nat, j < 8 → (PySem.Str.ofString "c").length + (PySem.Str.ofString (toString ((0 : Int) + (j : Int)))).length ≤ sizeLine := by decide +kernel
theorem mN_ok : ∀ j : Nat, j < 8 → okN (mN j) := by decide +kernel
theorem cN_ok : ∀ j : Nat, j < 8 → okN (cN j) := by decide +kernel
theorem mN_inj : ∀ i, i < 8 → ∀ j, j < 8 → mN i = mN j → i = j := by decide +kernel
theorem cN_inj : ∀ i, i < 8 → ∀ j, j < 8 → cN i = cN j → i = j := by decide +kernel
theorem cN_lay : ∀ j : Nat, j < 8 → PyData.strOk (cN j) = true := by decide +kernel
theorem range_nd {f : Nat → PySem.Str} (h : ∀ i, i < 8 → ∀ j, j < 8 → f i = f j → i = j) {n : Nat} (hn : n ≤ 7) : ((List.range n).map f).Nodup := by
  rw [List.Nodup, List.pairwise_map]
  refine List.Pairwise.imp_of_mem (R := fun a b => a ≠ b) (fun {a b} ha hb z e => z (h a (by have := List.mem_range.mp ha; omega) b (by have := List.mem_range.mp hb; omega) e)) ?_
  exact List.nodup_range
def PT (f : β → V) (H : Hp) (as : List Addr) (rows : List (PySem.Str × β)) : Prop := as.length = rows.length ∧ ∀ (i : Nat) b r, as[i]? = some b → rows[i]? = some r → H b = some (.tup [.str r.1, f r.2])
theorem PT.keep {f : β → V} {H H' : Hp} {as : List Addr} {rows : List (PySem.Str × β)} (h : PT f H as rows) (k : ∀ b xs, H b = some (.tup xs) → H' b = some (.tup xs)) : PT f H' as rows := ⟨h.1, fun i b r e1 e2 => k _ _ (h.2 i b r e1 e2)⟩
theorem PT.snoc {f : β → V} {H : Hp} {as : List Addr} {rows : List (PySem.Str × β)} (h : PT f H as rows) {b : Addr} {r : PySem.Str × β} (hb : H b = some (.tup [.str r.1, f r.2])) : PT f H (as ++ [b]) (rows ++ [r]) := by
  refine ⟨by rw [List.length_append, List.length_append, h.1]; rfl, fun i c r' e1 e2 => ?_⟩
  by_cases hi : i < as.length
  · rw [List.getElem?_append_left hi] at e1
    rw [List.getElem?_append_left (by rw [← h.1]; exact hi)] at e2
    exact h.2 i c r' e1 e2
  · have hl := (List.getElem?_eq_some_iff.mp e1).1
    rw [List.length_append] at hl
    have ei : i = as.length := by simp at hl; omega
    rw [ei, List.getElem?_append_right (Nat.le_refl _), Nat.sub_self] at e1
    rw [ei, h.1, List.getElem?_append_right (Nat.le_refl _), Nat.sub_self] at e2
    cases Option.some.inj e1; cases Option.some.inj e2
    exact hb
theorem PT.paired {K : PySem.W.Frag} {f : β → V} {H : Hp} : ∀ {as : List Addr} {rows : List (PySem.Str × β)}, PT f H as rows → Paired (fun p kv => SqT K H p [kV kv.1, kv.2]) as (kvT f rows)
  | [], [], _ => .nil
  | a :: as, r :: rs, h => .cons (SqT.of (h.2 0 a r rfl rfl)) (PT.paired ⟨Nat.succ.inj h.1, fun i b y e1 e2 => h.2 (i + 1) b y e1 e2⟩)
  | [], _ :: _, h => nomatch h.1
  | _ :: _, [], h => nomatch h.1
theorem merge_T {f : β → V} {l : List (PySem.Str × β)} (nd : (keysT l).Nodup) : mergeK [] (kvT f l) = kvT f l := by
  have go : ∀ (b a : List (PySem.Str × β)), (keysT (a ++ b)).Nodup → mergeK (kvT f a) (kvT f b) = kvT f (a ++ b) := by
    intro b
    induction b with
    | nil => intro a _; rw [List.append_nil]; rfl
    | cons x b ih =>
      intro a nd
      have nx : x.1 ∉ keysT a := fun z => by
        unfold keysT at nd z
        rw [List.map_append] at nd
        exact (List.nodup_append.mp nd).2.2 _ z x.1 (by simp) rfl
      show mergeK (putK (kvT f a) (Sum.inr x.1) (f x.2)) (kvT f b) = _
      have e := put_new (f := f) (v := x.2) nx
      rw [e, ih (a ++ [(x.1, x.2)]) (by simpa using nd), List.append_assoc]
      rfl
  exact go l [] nd
def spMasts (K : PySem.W.Frag) : Sp := fun vs H Q _ => ∃ (M : List Addr) (d a : Addr) (mm : Int), vs = [.ref d, .int mm] ∧ 1 ≤ mm ∧ mm ≤ 4 ∧ Dr K M d a H ∧ ∀ (p : Addr) (H' : Hp) (chs : Chs) (n : Nat), H p = none → H' p = some (.dK (kvT vI chs)) → 1 ≤ n → n ≤ 4 → keysT chs = (List.range n).map mN → (∀ x ∈ chs, 0 ≤ x.2 ∧ x.2 ≤ 3) →
  Dr K M d a H' → Kp [d] H H' → Q (.ref p) H'
structure TxW (mg : PySem.Str → Option Value) : Prop where
  range : mg "range" = none
  str : mg "str" = none
  dict : mg "dict" = none
section
variable {P : Program} {w : World} {K : PySem.W.Frag} {mg : PySem.Str → Option Value} {base : Heap}
theorem scLM : FnScope ["draw", "most", "number"] ["draw", "most"] (defScope sLMasts) := ⟨rfl, rfl, rfl, by decide +kernel, rfl, by decide +kernel, by decide +kernel⟩
theorem ok_lmasts {f : Addr} {fd : FuncData} (F : Fun K "_law_masts" "_law_masts" sLMasts f fd) (T : TxW mg) (c__law_take : Cal P w K mg base 2 "_law_take" ["draw", "many"] (spTake K)) (c__law_pick : Cal P w K mg base 3 "_law_pick" ["draw", "items"] (spPick K)) : FnOk P w K mg base CX0 4 f fd ["draw", "most"] (spMasts K) := by
  refine F.ok scLM (fun vs H Q E h => ?_) (fun cdv A outer s H vs Q E hr h => ?_)
  · obtain ⟨M, d, a, mm, rfl, _⟩ := h
    rfl
  · obtain ⟨M, d, a, mm, rfl, hm1, hm4, D0, q⟩ := h
    refine ⟨_, (pss_one (ps_ret (pe_callTy (call_dictP rfl) (by rfl) T.dict boot_dict (pa_cons (pe_lc (own := [("number", 2)]) (g := gName 2) (tt := tYes) rfl scLM.nd (pi_range1 (by rfl) T.range (pa_cons (pe_op op_add pe_int (pe_cal c__law_take (hr.mono (by decide)) rfl (pa_cons (pv 0) (pa_cons (pv 1) pa_nil)))) pa_nil)) (blkOk_by (own := [("number", 2)]) (N := ["draw", "most", "number"]) (sc := defScope sLMasts) (by decide +kernel)) (fun _ _ _ _ _ => pg_name (i := 2) scLM.nd rfl (Or.inl rfl)) (fun _ _ _ _ _ => pts_nil) (fun _ _ _ _ _ => (pe_tup (pa_cons (pe_op op_add_str pe_str (pe_callTy call_str_int (by rfl) T.str boot_str (pa_cons (pv 2) pa_nil))) (pa_cons (pe_cal c__law_pick (hr.mono (by decide)) rfl (pa_cons (pv 0) (pa_cons (pe_lst (pa_cons pe_int (pa_cons pe_int (pa_cons pe_int (pa_cons pe_int (pa_cons pe_int (pa_cons pe_int (pa_cons pe_int pa_nil)))))))) pa_nil))) pa_nil))))) pa_nil)))), ?_⟩
    refine ⟨_, rfl, _, rfl, M, d, a, mm, rfl, D0, by omega, fun v H1 h0 h4 D1 k1 => ?_⟩
    have hn4 : (1 + v).toNat ≤ 4 := by omega
    refine ⟨_, _, rfl, rfl, 1 + v, rfl, by omega, by omega, fun D hD => ?_⟩
    have dD : d ≠ D := by obtain ⟨⟨k, hk⟩, _⟩ := D1; exact ne_of_none hk hD
    refine lc_range (lo := 0) (n := (1 + v).toNat) (fun i H' => ∃ (as : List Addr) (rows : Chs), as.length = i ∧ keysT rows = (List.range i).map mN ∧ (∀ x ∈ rows, 0 ≤ x.2 ∧ x.2 ≤ 3) ∧ Dr K (D :: M) d a H' ∧ Kp [d] H1 H' ∧ H' D = some (.lst (as.map V.ref)) ∧ PT vI H' as rows)
      ⟨[], [], rfl, rfl, fun x h => (nomatch h), (D1.grow hD).new hD, Kp.new hD, upd_same, rfl, fun i b r e => (nomatch e)⟩ ?_ ?_
    · rintro i H2 hi ⟨as, rows, hla, hk, h03, D2, k2, hd2, hP⟩
      have hi4 : i < 4 := by omega
      refine ⟨rfl, _, rfl, (0 : Int) + (i : Int), rfl, nN_small i (by omega), _, _, rfl, rfl, mN_len i (by omega), _, rfl, (by show 7 ≤ sizeLine; decide), fun l hl => ?_⟩
      refine ⟨D :: M, d, a, l, _, rfl, D2.new hl, by decide, fun H' k' => .inl (SqL.of (k' _ _ upd_same ?_)), fun j x H3 hx D3 k3 => ?_⟩
      · intro z
        obtain ⟨⟨kk, hkk⟩, _⟩ := D2
        exact ne_of_none hkk hl (List.mem_singleton.mp z).symm
      · obtain ⟨n, rfl, n0, n3⟩ : ∃ n : Int, x = .int n ∧ 0 ≤ n ∧ n ≤ 3 := by
          have hm := List.mem_of_getElem? hx
          simp only [List.mem_cons, List.not_mem_nil, or_false] at hm
          rcases hm with rfl | rfl | rfl | rfl | rfl | rfl | rfl <;> exact ⟨_, rfl, by decide, by decide⟩
        have dl : d ≠ l := by obtain ⟨⟨kk, hkk⟩, _⟩ := D2; exact ne_of_none hkk hl
        have far : ∀ b o, H2 b = some o → b ≠ d → H3 b = some o := fun b o z nd => k3 b o (by rw [upd_ne (ne_of_none z hl)]; exact z) fun e => nd (List.mem_singleton.mp e)
        have hD3 := far D _ hd2 dD.symm
        have hdt : ∀ {b : Addr} {xs : List V}, H2 b = some (.tup xs) → b ≠ d := fun {b xs} z e => by
          obtain ⟨⟨kk, hkk⟩, _⟩ := D2
          rw [e, hkk] at z; cases z
        refine ⟨(by show 2 ≤ sizeLine; decide), fun b hb => ⟨_, by rw [upd_ne (ne_of_none hD3 hb)]; exact hD3, by rw [List.length_map, hla]; exact Nat.lt_trans hi4 (by decide), as ++ [b], rows ++ [(mN i, n)], by rw [List.length_append, hla]; rfl, ?_, fun y hy => ?_, ?_, fun y o z ny => ?_, by rw [upd_same, List.map_append]; rfl, ?_⟩⟩
        · unfold keysT at hk ⊢
          rw [List.map_append, hk, List.range_succ, List.map_append]; rfl
        · rcases List.mem_append.mp hy with hy | hy
          · exact h03 y hy
          · cases List.mem_singleton.mp hy; exact ⟨n0, n3⟩
        · exact (D3.new hb).keep (Kp.at (by simp)) fun o z => by rw [upd_ne dD]; exact z
        · have z2 := k2 y o z ny
          have nD : y ≠ D := ne_of_none z hD
          have z3 := far y o z2 fun e => ny (List.mem_singleton.mpr e)
          rw [upd_ne nD, upd_ne (ne_of_none z3 hb)]; exact z3
        · have nbD : b ≠ D := (ne_of_none hD3 hb).symm
          refine (hP.keep fun c xs z => ?_).snoc (by rw [upd_ne nbD]; exact upd_same)
          have cD : c ≠ D := fun e => by rw [e, hd2] at z; cases z
          have z3 := far c _ z (hdt z)
          rw [upd_ne cD, upd_ne (ne_of_none z3 hb)]; exact z3
    · rintro H2 ⟨as, rows, hla, hk, h03, D2, k2, hd2, hP⟩
      refine ⟨D, as, kvT vI rows, rfl, SqL.of hd2, hP.paired, fun p hp => ?_⟩
      have ndk : (keysT rows).Nodup := by rw [hk]; exact range_nd mN_inj (by omega)
      rw [merge_T ndk]
      have hp0 : H p = none := Classical.byContradiction fun z => by
        cases e : H p with
        | none => exact z e
        | some o =>
          by_cases pd : p = d
          · obtain ⟨⟨kk, hkk⟩, _⟩ := D2
            rw [pd, hkk] at hp; cases hp
          · have z1 := k1 p o e fun w => pd (List.mem_singleton.mp w)
            rw [k2 p o z1 fun w => pd (List.mem_singleton.mp w)] at hp; cases hp
      refine q p _ rows (1 + v).toNat hp0 upd_same (by omega) hn4 hk h03 ?_ fun b o z nb => ?_
      · exact (D2.sub (N := M) (fun b hb => List.mem_cons_of_mem _ hb) D0.mem).new hp
      · have z2 := k2 b o (k1 b o z nb) nb
        rw [upd_ne (ne_of_none z2 hp)]; exact z2
end
theorem Dr.lock {K : PySem.W.Frag} {M : List Addr} {d a ch : Addr} {H : Hp} {kvs : List (L2.Key × V)} (D : Dr K M d a H) (h : H ch = some (.dK kvs)) : Dr K (ch :: M) d a H := by
  obtain ⟨k0, m, ns, hl, hs⟩ := D
  refine ⟨k0, List.mem_cons_of_mem _ m, ns, hl, fun H' k => ?_⟩
  have s := hs (fun b => if b = ch then H ch else H' b) fun b o z nb => by
    by_cases e : b = ch
    · show (if b = ch then H ch else H' b) = _
      rw [if_pos e, ← e]; exact z
    · show (if b = ch then H ch else H' b) = _
      rw [if_neg e]; exact k b o z fun w => (List.mem_cons.mp w).elim e nb
  by_cases e : a = ch
  · rcases s with (s | ⟨o, s⟩) | s
    · have s : (if a = ch then H ch else H' a) = _ := s
      rw [if_pos e, h] at s; cases s
    · have s : (if a = ch then H ch else H' a) = _ := s
      rw [if_pos e, h] at s; cases s
    · exact .inr s
  · rcases s with (s | ⟨o, s⟩) | s
    · have s : (if a = ch then H ch else H' a) = _ := s
      rw [if_neg e] at s; exact .inl (.inl s)
    · have s : (if a = ch then H ch else H' a) = _ := s
      rw [if_neg e] at s; exact .inl (.inr ⟨o, s⟩)
    · exact .inr s
def spHeard (K : PySem.W.Frag) : Sp := fun vs H Q _ => ∃ (M : List Addr) (d a ch : Addr) (chs : Chs), vs = [.ref d, .ref ch] ∧ Dr K M d a H ∧ H ch = some (.dK (kvT vI chs)) ∧ chs.length < 64 ∧
  ∀ (p : Addr) (H' : Hp) (hs : List PySem.Str), H p = none → H' p = some (.lst (hs.map V.str)) → hs.Sublist (keysT chs) → Dr K M d a H' → Kp [d] H H' → Q (.ref p) H'
section
variable {P : Program} {w : World} {K : PySem.W.Frag} {mg : PySem.Str → Option Value} {base : Heap}
theorem scLHd : FnScope ["draw", "channels", "mast"] ["draw", "channels"] (defScope sLHeard) := ⟨rfl, rfl, rfl, by decide +kernel, rfl, by decide +kernel, by decide +kernel⟩
theorem ok_lheard {f : Addr} {fd : FuncData} (F : Fun K "_law_heard" "_law_heard" sLHeard f fd) (c__law_take : Cal P w K mg base 2 "_law_take" ["draw", "many"] (spTake K)) : FnOk P w K mg base CX0 3 f fd ["draw", "channels"] (spHeard K) := by
  refine F.ok scLHd (fun vs H Q E h => ?_) (fun cdv A outer s H vs Q E hr h => ?_)
  · obtain ⟨M, d, a, ch, chs, rfl, _⟩ := h
    rfl
  · obtain ⟨M, d, a, ch, chs, rfl, D0, hch, hlen, q⟩ := h
    refine ⟨_, (pss_one (ps_ret (pe_lock (pe_lc (own := [("mast", 2)]) (g := gName 2) rfl scLHd.nd (pi_keys (pv 1)) (blkOk_by (own := [("mast", 2)]) (N := ["draw", "channels", "mast"]) (sc := defScope sLHeard) (by decide +kernel)) (fun _ _ _ _ _ => pg_name (i := 2) scLHd.nd rfl (Or.inl rfl)) (fun _ _ _ _ _ => pts_one (pt_cmpR op_eq (pe_cal c__law_take (hr.mono (by decide)) rfl (pa_cons (pv 0) (pa_cons pe_int pa_nil))) pe_int (nomark _))) (fun _ _ _ _ _ => (pv 2)))))), ?_⟩
    have dch : d ≠ ch := fun e => by obtain ⟨⟨k, hk⟩, _⟩ := D0; rw [e, hch] at hk; cases hk
    refine ⟨ch, _, hch, trivial, fun od => ⟨_, rfl, ch, od, rfl, .inl ⟨_, upd_same, fun D hD => ?_⟩⟩⟩
    have DL : Dr K (ch :: M) d a (upd H ch (.frz od (.dK (kvT vI chs)))) := (D0.lock hch).keep (Kp.at (by simp)) fun o z => by rw [upd_ne dch]; exact z
    have dD : d ≠ D := by obtain ⟨⟨k, hk⟩, _⟩ := DL; exact ne_of_none hk hD
    have cD : ch ≠ D := ne_of_none (show (upd H ch (.frz od (.dK (kvT vI chs)))) ch = some _ from upd_same) hD
    have hD0 : H D = none := by rw [upd_ne cD.symm] at hD; exact hD
    refine lc_it walk_keys (fun i H' => ∃ hs : List PySem.Str, hs.Sublist ((keysT chs).take i) ∧ Dr K (D :: ch :: M) d a H' ∧ Kp [d] (upd H ch (.frz od (.dK (kvT vI chs)))) H' ∧ H' D = some (.lst (hs.map V.str))) ⟨[], List.Sublist.refl _, (DL.grow hD).new hD, Kp.new hD, upd_same⟩
      (fun i H' _ ⟨hs, _, _, k, _⟩ => k ch _ upd_same fun e => dch (List.mem_singleton.mp e).symm) ?_ ?_
    · rintro i v _ H1 hi ⟨hs, hsub, D1, k1, hd1⟩ ⟨rfl, kk, v', hk, rfl⟩
      obtain ⟨z, hz, rfl, rfl⟩ := kvT_get hk
      have et : (keysT chs).take (i + 1) = (keysT chs).take i ++ [z.1] := by unfold keysT; rw [List.take_add_one, List.getElem?_map, hz]; rfl
      refine ⟨rfl, _, rfl, D :: ch :: M, d, a, 2, rfl, D1, by decide, fun v H2 _ _ D2 k2 => ⟨rfl, _, rfl, ?_⟩⟩
      have hd2 := k2 D _ hd1 fun e => dD (List.mem_singleton.mp e).symm
      refine ite2 (fun h => ?_) (fun h => ?_)
      · refine ⟨_, rfl, _, hd2, ?_, hs ++ [z.1], ?_, ?_, fun b o e nb => ?_, by rw [upd_same, List.map_append]; rfl⟩
        · rw [List.length_map]
          exact Nat.lt_of_le_of_lt (Nat.le_trans hsub.length_le (by rw [List.length_take]; exact Nat.min_le_right _ _)) (by unfold keysT; rw [List.length_map]; exact Nat.lt_trans hlen (by decide))
        · rw [et]; exact hsub.append (List.Sublist.refl _)
        · exact D2.keep (Kp.at (by simp)) fun o z => by rw [upd_ne dD]; exact z
        · rw [upd_ne (ne_of_none e hD)]; exact k2 b o (k1 b o e nb) nb
      · exact ⟨hs, by rw [et]; exact hsub.trans (List.sublist_append_left _ _), D2, k1.trans k2, hd2⟩
    · rintro H1 ⟨hs, hsub, D1, k1, hd1⟩
      rw [show (kvT vI chs).length = (keysT chs).length by unfold kvT keysT; rw [List.length_map, List.length_map], List.take_length] at hsub
      have hc1 := k1 ch _ upd_same fun e => dch (List.mem_singleton.mp e).symm
      refine ⟨hc1, ?_⟩
      refine q D _ hs hD0 (by rw [upd_ne cD.symm]; exact hd1) hsub ?_ fun b o z nb => ?_
      · exact (D1.keep (Kp.at (by simp)) fun o z => by rw [upd_ne dch]; exact z).sub (fun b hb => by simp [hb]) D0.mem
      · by_cases e : b = ch
        · rw [e, upd_same, ← hch, ← e]; exact z
        · rw [upd_ne e]; exact k1 b o (by rw [upd_ne e]; exact z) nb
end
theorem nolst {H : Hp} {d a : Addr} {M : List Addr} {K : PySem.W.Frag} (D : Dr K M d a H) {b : Addr} {o : HO} (z : H b = some o) (n : ∀ l, o ≠ .lst l) : b ∉ [d] := fun e => by
  obtain ⟨⟨k, hk⟩, _⟩ := D
  rw [List.mem_singleton.mp e, hk] at z
  exact n _ (Option.some.inj z).symm
theorem CallH.kp {K : PySem.W.Frag} {C : Addr} {H H' : Hp} {o : Addr} {wt : Int} {hs : List PySem.Str} {M : List Addr} (h : CallH K C H o wt hs) (k : Kp M H H') (n : ∀ b o, H b = some o → (∀ l, o ≠ .lst l) → b ∉ M ∨ H' b = some o) : CallH K C H' o wt hs := by
  obtain ⟨dx, q, a, b⟩ := h.here
  exact ⟨dx, q, (n _ _ a (fun _ e => by cases e)).elim (k _ _ a) id, (n _ _ b (fun _ e => by cases e)).elim (k _ _ b) id⟩
def SmallS (chs : Chs) (cls : Cls') : Prop := 0 < chs.length ∧ (∀ x ∈ chs, x.2 ≤ 3) ∧ (∀ x ∈ cls, x.2.2.1 ≤ 2) ∧ ∀ m ∈ keysT chs, ∃ j, j < 4 ∧ m = mN j
def spScene (K : PySem.W.Frag) (CS CC : Addr) : Sp := fun vs H Q _ => ∃ (M : List Addr) (d a : Addr) (mm n : Int), vs = [.ref d, .int mm, .int n] ∧ 1 ≤ mm ∧ mm ≤ 4 ∧ 0 ≤ n ∧ n ≤ 7 ∧ Dr K M d a H ∧
  ∀ (sc : Addr) (H' : Hp) (chs : Chs) (cls : Cls'), H sc = none → SceneH K CS CC H' sc chs cls → ScnX CS H' sc chs cls → OkC chs cls → (∀ x ∈ keysT cls, ∃ j, j < 8 ∧ x = cN j) → cls.length ≤ 7 → chs.length ≤ 4 → SmallS chs cls → Dr K M d a H' → Kp [d] H H' → Q (.ref sc) H'
section
variable {P : Program} {w : World} {K : PySem.W.Frag} {mg : PySem.Str → Option Value} {base : Heap}
theorem scLS : FnScope ["draw", "masts", "calls", "channels", "found", "number"] ["draw", "masts", "calls"] (defScope sLScene) := ⟨rfl, rfl, rfl, by decide +kernel, rfl, by decide +kernel, by decide +kernel⟩
theorem ok_lscene {f CS CC : Addr} {fd : FuncData} (F : Fun K "_law_scene" "_law_scene" sLScene f fd) (T : TxW mg) (c__law_take : Cal P w K mg base 2 "_law_take" ["draw", "many"] (spTake K)) (c__law_masts : Cal P w K mg base 4 "_law_masts" ["draw", "most"] (spMasts K))
    (c__law_heard : Cal P w K mg base 3 "_law_heard" ["draw", "channels"] (spHeard K)) (c_Call : CalI P w K mg base CC 1 "Call" ["self", "worth", "heard"] (spCInit K CC)) (c_Scene : CalI P w K mg base CS 4 "Scene" ["self", "channels", "calls"] (spSInit K CS CC)) :
    FnOk P w K mg base CX0 6 f fd ["draw", "masts", "calls"] (spScene K CS CC) := by
  refine F.ok scLS (fun vs H Q E h => ?_) (fun cdv A outer s H vs Q E hr h => ?_)
  · obtain ⟨M, d, a, mm, n, rfl, _⟩ := h
    rfl
  · obtain ⟨M, d, a, mm, n, rfl, hm1, hm4, hn0, hn6, D0, q⟩ := h
    have hu := hu_of hr
    refine ⟨_, (pss_cons (ps_par (i := 3) (j := 4) rfl scLS.nd rfl rfl (by decide) rfl rfl (pa_cons (pe_cal c__law_masts (hr.mono (by decide)) rfl (pa_cons (pv 0) (pa_cons (pv 1) pa_nil))) (pa_cons pe_dnewK pa_nil)) (by rfl))
      (pss_cons (ps_for PassesOwn.never rfl (pi_range1 (by rfl) T.range (pa_cons (pe_cal c__law_take (hr.mono (by decide)) rfl (pa_cons (pv 0) (pa_cons (pe_op op_add (pv 2) pe_int) pa_nil))) pa_nil)) (pg_name (i := 5) scLS.nd rfl (Or.inl rfl))
        (pss_one (ps_dput hu (pv 4) (pe_op op_add_str pe_str (pe_callTy call_str_int (by rfl) T.str boot_str (pa_cons (pv 5) pa_nil))) (pe_calI c_Call (hr.mono (by decide)) rfl (pa_cons (pe_cal c__law_take (hr.mono (by decide)) rfl (pa_cons (pv 0) (pa_cons pe_int pa_nil))) (pa_cons (pe_cal c__law_heard (hr.mono (by decide)) rfl (pa_cons (pv 0) (pa_cons (pv 3) pa_nil))) pa_nil))) rfl)))
      (pss_one (ps_ret (pe_calI c_Scene (hr.mono (by decide)) rfl (pa_cons (pv 3) (pa_cons (pv 4) pa_nil))))))), ?_⟩
    refine ⟨_, rfl, _, rfl, M, d, a, mm, rfl, hm1, hm4, D0, fun ch H1 chs nm hch0 hch n1 n4 hk h03 D1 k1 => ?_⟩
    intro f hf
    have chf : ch ≠ f := ne_of_none hch hf
    refine ⟨_, _, rfl, ?_⟩
    have s2 : Same H1 (upd H1 f (.dK [])) := fun b o z => by rw [upd_ne (ne_of_none z hf)]; exact z
    have hf2 : (upd H1 f (.dK [])) f = some (.dK []) := upd_same
    generalize (upd H1 f (.dK [])) = H2 at s2 hf2 ⊢
    have D2 := (D1.same s2).lock hf2
    have hch2 := s2 _ _ hch
    have ndk : (keysT chs).Nodup := by rw [hk]; exact range_nd mN_inj (by omega)
    have lenk : chs.length ≤ 4 := by have := congrArg List.length hk; unfold keysT at this; simp at this; omega
    have dlst : ∀ {H' M'}, Dr K M' d a H' → ∀ {b o}, H' b = some o → (∀ l, o ≠ .lst l) → b ≠ d := fun D b o z n e => nolst D z n (by rw [e]; simp)
    refine ⟨_, rfl, _, rfl, _, _, rfl, rfl, f :: M, d, a, n + 1, rfl, D2, by omega, fun v H3 v0 v1 D3 k3 => ⟨v, rfl, by omega, by omega, ?_⟩⟩
    have df : d ≠ f := (dlst D2 hf2 (fun _ e => by cases e)).symm
    have hf3 := k3 f _ hf2 fun e => df (List.mem_singleton.mp e).symm
    have hch3 := k3 ch _ hch2 (nolst D2 hch2 fun _ e => by cases e)
    refine for_range (lo := 0) (n := v.toNat) (fun i σ H' => ∃ cls v5, σ = [some (.ref d), some (.int mm), some (.int n), some (.ref ch), some (.ref f), v5] ∧ Dr K (f :: M) d a H' ∧ Kp [d, f] H3 H' ∧ H' f = some (.dK (kvT vO cls)) ∧ keysT cls = (List.range i).map cN ∧ CallsH K CC H' cls ∧
      ∀ x ∈ cls, 0 ≤ x.2.2.1 ∧ x.2.2.1 ≤ 2 ∧ x.2.2.2.Nodup ∧ x.2.2.2.length < 64 ∧ ∀ m ∈ x.2.2.2, m ∈ keysT chs) ⟨[], _, rfl, D3, Kp.refl _ _, hf3, rfl, fun x h => (nomatch h), fun x h => (nomatch h)⟩ ?_ ?_
    · rintro i σ H4 hi ⟨cls, v5, rfl, D4, k4, hf4, hk4, hC4, hg4⟩
      have hi6 : i < 8 := by omega
      have hch4 := k4 ch _ hch3 (by simp; exact ⟨dlst D3 hch3 (fun _ e => by cases e), chf⟩)
      refine ⟨_, rfl, f :: M, d, a, 3, rfl, D4, by decide, fun wt H5 w0 w3 D5 k5 => ?_⟩
      have hch5 := k5 ch _ hch4 (nolst D4 hch4 fun _ e => by cases e)
      refine ⟨_, rfl, _, rfl, f :: M, d, a, ch, chs, rfl, D5, hch5, by omega, fun l H6 hs hl0 hl hsub D6 k6 => ?_⟩
      intro p dx hp hdx ndx
      have ndh : hs.Nodup := hsub.nodup ndk
      have lenh : hs.length < 64 := Nat.lt_of_le_of_lt hsub.length_le (by unfold keysT; rw [List.length_map]; omega)
      have s67 : Same H6 (upd (upd H6 dx (.own p)) p (.ins CC dx [])) := fun b o z => by rw [upd_ne (ne_of_none z hp), upd_ne (ne_of_none z hdx)]; exact z
      have hp7 : (upd (upd H6 dx (.own p)) p (.ins CC dx [])) p = some (.ins CC dx []) := upd_same
      generalize (upd (upd H6 dx (.own p)) p (.ins CC dx [])) = H7 at s67 hp7 ⊢
      refine ⟨p, dx, l, wt, hs, rfl, hp7, s67 _ _ hl, lenh, fun ys H8 hperm _ hcall k8 => ⟨rfl, ?_⟩⟩
      have s68 : Same H6 H8 := fun b o z => k8 b o (s67 _ _ z) fun e => by rw [List.mem_singleton.mp e, hp] at z; cases z
      have far : ∀ b o, H4 b = some o → b ≠ d → H8 b = some o := fun b o z n => s68 _ _ (k6 b o (k5 b o z fun e => n (List.mem_singleton.mp e)) fun e => n (List.mem_singleton.mp e))
      have D8 := D6.same s68
      have hf8 := far f _ hf4 df.symm
      have nk : cN i ∉ keysT cls := fun z => by
        rw [hk4] at z
        obtain ⟨j, hj, e⟩ := List.mem_map.mp z
        have hj' := List.mem_range.mp hj
        have := cN_inj j (by omega) i hi6 e
        omega
      have lenc : cls.length = i := by have := congrArg List.length hk4; unfold keysT at this; simpa using this
      refine ⟨_, rfl, _, rfl, (0 : Int) + (i : Int), rfl, nN_small i hi6, _, _, rfl, rfl, cN_len i hi6, f, _, rfl, DPut.k (k := Sum.inr (cN i)) hf8 (by unfold kvT; rw [List.length_map, lenc]; exact Nat.lt_trans hi6 (by decide)), ?_⟩
      have ep := put_new (f := vO) (v := ((p, wt, ys) : CD)) nk
      refine ⟨cls ++ [(cN i, (p, wt, ys))], _, rfl, D8.keep (Kp.at (by simp)) fun o z => by rw [upd_ne df]; exact z, fun b o z nb => ?_, by rw [upd_same]; exact congrArg _ (congrArg _ ep), ?_, fun x hx => ?_, fun x hx => ?_⟩
      · have nb' : b ≠ d ∧ b ≠ f := by simp at nb; exact nb
        rw [upd_ne nb'.2]; exact far b o (k4 b o z nb) nb'.1
      · unfold keysT at hk4 ⊢
        rw [List.map_append, hk4, List.range_succ, List.map_append]; rfl
      · rcases List.mem_append.mp hx with hx | hx
        · obtain ⟨dx', h', a1, a2⟩ := (hC4 x hx).here
          have f1 : x.2.1 ≠ f := fun e => by rw [e, hf4] at a1; cases a1
          have f2 : h' ≠ f := fun e => by rw [e, hf4] at a2; cases a2
          exact ⟨dx', h', by rw [upd_ne f1]; exact far _ _ a1 (dlst D4 a1 fun _ e => by cases e), by rw [upd_ne f2]; exact far _ _ a2 (dlst D4 a2 fun _ e => by cases e)⟩
        · cases List.mem_singleton.mp hx
          obtain ⟨dx', h', a1, a2⟩ := hcall.here
          have f1 : p ≠ f := fun e => by rw [e, hf8] at a1; cases a1
          have f2 : h' ≠ f := fun e => by rw [e, hf8] at a2; cases a2
          exact ⟨dx', h', by show upd _ _ _ p = _; rw [upd_ne f1]; exact a1, by rw [upd_ne f2]; exact a2⟩
      · rcases List.mem_append.mp hx with hx | hx
        · exact hg4 x hx
        · cases List.mem_singleton.mp hx
          exact ⟨w0, by show wt ≤ 2; omega, hperm.nodup_iff.mpr ndh, by show ys.length < 64; rw [hperm.length_eq]; exact lenh, fun m hm => hsub.subset (hperm.mem_iff.mp hm)⟩
    · rintro σ H4 ⟨cls, v5, rfl, D4, k4, hf4, hk4, hC4, hg4⟩
      have hch4 := k4 ch _ hch3 (by simp; exact ⟨dlst D3 hch3 (fun _ e => by cases e), chf⟩)
      have lenc : cls.length = v.toNat := by have := congrArg List.length hk4; unfold keysT at this; simpa using this
      have ok : OkC chs cls := by
        refine ⟨ndk, by rw [hk4]; exact range_nd cN_inj (by omega), by omega, by omega, fun x hx => ?_, fun x hx => ?_⟩
        · have hm : x.1 ∈ keysT chs := List.mem_map.mpr ⟨x, hx, rfl⟩
          rw [hk] at hm
          obtain ⟨j, hj, e⟩ := List.mem_map.mp hm
          have hj' := List.mem_range.mp hj
          exact ⟨by rw [← e]; exact mN_ok j (by omega), (h03 x hx).1, by have := (h03 x hx).2; omega⟩
        · have hm : x.1 ∈ keysT cls := List.mem_map.mpr ⟨x, hx, rfl⟩
          rw [hk4] at hm
          obtain ⟨j, hj, e⟩ := List.mem_map.mp hm
          have hj' := List.mem_range.mp hj
          obtain ⟨g1, g2, g3, g4, g5⟩ := hg4 x hx
          exact ⟨by rw [← e]; exact cN_ok j (by omega), g1, by omega, g3, g4, g5⟩
      refine ⟨_, rfl, _, rfl, ?_⟩
      intro p dx hp hdx ndx
      have s45 : Same H4 (upd (upd H4 dx (.own p)) p (.ins CS dx [])) := fun b o z => by rw [upd_ne (ne_of_none z hp), upd_ne (ne_of_none z hdx)]; exact z
      have hp5 : (upd (upd H4 dx (.own p)) p (.ins CS dx [])) p = some (.ins CS dx []) := upd_same
      generalize (upd (upd H4 dx (.own p)) p (.ins CS dx [])) = H5 at s45 hp5 ⊢
      refine ⟨p, dx, ch, f, chs, cls, rfl, chf, hp5, s45 _ _ hch4, s45 _ _ hf4, ok, hC4.same s45, fun chs' cls' H6 pc1 pc2 hSc hXc k6 => ⟨rfl, ?_⟩⟩
      have s46 : Same H4 H6 := fun b o z => k6 b o (s45 _ _ z) fun e => by rw [List.mem_singleton.mp e, hp] at z; cases z
      have far : ∀ b o, H b = some o → b ≠ d → H4 b = some o := fun b o z n => by
        have z1 := k1 b o z fun e => n (List.mem_singleton.mp e)
        have nf : b ≠ f := ne_of_none z1 hf
        exact k4 b o (k3 b o (s2 b o z1) fun e => n (List.mem_singleton.mp e)) (by simp; exact ⟨n, nf⟩)
      have hp0 : H p = none := Classical.byContradiction fun z => by
        cases e : H p with
        | none => exact z e
        | some o =>
          have pd : p ≠ d := fun w => by
            obtain ⟨⟨kk, hkk⟩, _⟩ := D4
            rw [w, hkk] at hp; cases hp
          rw [far p o e pd] at hp; cases hp
      have kc1 : (keysT chs').Perm (keysT chs) := pc1.map _
      have kc2 : (keysT cls').Perm (keysT cls) := pc2.map _
      have ok' : OkC chs' cls' := by
        refine ⟨kc1.nodup_iff.mpr ok.nd, kc2.nodup_iff.mpr ok.ndc, by rw [pc1.length_eq]; exact ok.len, by rw [pc2.length_eq]; exact ok.lenc, fun x hx => ok.ch x (pc1.mem_iff.mp hx), fun x hx => ?_⟩
        obtain ⟨g0, g1, g2, g3, g4, g5⟩ := ok.cl x (pc2.mem_iff.mp hx)
        exact ⟨g0, g1, g2, g3, g4, fun m hm => kc1.mem_iff.mpr (g5 m hm)⟩
      refine q p H6 chs' cls' hp0 hSc hXc ok' (fun x hx => ?_) (by rw [pc2.length_eq, lenc]; omega) (by rw [pc1.length_eq]; exact lenk) ⟨by rw [pc1.length_eq]; have := congrArg List.length hk; unfold keysT at this; simp at this; omega, fun x hx => (h03 x (pc1.mem_iff.mp hx)).2, fun x hx => (hg4 x (pc2.mem_iff.mp hx)).2.1, fun m hm => by
        have hm := kc1.mem_iff.mp hm
        rw [hk] at hm
        obtain ⟨j, hj, e⟩ := List.mem_map.mp hm
        exact ⟨j, by have := List.mem_range.mp hj; omega, e.symm⟩⟩ ((D4.same s46).sub (N := M) (fun b hb => List.mem_cons_of_mem _ hb) D0.mem) fun b o z nb => s46 _ _ (far b o z fun e => nb (List.mem_singleton.mpr e))
      have hm := kc2.mem_iff.mp hx
      rw [hk4] at hm
      obtain ⟨j, hj, e⟩ := List.mem_map.mp hm
      exact ⟨j, by have := List.mem_range.mp hj; omega, e.symm⟩
end
end Mc
namespace Mc.Gd
section
variable {α : Type} [DecidableEq α]
/-! ### seatable rows: the exchange, the greedy row, what more room and fewer calls do -/
def cntF (A : List α) (f : α → α) (m : α) : Nat := (A.filter fun c => decide (f c = m)).length
theorem cntF_nil (f : α → α) (m : α) : cntF [] f m = 0 := rfl
theorem cntF_cons (a : α) (A : List α) (f : α → α) (m : α) : cntF (a :: A) f m = (if f a = m then 1 else 0) + cntF A f m := by
  unfold cntF
  rw [List.filter_cons]
  by_cases e : f a = m
  · rw [if_pos e, if_pos (decide_eq_true e), List.length_cons]; omega
  · rw [if_neg e, if_neg (by simp [e])]; omega
theorem cntF_app (A B : List α) (f : α → α) (m : α) : cntF (A ++ B) f m = cntF A f m + cntF B f m := by
  unfold cntF
  rw [List.filter_append, List.length_append]
theorem cntF_pos {A : List α} {f : α → α} {m : α} (h : 0 < cntF A f m) : ∃ a ∈ A, f a = m := by
  obtain ⟨a, ha⟩ := List.exists_mem_of_length_pos h
  exact ⟨a, (List.mem_filter.mp ha).1, of_decide_eq_true (List.mem_filter.mp ha).2⟩
theorem cntF_congr {A : List α} {f g : α → α} {m : α} (h : ∀ a ∈ A, f a = g a) : cntF A f m = cntF A g m := by
  unfold cntF
  rw [List.filter_congr fun a ha => by rw [h a ha]]
/-- counts at each place of R bound the lengths -/
theorem cnt_len (R : α → Prop) [DecidablePred R] (f g : α → α) : ∀ (B A : List α), (∀ b ∈ B, R (f b)) → (∀ m, R m → cntF B f m ≤ cntF A g m) → B.length ≤ (A.filter fun a => decide (R (g a))).length
  | [], _, _, _ => Nat.zero_le _
  | b :: B, A, h, k => by
    have hb := h b (by simp)
    have k0 := k _ hb
    rw [cntF_cons, if_pos rfl] at k0
    obtain ⟨a, ha, e⟩ := cntF_pos (A := A) (f := g) (m := f b) (by omega)
    obtain ⟨A1, A2, rfl⟩ := List.append_of_mem ha
    have ih := cnt_len R f g B (A1 ++ A2) (fun x hx => h x (List.mem_cons_of_mem _ hx)) fun m hm => by
      have := k m hm
      rw [cntF_cons, cntF_app, cntF_cons, e] at this
      rw [cntF_app]
      split at this <;> omega
    rw [List.filter_append, List.length_append] at ih ⊢
    rw [List.filter_cons, if_pos (by rw [e]; exact decide_eq_true hb), List.length_cons, List.length_cons]
    omega
/-- the masts that are come to in n moves from some calls Z, J seated by T -/
def Dl (X : Sc α) (Z J : List α) (T : α → α) : Nat → α → Prop
  | 0, m => ∃ z ∈ Z, m ∈ X.heard z
  | n + 1, m => ∃ c ∈ J, Dl X Z J T n (T c) ∧ m ∈ X.heard c
theorem right_cnt {X : Sc α} {J : List α} {T : α → α} (h : Right X J T) (m : α) : cntF J T m ≤ X.cap m := h.2 m
theorem cnt_set {J : List α} (nd : J.Nodup) {T : α → α} {c m : α} (hc : c ∈ J) (x : α) (hm : T c ≠ m) : cntF J (fun y => if y = c then m else T y) x = if x = m then cntF J T x + 1 else if x = T c then cntF J T x - 1 else cntF J T x := by
  obtain ⟨A, B, rfl⟩ := List.append_of_mem hc
  have h := List.nodup_append.mp nd
  have nA : ∀ y ∈ A, y ≠ c := fun y hy e => h.2.2 y hy c (by simp) e
  have nB : ∀ y ∈ B, y ≠ c := fun y hy e => (List.nodup_cons.mp h.2.1).1 (by rw [← e]; exact hy)
  have eA : cntF A (fun y => if y = c then m else T y) x = cntF A T x := cntF_congr fun a ha => if_neg (nA a ha)
  have eB : cntF B (fun y => if y = c then m else T y) x = cntF B T x := cntF_congr fun a ha => if_neg (nB a ha)
  rw [cntF_app, cntF_cons, cntF_app, cntF_cons, eA, eB, if_pos rfl]
  by_cases e1 : x = m
  · subst e1
    rw [if_pos rfl, if_pos rfl, if_neg hm]; omega
  · rw [if_neg (Ne.symm e1), if_neg e1]
    by_cases e2 : x = T c
    · rw [if_pos e2.symm, if_pos e2]; omega
    · rw [if_neg (Ne.symm e2), if_neg e2]
theorem Dl.moved {X : Sc α} {Z J : List α} {T : α → α} {c m : α} : ∀ {j : Nat} {x : α}, Dl X Z J T j x → (∀ i, i < j → ¬ Dl X Z J T i (T c)) → Dl X Z J (fun y => if y = c then m else T y) j x
  | 0, _, h, _ => h
  | j + 1, x, ⟨d, hd, h, hx⟩, k => by
    have ne : d ≠ c := fun e => by subst e; exact k j (Nat.lt_succ_self _) h
    refine ⟨d, hd, ?_, hx⟩
    show Dl X Z J _ j (if d = c then m else T d)
    rw [if_neg ne]
    exact Dl.moved h fun i hi => k i (Nat.lt_succ_of_lt hi)
theorem aug {X : Sc α} {Z J : List α} (nd : J.Nodup) : ∀ (n : Nat) (T : α → α) (m : α), Right X J T → Dl X Z J T n m → cntF J T m < X.cap m → (∀ z ∈ Z, z ∉ J) → ∃ z ∈ Z, Seatable X (J ++ [z]) := by
  intro n
  induction n using Nat.strongRecOn with
  | ind n ih =>
    intro T m hT hD hr hZ
    cases n with
    | zero =>
      obtain ⟨z, hz, hm⟩ := hD
      refine ⟨z, hz, fun y => if y = z then m else T y, fun c hc => ?_, fun x => ?_⟩
      · rcases List.mem_append.mp hc with h | h
        · show (if c = z then m else T c) ∈ _
          rw [if_neg (fun (e : c = z) => hZ z hz (e ▸ h))]
          exact hT.1 c h
        · obtain rfl := List.mem_singleton.mp h
          show (if c = c then m else T c) ∈ _
          rw [if_pos rfl]
          exact hm
      · show cntF (J ++ [z]) (fun y => if y = z then m else T y) x ≤ _
        rw [cntF_app, cntF_cons, cntF_nil, if_pos rfl, cntF_congr (g := T) fun a ha => if_neg (fun (e : a = z) => hZ z hz (e ▸ ha))]
        have := right_cnt hT x
        split
        · rename_i e; subst e; omega
        · omega
    | succ n =>
      obtain ⟨c, hc, hDc, hm⟩ := hD
      by_cases early : ∃ i, i < n + 1 ∧ ∃ m', Dl X Z J T i m' ∧ cntF J T m' < X.cap m'
      · obtain ⟨i, hi, m', h1, h2⟩ := early
        exact ih i hi T m' hT h1 h2 hZ
      · have no : ∀ i, i < n → ¬ Dl X Z J T i (T c) := fun i hi z => early ⟨i + 1, by omega, m, ⟨c, hc, z, hm⟩, hr⟩
        have full : ¬ cntF J T (T c) < X.cap (T c) := fun z => early ⟨n, Nat.lt_succ_self _, T c, hDc, z⟩
        have ne : T c ≠ m := fun e => full (by rw [e]; exact hr)
        refine ih n (Nat.lt_succ_self _) (fun y => if y = c then m else T y) (T c) ⟨fun y hy => ?_, fun x => ?_⟩ (Dl.moved hDc no) ?_ hZ
        · by_cases e : y = c
          · subst e
            show (if y = y then m else T y) ∈ _
            rw [if_pos rfl]; exact hm
          · show (if y = c then m else T y) ∈ _
            rw [if_neg e]; exact hT.1 y hy
        · show cntF J (fun y => if y = c then m else T y) x ≤ _
          rw [cnt_set nd hc x ne]
          have := right_cnt hT x
          split
          · rename_i e; subst e; omega
          · split <;> omega
        · rw [cnt_set nd hc (T c) ne, if_neg ne, if_pos rfl]
          have h1 := right_cnt hT (T c)
          have h2 : 0 < cntF J T (T c) := by
            unfold cntF
            exact List.length_pos_of_mem (List.mem_filter.mpr ⟨hc, by simp⟩)
          omega
/-- what is come to is full, where nobody of Z can be added -/
theorem full_of {X : Sc α} {Z J : List α} (nd : J.Nodup) {T : α → α} (hT : Right X J T) (hZ : ∀ z ∈ Z, z ∉ J) (no : ∀ z ∈ Z, ¬ Seatable X (J ++ [z])) {m : α} (h : ∃ n, Dl X Z J T n m) : X.cap m ≤ cntF J T m := by
  obtain ⟨n, h⟩ := h
  refine Nat.le_of_not_lt fun z => ?_
  obtain ⟨y, hy, q⟩ := aug nd n T m hT h z hZ
  exact no y hy q
open Classical in
theorem exch {X : Sc α} {A B : List α} (na : A.Nodup) (nb : B.Nodup) (hA : Seatable X A) (hB : Seatable X B) (hl : A.length < B.length) : ∃ b ∈ B, b ∉ A ∧ Seatable X (A ++ [b]) := by
  refine Classical.byContradiction fun con => ?_
  obtain ⟨T, hT⟩ := hA
  obtain ⟨U, hU⟩ := hB
  have hZ : ∀ z ∈ B.filter (fun b => decide (b ∉ A)), z ∉ A := fun z hz => of_decide_eq_true (List.mem_filter.mp hz).2
  have no : ∀ z ∈ B.filter (fun b => decide (b ∉ A)), ¬ Seatable X (A ++ [z]) := fun z hz q => con ⟨z, (List.mem_filter.mp hz).1, hZ z hz, q⟩
  let R : α → Prop := fun m => ∃ n, Dl X (B.filter (fun b => decide (b ∉ A))) A T n m
  have hfull : ∀ m, R m → X.cap m ≤ cntF A T m := fun m hm => full_of na hT hZ no hm
  have hsrc : ∀ b ∈ B, b ∉ A → R (U b) := fun b hb hn => ⟨0, b, List.mem_filter.mpr ⟨hb, decide_eq_true hn⟩, hU.1 b hb⟩
  have hclo : ∀ b ∈ B, b ∈ A → R (T b) → R (U b) := fun b hb ha ⟨n, hn⟩ => ⟨n + 1, b, ha, hn, hU.1 b hb⟩
  have l1 := cnt_len R U T (B.filter fun b => decide (R (U b))) A (fun b hb => of_decide_eq_true (List.mem_filter.mp hb).2) fun m hm => by
    refine Nat.le_trans ?_ (Nat.le_trans (hU.2 m) (hfull m hm))
    unfold cntF
    exact len_sub ((nb.filter _).filter _) fun x hx => List.mem_filter.mpr ⟨(List.mem_filter.mp (List.mem_filter.mp hx).1).1, (List.mem_filter.mp hx).2⟩
  have l2 : (B.filter fun b => !decide (R (U b))).length ≤ (A.filter fun a => !decide (R (T a))).length := len_sub (nb.filter _) fun x hx => by
    have h1 := List.mem_filter.mp hx
    have h2 : ¬ R (U x) := by simpa using h1.2
    have ha : x ∈ A := Classical.byContradiction fun z => h2 (hsrc x h1.1 z)
    exact List.mem_filter.mpr ⟨ha, by simpa using fun z => h2 (hclo x h1.1 ha z)⟩
  have sp : ∀ (L : List α) (p : α → Bool), L.length = (L.filter p).length + (L.filter fun a => !p a).length := by
    intro L p
    induction L with
    | nil => rfl
    | cons x L ih =>
      rw [List.filter_cons, List.filter_cons, List.length_cons]
      cases p x <;> simp <;> omega
  have e1 := sp B fun b => decide (R (U b))
  have e2 := sp A fun b => decide (R (T b))
  omega
theorem seat_sub {X : Sc α} {a b : List α} (nd : a.Nodup) (h : ∀ x ∈ a, x ∈ b) : Seatable X b → Seatable X a := fun ⟨T, t1, t2⟩ =>
  ⟨T, fun c hc => t1 c (h c hc), fun m => Nat.le_trans (len_sub (nd.filter _) fun x hx => List.mem_filter.mpr ⟨h x (List.mem_filter.mp hx).1, (List.mem_filter.mp hx).2⟩) (t2 m)⟩
theorem seat_nil {X : Sc α} : Seatable X [] := ⟨id, fun _ h => (nomatch h), fun _ => Nat.zero_le _⟩
theorem seat_congr {X Y : Sc α} {L : List α} (hc : ∀ m, X.cap m = Y.cap m) (hh : ∀ c ∈ L, X.heard c = Y.heard c) : Seatable X L ↔ Seatable Y L :=
  ⟨fun ⟨T, h1, h2⟩ => ⟨T, fun c h => by rw [← hh c h]; exact h1 c h, fun m => by rw [← hc m]; exact h2 m⟩, fun ⟨T, h1, h2⟩ => ⟨T, fun c h => by rw [hh c h]; exact h1 c h, fun m => by rw [hc m]; exact h2 m⟩⟩
open Classical in
noncomputable def grS (X : Sc α) (L : List α) (c : α) : List α := if Seatable X (L ++ [c]) then L ++ [c] else L
/-- the greedy row -/
noncomputable def gr (X : Sc α) (P : List α) : List α := P.foldl (grS X) []
theorem gr_nil (X : Sc α) : gr X [] = [] := rfl
theorem gr_snoc (X : Sc α) (P : List α) (c : α) : gr X (P ++ [c]) = grS X (gr X P) c := by
  unfold gr
  rw [List.foldl_append]
  rfl
theorem gr_yes {X : Sc α} {P : List α} {c : α} (h : Seatable X (gr X P ++ [c])) : gr X (P ++ [c]) = gr X P ++ [c] := by
  rw [gr_snoc]
  exact if_pos h
theorem gr_no {X : Sc α} {P : List α} {c : α} (h : ¬ Seatable X (gr X P ++ [c])) : gr X (P ++ [c]) = gr X P := by
  rw [gr_snoc]
  exact if_neg h
theorem snoc_ind {motive : List α → Prop} (h0 : motive []) (hs : ∀ P c, motive P → motive (P ++ [c])) (P : List α) : motive P := by
  have : ∀ n (P : List α), P.length = n → motive P := by
    intro n
    induction n with
    | zero => intro P h; rw [List.eq_nil_of_length_eq_zero h]; exact h0
    | succ n ih =>
      intro P h
      have hne : P ≠ [] := fun e => by rw [e] at h; simp at h
      rw [← List.dropLast_concat_getLast hne]
      exact hs _ _ (ih _ (by rw [List.length_dropLast, h]; rfl))
  exact this _ P rfl
theorem gr_sub (X : Sc α) (P : List α) : ∀ y ∈ gr X P, y ∈ P := by
  induction P using snoc_ind with
  | h0 => intro y h; cases h
  | hs P c ih =>
    intro y h
    by_cases q : Seatable X (gr X P ++ [c])
    · rw [gr_yes q] at h
      rcases List.mem_append.mp h with h | h
      · exact List.mem_append_left _ (ih y h)
      · exact List.mem_append_right _ h
    · rw [gr_no q] at h
      exact List.mem_append_left _ (ih y h)
theorem gr_seat (X : Sc α) (P : List α) : Seatable X (gr X P) := by
  induction P using snoc_ind with
  | h0 => exact seat_nil
  | hs P c ih =>
    by_cases q : Seatable X (gr X P ++ [c])
    · rw [gr_yes q]; exact q
    · rw [gr_no q]; exact ih
theorem nd_snoc {P : List α} {c : α} (h : (P ++ [c]).Nodup) : P.Nodup ∧ c ∉ P := by
  have := List.nodup_append.mp h
  exact ⟨this.1, fun z => this.2.2 c z c (by simp) rfl⟩
theorem snoc_nd {P : List α} {c : α} (h : P.Nodup) (k : c ∉ P) : (P ++ [c]).Nodup := List.nodup_append.mpr ⟨h, by simp, fun a ha b hb e => by rw [List.mem_singleton.mp hb] at e; exact k (e ▸ ha)⟩
theorem gr_nd {X : Sc α} {P : List α} : P.Nodup → (gr X P).Nodup := by
  induction P using snoc_ind with
  | h0 => intro _; exact List.nodup_nil
  | hs P c ih =>
    intro h
    obtain ⟨h1, h2⟩ := nd_snoc h
    by_cases q : Seatable X (gr X P ++ [c])
    · rw [gr_yes q]; exact snoc_nd (ih h1) fun z => h2 (gr_sub X P c z)
    · rw [gr_no q]; exact ih h1
theorem gr_keep {X : Sc α} {P : List α} {y : α} (Q : List α) (h : y ∈ gr X P) : y ∈ gr X (P ++ Q) := by
  induction Q using snoc_ind with
  | h0 => rw [List.append_nil]; exact h
  | hs Q c ih =>
    rw [← List.append_assoc]
    by_cases q : Seatable X (gr X (P ++ Q) ++ [c])
    · rw [gr_yes q]; exact List.mem_append_left _ ih
    · rw [gr_no q]; exact ih
theorem gr_none {X : Sc α} {P : List α} {y : α} {Q : List α} (hn : y ∉ Q) (h : y ∈ gr X (P ++ Q)) : y ∈ gr X P := by
  induction Q using snoc_ind with
  | h0 => rw [List.append_nil] at h; exact h
  | hs Q c ih =>
    have n1 : y ∉ Q := fun z => hn (List.mem_append_left _ z)
    have n2 : y ≠ c := fun e => hn (by simp [e])
    rw [← List.append_assoc] at h
    by_cases q : Seatable X (gr X (P ++ Q) ++ [c])
    · rw [gr_yes q] at h
      rcases List.mem_append.mp h with h | h
      · exact ih n1 h
      · exact absurd (List.mem_singleton.mp h) n2
    · rw [gr_no q] at h; exact ih n1 h
/-- who is kept: whoever can be added to the row of the earlier ones -/
theorem gr_iff {X : Sc α} {P Q : List α} {x : α} (h : (P ++ x :: Q).Nodup) : x ∈ gr X (P ++ x :: Q) ↔ Seatable X (gr X P ++ [x]) := by
  have h1 := List.nodup_append.mp h
  have h2 := List.nodup_cons.mp h1.2.1
  have hp : x ∉ P := fun z => h1.2.2 x z x (by simp) rfl
  have e : P ++ x :: Q = (P ++ [x]) ++ Q := by simp
  rw [e]
  refine ⟨fun z => ?_, fun z => gr_keep Q (by rw [gr_yes z]; simp)⟩
  have z1 := gr_none h2.1 z
  refine Classical.byContradiction fun n => ?_
  rw [gr_no n] at z1
  exact hp (gr_sub X P x z1)
theorem gr_max {X : Sc α} {P : List α} : P.Nodup → ∀ j ∈ P, j ∉ gr X P → ¬ Seatable X (gr X P ++ [j]) := by
  intro nd j hj hn hs
  obtain ⟨A, B, rfl⟩ := List.append_of_mem hj
  have nA := (List.nodup_append.mp nd).1
  refine hn ((gr_iff nd).mpr (seat_sub (snoc_nd (gr_nd nA) fun z => (List.nodup_append.mp nd).2.2 j (gr_sub X A j z) j (by simp) rfl) (fun y hy => ?_) hs))
  rcases List.mem_append.mp hy with h | h
  · exact List.mem_append_left _ (gr_keep _ h)
  · exact List.mem_append_right _ h
/-- a row as long as the greater one, and who stands in it -/
theorem fill {X : Sc α} {I : List α} (hI : Seatable X I) (nI : I.Nodup) : ∀ (n : Nat) (J : List α), Seatable X J → J.Nodup → J.length + n = I.length → ∃ L, Seatable X L ∧ L.Nodup ∧ (∀ y ∈ J, y ∈ L) ∧ (∀ y ∈ L, y ∈ J ∨ y ∈ I) ∧ L.length = I.length
  | 0, J, h, nd, e => ⟨J, h, nd, fun _ z => z, fun _ z => .inl z, e⟩
  | n + 1, J, h, nd, e => by
    obtain ⟨b, hb, hn, hs⟩ := exch nd nI h hI (by omega)
    obtain ⟨L, a1, a2, a3, a4, a5⟩ := fill hI nI n (J ++ [b]) hs (snoc_nd nd hn) (by rw [List.length_append, List.length_singleton]; omega)
    refine ⟨L, a1, a2, fun y hy => a3 y (List.mem_append_left _ hy), fun y hy => ?_, a5⟩
    rcases a4 y hy with z | z
    · rcases List.mem_append.mp z with z | z
      · exact .inl z
      · rw [List.mem_singleton.mp z]; exact .inr hb
    · exact .inr z
/-- whoever can't be added to a row of earlier calls can't be added to the greedy row -/
theorem span {X : Sc α} {P J : List α} {x : α} (nP : P.Nodup) (nJ : J.Nodup) (hJ : ∀ y ∈ J, y ∈ P) (hx : x ∉ P) (sJ : Seatable X J) (no : ¬ Seatable X (J ++ [x])) : ¬ Seatable X (gr X P ++ [x]) := by
  intro yes
  have nG : (gr X P).Nodup := gr_nd nP
  have nI : (gr X P ++ [x]).Nodup := snoc_nd nG fun z => hx (gr_sub X P x z)
  have le : J.length ≤ (gr X P ++ [x]).length := by
    refine Nat.le_of_not_lt fun z => ?_
    obtain ⟨b, hb, hn, hs⟩ := exch nG nJ (gr_seat X P) sJ (by rw [List.length_append, List.length_singleton] at z; omega)
    exact gr_max nP b (hJ b hb) hn hs
  obtain ⟨L, a1, a2, a3, a4, a5⟩ := fill yes nI ((gr X P ++ [x]).length - J.length) J sJ nJ (by omega)
  have hxL : x ∉ L := fun z => no (seat_sub (snoc_nd nJ fun w => hx (hJ x w)) (fun y hy => by
    rcases List.mem_append.mp hy with h | h
    · exact a3 y h
    · rw [List.mem_singleton.mp h]; exact z) a1)
  obtain ⟨b, hb, hn, hs⟩ := exch nG a2 (gr_seat X P) a1 (by rw [a5, List.length_append, List.length_singleton]; omega)
  have hbP : b ∈ P := by
    rcases a4 b hb with h | h
    · exact hJ b h
    · rcases List.mem_append.mp h with h | h
      · exact gr_sub X P b h
      · exact absurd (List.mem_singleton.mp h ▸ hb) hxL
  exact gr_max nP b hbP hn hs
/-- fewer earlier calls -/
theorem gr_fewer {X : Sc α} {P P' : List α} {x : α} (nP : P.Nodup) (nP' : P'.Nodup) (hs : ∀ y ∈ P', y ∈ P) (hx : x ∉ P) (h : Seatable X (gr X P ++ [x])) : Seatable X (gr X P' ++ [x]) :=
  Classical.byContradiction fun no => span nP (gr_nd nP') (fun y hy => hs y (gr_sub X P' y hy)) hx (gr_seat X P') no h
theorem gr_congr {X Y : Sc α} {P : List α} (hc : ∀ m, X.cap m = Y.cap m) : (∀ c ∈ P, X.heard c = Y.heard c) → gr X P = gr Y P := by
  induction P using snoc_ind with
  | h0 => intro _; rfl
  | hs P c ih =>
    intro hh
    have e := ih fun y hy => hh y (List.mem_append_left _ hy)
    have q : Seatable X (gr X P ++ [c]) ↔ Seatable Y (gr Y P ++ [c]) := by
      rw [e]
      refine seat_congr hc fun y hy => hh y ?_
      rcases List.mem_append.mp hy with z | z
      · exact List.mem_append_left _ (gr_sub Y P y z)
      · exact List.mem_append_right _ z
    by_cases z : Seatable X (gr X P ++ [c])
    · rw [gr_yes z, gr_yes (q.mp z), e]
    · rw [gr_no z, gr_no fun w => z (q.mpr w), e]
open Classical in
/-- one channel more -/
theorem gr_more {X Y : Sc α} {P : List α} {x m0 : α} (nP : P.Nodup) (hx : x ∉ P) (hc : ∀ m, Y.cap m = X.cap m + if m = m0 then 1 else 0) (hh : ∀ c, Y.heard c = X.heard c) (h : Seatable X (gr X P ++ [x])) : Seatable Y (gr Y P ++ [x]) := by
  refine Classical.byContradiction fun no => ?_
  have nJ : (gr Y P).Nodup := gr_nd nP
  have hJP := gr_sub Y P
  obtain ⟨T, hT⟩ := gr_seat Y P
  generalize gr Y P = J at no nJ hJP hT
  have hxJ : x ∉ J := fun z => hx (hJP x z)
  let R : α → Prop := fun m => ∃ n, Dl Y [x] J T n m
  have hfull : ∀ m, R m → Y.cap m ≤ cntF J T m := fun m hm => full_of nJ hT (fun z hz => by rw [List.mem_singleton.mp hz]; exact hxJ) (fun z hz => by rw [List.mem_singleton.mp hz]; exact no) hm
  have hsrc : ∀ m ∈ Y.heard x, R m := fun m hm => ⟨0, x, by simp, hm⟩
  have hclo : ∀ c ∈ J, R (T c) → ∀ m ∈ Y.heard c, R m := fun c hc ⟨n, hn⟩ m hm => ⟨n + 1, c, hc, hn, hm⟩
  -- the calls that sit in R, but one at m0
  obtain ⟨B, nB, hBJ, hBR, hBc⟩ : ∃ B : List α, B.Nodup ∧ (∀ b ∈ B, b ∈ J) ∧ (∀ b ∈ B, R (T b)) ∧ ∀ m, R m → X.cap m ≤ cntF B T m ∧ cntF B T m ≤ cntF J T m - if m = m0 then 1 else 0 := by
    have cR : ∀ m, R m → cntF (J.filter fun c => decide (R (T c))) T m = cntF J T m := fun m hm => by
      unfold cntF
      rw [List.filter_filter]
      refine congrArg List.length (List.filter_congr fun c _ => ?_)
      by_cases e : T c = m
      · have : R (T c) := by rw [e]; exact hm
        simp [e, hm]
      · simp [e]
    by_cases r0 : R m0
    · have p0 : 0 < cntF (J.filter fun c => decide (R (T c))) T m0 := by
        have := hfull m0 r0
        rw [hc, if_pos rfl] at this
        rw [cR m0 r0]; omega
      obtain ⟨b0, hb0, e0⟩ := cntF_pos p0
      have nF : (J.filter fun c => decide (R (T c))).Nodup := nJ.filter _
      have memF : ∀ c ∈ J.filter (fun c => decide (R (T c))), c ∈ J ∧ R (T c) := fun c hc => ⟨(List.mem_filter.mp hc).1, of_decide_eq_true (List.mem_filter.mp hc).2⟩
      generalize J.filter (fun c => decide (R (T c))) = F at cR hb0 nF memF p0
      obtain ⟨A1, A2, rfl⟩ := List.append_of_mem hb0
      refine ⟨A1 ++ A2, nF.sublist (List.Sublist.append (List.Sublist.refl _) (List.sublist_cons_self _ _)), fun b hb => (memF b ?_).1, fun b hb => (memF b ?_).2, fun m hm => ?_⟩
      · rcases List.mem_append.mp hb with z | z
        · exact List.mem_append_left _ z
        · exact List.mem_append_right _ (List.mem_cons_of_mem _ z)
      · rcases List.mem_append.mp hb with z | z
        · exact List.mem_append_left _ z
        · exact List.mem_append_right _ (List.mem_cons_of_mem _ z)
      · have h1 := cR m hm
        have h2 := hfull m hm
        rw [hc] at h2
        rw [cntF_app, cntF_cons, e0] at h1
        rw [cntF_app]
        by_cases e : m = m0
        · rw [if_pos e] at h2 ⊢
          rw [if_pos e.symm] at h1
          omega
        · rw [if_neg e] at h2 ⊢
          rw [if_neg (Ne.symm e)] at h1
          omega
    · refine ⟨J.filter fun c => decide (R (T c)), nJ.filter _, fun b hb => (List.mem_filter.mp hb).1, fun b hb => of_decide_eq_true (List.mem_filter.mp hb).2, fun m hm => ?_⟩
      have e : m ≠ m0 := fun e => r0 (e ▸ hm)
      have h2 := hfull m hm
      rw [hc, if_neg e] at h2
      rw [cR m hm, if_neg e]
      omega
  have sB : Seatable X B := ⟨T, fun c hc => by rw [← hh]; exact hT.1 c (hBJ c hc), fun m => by
    show cntF B T m ≤ _
    by_cases r : R m
    · have h1 := (hBc m r).2
      have h2 := right_cnt hT m
      rw [hc] at h2
      split at h1
      · rename_i e; rw [if_pos e] at h2; omega
      · rename_i e; rw [if_neg e] at h2; omega
    · have : cntF B T m = 0 := Classical.byContradiction fun z => by
        obtain ⟨a, ha, e⟩ := cntF_pos (Nat.pos_of_ne_zero z)
        exact r (by rw [← e]; exact hBR a ha)
      omega⟩
  have noB : ¬ Seatable X (B ++ [x]) := by
    rintro ⟨U, hU⟩
    have := cnt_len R U T (B ++ [x]) B (fun b hb => ?_) fun m hm => Nat.le_trans (hU.2 m) (hBc m hm).1
    · have h2 : (B.filter fun a => decide (R (T a))).length ≤ B.length := List.length_filter_le _ _
      rw [List.length_append, List.length_singleton] at this
      omega
    · have hu := hU.1 b hb
      rw [← hh] at hu
      rcases List.mem_append.mp hb with z | z
      · exact hclo b (hBJ b z) (hBR b z) _ hu
      · rw [List.mem_singleton.mp z] at hu ⊢
        exact hsrc _ hu
  exact span nP nB (fun y hy => hJP y (hBJ y hy)) hx sB noB h
end
end Mc.Gd
namespace Mc
open PySem L2 PySem.Spec PyProof.Rows
abbrev sRank : Stmt := inClass (top 20) 3
abbrev sOrder : Stmt := inClass (top 20) 2
structure TxO (K : PySem.W.Frag) (mg : PySem.Str → Option Value) (CS CC : Addr) : Prop where
  clS : Cls K CS
  nCa : NoAttr K CS "calls"
  clC : Cls K CC
  nW : NoAttr K CC "worth"
  sorted : mg "sorted" = none
/-- how worthy the call of that name is -/
def wOf (cls : Cls') (x : PySem.Str) : Int := ((getT cls x).map (·.2.1)).getD 0
def spRank (K : PySem.W.Frag) (CS CC : Addr) : Sp := fun vs H Q _ => ∃ (sc dx a y : Addr) (cls : Cls') (x : PySem.Str), vs = [.ref sc, .str x] ∧ H sc = some (.ins CS dx [("channels", .ref a), ("calls", .ref y)]) ∧ Rd H y (.dK (kvT vO cls)) ∧ CallsH K CC H cls ∧ x ∈ keysT cls ∧
  ∀ p, H p = none → Q (.ref p) (upd H p (.tup [.int (-wOf cls x), .str x]))
def rkO (cls : Cls') (x : PySem.Str) : Int := -wOf cls x
def spOrder (K : PySem.W.Frag) (CS CC : Addr) : Sp := fun vs H Q _ => ∃ (sc : Addr) (chs : Chs) (cls : Cls'), vs = [.ref sc] ∧ SceneH K CS CC H sc chs cls ∧ OkC chs cls ∧
  ∀ (p : Addr) (ys : List PySem.Str) (H' : Hp), ys.Perm (keysT cls) → ys.Pairwise (rkLe (rkO cls)) → Same H H' → H' p = none → Q (.ref p) (upd H' p (.lst (ys.map V.str)))
section
variable {P : Program} {w : World} {K : PySem.W.Frag} {mg : PySem.Str → Option Value} {base : Heap}
theorem scRank : FnScope ["self", "name"] ["self", "name"] (defScope sRank) := ⟨rfl, rfl, rfl, by decide +kernel, rfl, by decide +kernel, by decide +kernel⟩
theorem ok_rank {f CS CC : Addr} {fd : FuncData} (F : Fun K "rank" "Scene.rank" sRank f fd) (T : TxO K mg CS CC) : FnOk P w K mg base CX0 1 f fd ["self", "name"] (spRank K CS CC) := by
  refine F.ok scRank (fun vs H Q E h => ?_) (fun cdv A outer s H vs Q E hr h => ?_)
  · obtain ⟨sc, dx, a, y, cls, x, rfl, _⟩ := h
    rfl
  · obtain ⟨sc, dx, a, y, cls, x, rfl, h1, h2, hC, hx, q⟩ := h
    have hu := hu_of hr
    refine ⟨_, (pss_one (ps_ret (pe_tup (pa_cons (pe_un un_neg (pe_fld (pe_dget hu (pe_fld (pv 0) rfl) (pv 1) (fun _ _ => rfl)) rfl)) (pa_cons (pv 1) pa_nil))))), ?_⟩
    cases e : getT cls x with
    | none => exact absurd hx (getT_none.mp e)
    | some cd =>
      obtain ⟨dxc, hh, c1, c2⟩ := (hC _ (getT_in e)).here
      have ew : wOf cls x = cd.2.1 := by unfold wOf; rw [e]; rfl
      rw [ew] at q
      refine ⟨_, rfl, sc, CS, dx, _, _, rfl, h1, T.clS, T.nCa, rfl, _, rfl, y, _, rfl, dgetT h2 e, ?_⟩
      refine ⟨cd.1, CC, dxc, _, _, rfl, c1, T.clC, T.nW, rfl, cd.2.1, rfl, ?_⟩
      exact ⟨_, rfl, (by show 2 ≤ sizeLine; decide), q⟩
theorem scOrder : FnScope ["self"] ["self"] (defScope sOrder) := ⟨rfl, rfl, rfl, by decide +kernel, rfl, by decide +kernel, by decide +kernel⟩
theorem kvT_keys {β : Type} (f : β → V) (l : List (PySem.Str × β)) : (kvT f l).map (·.1) = (keysT l).map Sum.inr := by unfold kvT keysT; rw [List.map_map, List.map_map]; rfl
theorem ok_order {f CS CC : Addr} {fd : FuncData} (F : Fun K "order" "Scene.order" sOrder f fd) (T : TxO K mg CS CC) (c_rank : CalB P w K mg base CS 1 "rank" ["self", "name"] (spRank K CS CC)) : FnOk P w K mg base CX0 4 f fd ["self"] (spOrder K CS CC) := by
  refine F.ok scOrder (fun vs H Q E h => ?_) (fun cdv A outer s H vs Q E hr h => ?_)
  · obtain ⟨sc, chs, cls, rfl, _⟩ := h
    rfl
  · obtain ⟨sc, chs, cls, rfl, hC, ok, q⟩ := h
    refine ⟨_, (pss_one (ps_ret (pe_srtM rfl T.clS c_rank (hr.mono (by decide)) (by rfl) T.sorted (pe_fld (pv 0) rfl) (pv 0)))), ?_⟩
    obtain ⟨dx, a, b, h1, h2, h3⟩ := hC.here
    refine ⟨_, rfl, sc, CS, dx, _, _, rfl, h1, T.clS, T.nCa, rfl, _, rfl, b, sc, dx, kvT vO cls, _, keysT cls, rkO cls, rfl, rfl, h1, rfl, h3, kvT_keys _ _, by unfold keysT; rw [List.length_map]; exact ok.lenc, fun x hx H' s1 => ?_, fun ys p H' s1 pm pw hp => ?_⟩
    · exact ⟨sc, dx, a, b, cls, x, rfl, s1 _ _ h1, rd_same h3 s1, hC.calls.same s1, hx, fun p hp => ⟨p, rfl, hp, rfl⟩⟩
    · exact q p ys H' pm pw s1 hp
end
end Mc
namespace Mc
open PySem L2 PySem.Spec PyProof.Rows Gd
abbrev sPaper : Stmt := inClass (top 10) 6
theorem sok_flat {X : Sc PySem.Str} {S : SMs} {names R : List PySem.Str} (O : SOk X S names) (hR : R.Nodup) : (R.flatMap S.on).length ≤ names.length := by
  have nd : ∀ R : List PySem.Str, R.Nodup → (R.flatMap S.on).Nodup := by
    intro R hR
    induction R with
    | nil => exact List.nodup_nil
    | cons r R ih =>
      obtain ⟨n1, n2⟩ := List.nodup_cons.mp hR
      refine List.flatMap_cons ▸ List.nodup_append.mpr ⟨O.nd r, ih n2, fun y hy z hz e => ?_⟩
      obtain ⟨m, hm, hb⟩ := List.mem_flatMap.mp hz
      have e1 := (O.mem y r).mpr hy
      rw [e, (O.mem z m).mpr hb] at e1
      exact n1 (Option.some.inj e1 ▸ hm)
  refine len_sub (nd R hR) fun y hy => ?_
  obtain ⟨m, hm, hb⟩ := List.mem_flatMap.mp hy
  exact (O.dom y).mp ⟨m, (O.mem y m).mpr hb⟩
/-- a paper against c beside the calls names: more calls than all masts have channels that hear any of them -/
def Paper (X : Sc PySem.Str) (names : List PySem.Str) (c : PySem.Str) (zs : List PySem.Str) : Prop := zs.Nodup ∧ c ∈ zs ∧ (∀ y ∈ zs, y = c ∨ y ∈ names) ∧ ∀ M : List PySem.Str, M.Nodup → (∀ m ∈ M, ∃ y ∈ zs, m ∈ X.heard y) → (M.map X.cap).sum < zs.length
theorem sum_sub {f : PySem.Str → Nat} : ∀ {a b : List PySem.Str}, a.Nodup → (∀ x ∈ a, x ∈ b) → (a.map f).sum ≤ (b.map f).sum
  | [], _, _, _ => Nat.zero_le _
  | x :: a, b, h, s => by
    have hx := List.nodup_cons.mp h
    have h1 := sum_sub (f := f) (a := a) (b := b.erase x) hx.2 fun y hy => (List.mem_erase_of_ne (fun e => by subst e; exact hx.1 hy)).mpr (s y (List.mem_cons_of_mem _ hy))
    have h2 := ((List.perm_cons_erase (s x (by simp))).map f).sum_nat
    simp only [List.map_cons, List.sum_cons] at h2 ⊢
    omega
theorem paper_of {X : Sc PySem.Str} {S : SMs} {names : List PySem.Str} (O : SOk X S names) {c : PySem.Str} (hc : c ∉ names) {R : List PySem.Str} (hR : R.Nodup) (h1 : ∀ m ∈ X.heard c, m ∈ R) (h2 : ∀ m ∈ R, ¬ (S.on m).length < X.cap m)
    (h3 : ∀ m ∈ R, ∀ y ∈ S.on m, ∀ o ∈ X.heard y, o ∈ R) {zs : List PySem.Str} (hz : zs.Perm (c :: R.flatMap S.on)) : Paper X names c zs := by
  have hmem : ∀ y ∈ R.flatMap S.on, y ∈ names ∧ ∃ m ∈ R, y ∈ S.on m := fun y hy => by
    obtain ⟨m, hm, hy⟩ := List.mem_flatMap.mp hy
    exact ⟨(O.dom y).mp ⟨m, (O.mem y m).mpr hy⟩, m, hm, hy⟩
  have nd : ∀ R : List PySem.Str, R.Nodup → (R.flatMap S.on).Nodup := by
    intro R hR
    induction R with
    | nil => exact List.nodup_nil
    | cons r R ih =>
      have hr := List.nodup_cons.mp hR
      rw [List.flatMap_cons]
      refine List.nodup_append.mpr ⟨O.nd r, ih hr.2, fun a ha b hb e => ?_⟩
      subst e
      obtain ⟨m, hm, hb⟩ := List.mem_flatMap.mp hb
      have e1 := (O.mem a r).mpr ha
      have e2 := (O.mem a m).mpr hb
      rw [e1] at e2
      cases Option.some.inj e2
      exact hr.1 hm
  have ndA : (c :: R.flatMap S.on).Nodup := List.nodup_cons.mpr ⟨fun h => hc (hmem c h).1, nd R hR⟩
  refine ⟨hz.nodup_iff.mpr ndA, hz.mem_iff.mpr (.head _), fun y hy => ?_, fun M nM hM => ?_⟩
  · rcases List.mem_cons.mp (hz.mem_iff.mp hy) with e | e
    · exact .inl e
    · exact .inr (hmem y e).1
  · have sub : ∀ m ∈ M, m ∈ R := fun m hm => by
      obtain ⟨y, hy, hh⟩ := hM m hm
      rcases List.mem_cons.mp (hz.mem_iff.mp hy) with e | e
      · exact h1 m (e ▸ hh)
      · obtain ⟨_, r, hr, hyr⟩ := hmem y e
        exact h3 r hr y hyr m hh
    have a1 := sum_sub (f := X.cap) nM sub
    have a2 := sum_le (R := R) (f := X.cap) (g := fun m => (S.on m).length) fun m hm => Nat.le_of_not_lt (h2 m hm)
    have a3 : (R.flatMap S.on).length = (R.map fun m => (S.on m).length).sum := by rw [List.length_flatMap]
    rw [hz.length_eq, List.length_cons, a3]
    omega
theorem lead_end {X : Sc PySem.Str} {S : SMs} {c : PySem.Str} {L : List (PySem.Str × PySem.Str × Option PySem.Str)} {names : List PySem.Str} : ∀ (n : Nat) (S' : SMs) (m : PySem.Str), Lead X S c L S' names m n → ∃ S2, SOk X S2 (names ++ [c])
  | n, S', m, I => by
    obtain ⟨y, l, _, _, h⟩ := I.step
    rcases h with ⟨_, _, O⟩ | ⟨m', k, _, hk, I'⟩
    · exact ⟨_, O⟩
    · exact lead_end k _ m' I'
structure TxP (K : PySem.W.Frag) (mg : PySem.Str → Option Value) (CK : Addr) : Prop where
  cl : Cls K CK
  n3 : NoAttr K CK "seated"
  tuple : mg "tuple" = none
  sorted : mg "sorted" = none
def spPaper (K : PySem.W.Frag) (CK CS CC : Addr) : Sp := fun vs H Q _ => ∃ (s sc a b : Addr) (adr : PySem.Str → Addr) (chs : Chs) (cls : Cls') (S : SMs) (names : List PySem.Str) (c : PySem.Str), vs = [.ref s, .str c] ∧ SeatH CK H s sc a b adr (keysT chs) S ∧
  ScnH K CS CC H sc (fpS a adr (keysT chs)) chs cls ∧ SOk (ScM chs cls) S names ∧ OkC chs cls ∧ c ∈ keysT cls ∧ (∀ x ∈ names, x ∈ keysT cls) ∧ names.length < 63 ∧ names.Nodup ∧ c ∉ names ∧ ¬ Seatable (ScM chs cls) (names ++ [c]) ∧
  ∀ (t : Addr) (ys : List PySem.Str) (H' : Hp), Same H H' → H' t = some (.tup (ys.map V.str)) → H t = none → ys.length < 64 → sortedS ys = true → Paper (ScM chs cls) names c ys → Q (.ref t) H'
section
variable {P : Program} {w : World} {K : PySem.W.Frag} {mg : PySem.Str → Option Value} {base : Heap}
theorem scPaper : FnScope ["self", "name", "_", "came", "mast", "call"] ["self", "name"] (defScope sPaper) := ⟨rfl, rfl, rfl, by decide +kernel, rfl, by decide +kernel, by decide +kernel⟩
theorem ok_paper {f CK CS CC : Addr} {fd : FuncData} (F : Fun K "paper" "Seats.paper" sPaper f fd) (T : TxP K mg CK) (c_Seats_way_for : CalM P w K mg base CK 2 "way_for" ["self", "name"] (spWay K CK CS CC)) : FnOk P w K mg base CX0 3 f fd ["self", "name"] (spPaper K CK CS CC) := by
  refine F.ok scPaper (fun vs H Q E h => ?_) (fun cdv A outer s H vs Q E hr h => ?_)
  · obtain ⟨s, sc, a, b, adr, chs, cls, S, names, c, rfl, _⟩ := h
    rfl
  · obtain ⟨s, sc, a, b, adr, chs, cls, S, names, c, rfl, hS, hC, O, ok, hc, hnm, hlen, nd, hcn, hns, q⟩ := h
    have hu := hu_of hr
    refine ⟨_, (pss_cons (ps_asg (pe_calM (pv 0) T.cl c_Seats_way_for (hr.mono (by decide)) (pa_cons (pv 1) pa_nil)) (pg_tup rfl (pgs_cons (pg_name (i := 2) scPaper.nd rfl (Or.inl rfl)) (pgs_cons (pg_name (i := 3) scPaper.nd rfl (Or.inl rfl)) pgs_nil))))
      (pss_one (ps_ret (pe_tupleOf (by rfl) T.tuple (pe_callB cr_sortedS (by rfl) T.sorted boot_sorted (pa_cons (pe_op op_cat (pe_lst (pa_cons (pv 1) pa_nil))
        (pe_lock (pe_lc2 (own := [("mast", 4), ("call", 5)]) (vs1 := [5]) (g := gName 4) (g1 := gName 5) (tt := tYes) (tt1 := tYes) rfl scPaper.nd (pi_keys (pv 3)) (blkOk_by (own := [("mast", 4), ("call", 5)]) (N := ["self", "name", "_", "came", "mast", "call"]) (sc := defScope sPaper) (by decide +kernel)) (by decide)
          (fun _ _ _ _ _ => pg_name (i := 4) scPaper.nd rfl (Or.inl rfl)) (fun _ _ _ _ _ => pts_nil) (fun _ _ _ _ _ => pi_listK (K := K) rfl (pe_dget hu (pe_fldK (K := K) rfl (pv 0) rfl) (pv 4) (fun _ _ => rfl))) (fun _ _ _ _ _ => pg_name (i := 5) scPaper.nd rfl (Or.inl rfl)) (fun _ _ _ _ _ => pts_nil) (fun _ _ _ _ _ => pv 5)))) pa_nil)))))), ?_⟩
    obtain ⟨dx, h1⟩ := hS.here
    refine ⟨_, rfl, s, dx, _, rfl, h1, rfl, _, rfl, s, sc, a, b, adr, chs, cls, S, names, c, rfl, hS, hC, O, ok, hc, hnm, by omega, fun t d H1 adT L i r s1 ht cm hd B hy hn => ?_⟩
    refine ⟨t, [vL r, .ref d], rfl, SqT.of ht, rfl, _, _, rfl, _, _, rfl, rfl, ?_⟩
    have hrn : r = none := by
      cases r with
      | none => rfl
      | some m =>
        obtain ⟨hm, hroom⟩ := hy m rfl
        have hms : ∀ c m, m ∈ (ScM chs cls).heard c → m ∈ keysT chs := fun c m hm => by
          have hm : m ∈ ((getT cls c).map (·.2.2)).getD [] := hm
          cases e : getT cls c with
          | none => rw [e] at hm; cases hm
          | some cd =>
            rw [e] at hm
            exact (ok.cl _ (getT_in e)).2.2.2.2.2 m hm
        have LD : Lead (ScM chs cls) S c L S names m (L.length + 1) := ⟨O, hcn, B.ch, hroom, hm, fun L1 y l L2 e => ⟨by rw [e]; simp; omega, fun _ _ => rfl⟩⟩
        obtain ⟨S2, O2⟩ := lead_end _ _ _ LD
        exact absurd (O2.seatable (snoc_nd nd hcn)) hns
    have PP := fun ys hz => paper_of O hcn B.ch.nodup B.hd (fun m hm => by
      obtain ⟨j, hj⟩ := List.mem_iff_getElem?.mp hm
      exact (B.done j (by rw [hn hrn]; have := (List.getElem?_eq_some_iff.mp hj).1; rwa [List.length_map] at this) m hj).1) (fun m hm => by
      obtain ⟨j, hj⟩ := List.mem_iff_getElem?.mp hm
      exact (B.done j (by rw [hn hrn]; have := (List.getElem?_eq_some_iff.mp hj).1; rwa [List.length_map] at this) m hj).2) (zs := ys) hz
    have hd1 := cm.d
    have hfl : ((L.map (·.1)).flatMap S.on).length ≤ names.length := sok_flat O B.ch.nodup
    have hS1 := hS.same s1
    have h1' := s1 _ _ h1
    refine ⟨_, rfl, (by show 1 ≤ sizeLine; decide), fun p1 hp1 => ?_⟩
    have np : d ≠ p1 := ne_of_none hd1 hp1
    have s2 : Same H1 (upd H1 p1 (.lst [.str c])) := fun u o z => by rw [upd_ne (ne_of_none z hp1)]; exact z
    refine ⟨d, _, s2 _ _ hd1, trivial, fun od => ?_⟩
    -- all but the locked dict
    have sL : Kp [d] H1 (upd (upd H1 p1 (.lst [.str c])) d (.frz od (.dK (kvT vA (L.map fun x => (x.1, adT x.1)))))) := fun u o z n => by
      rw [upd_ne fun e => n (by simp [e])]
      exact s2 u o z
    have hp2 : upd (upd H1 p1 (.lst [.str c])) d (.frz od (.dK (kvT vA (L.map fun x => (x.1, adT x.1))))) p1 = some (.lst [.str c]) := by rw [upd_ne np.symm]; exact upd_same
    have hdf : upd (upd H1 p1 (.lst [.str c])) d (.frz od (.dK (kvT vA (L.map fun x => (x.1, adT x.1))))) d = some (.frz od (.dK (kvT vA (L.map fun x => (x.1, adT x.1))))) := upd_same
    have far : ∀ u o, H u = some o → upd (upd H1 p1 (.lst [.str c])) d (.frz od (.dK (kvT vA (L.map fun x => (x.1, adT x.1))))) u = some o := fun u o z => sL u o (s1 u o z) fun e => by rw [List.mem_singleton.mp e, hd] at z; cases z
    generalize upd (upd H1 p1 (.lst [.str c])) d (.frz od (.dK (kvT vA (L.map fun x => (x.1, adT x.1))))) = Hf at sL hp2 hdf far ⊢
    refine ⟨_, rfl, d, od, rfl, .inl ⟨_, hdf, fun D hD => ?_⟩⟩
    refine lc2_out walk_keys (fun i H' => Same Hf H' ∧ H' D = some (.lst ((((L.map (·.1)).take i).flatMap S.on).map V.str))) ⟨fun u o z => by rw [upd_ne (ne_of_none z hD)]; exact z, upd_same⟩ (fun i H' _ z => z.1 _ _ hdf) ?_ ?_
    · rintro i v _ H2 hi ⟨sm, hD2⟩ ⟨rfl, kk, v', hk, rfl⟩
      obtain ⟨z, hz, rfl, rfl⟩ := kvT_get hk
      have hk1 : (L.map (·.1))[i]? = some z.1 := by
        rw [List.getElem?_map] at hz ⊢
        cases e : L[i]? with
        | none => rw [e] at hz; cases hz
        | some y => rw [e] at hz; rw [← Option.some.inj hz]; rfl
      have hm : z.1 ∈ keysT chs := B.sub _ (List.mem_of_getElem? hk1)
      have et : ((L.map (·.1)).take (i + 1)).flatMap S.on = ((L.map (·.1)).take i).flatMap S.on ++ S.on z.1 := by rw [List.take_add_one, hk1, List.flatMap_append]; simp
      have le1 : (((L.map (·.1)).take i).flatMap S.on ++ S.on z.1).length ≤ names.length := by
        rw [← et]
        exact sok_flat O (B.ch.nodup.sublist (List.take_sublist _ _))
      have hlen2 : ∀ j, ((((L.map (·.1)).take i).flatMap S.on ++ (S.on z.1).take j).map V.str).length < sizeLine := fun j => by
        rw [List.length_append] at le1
        rw [List.length_map, List.length_append, List.length_take, sizeLine_eq]
        omega
      refine ⟨rfl, yes_ite ?_⟩
      have f1 := sm _ _ (far _ _ h1)
      refine ⟨_, rfl, s, CK, dx, _, _, rfl, f1, T.cl, T.n3, rfl, _, rfl, b, _, rfl, dgetT (f := vA) (l := (keysT chs).map fun m => (m, adr m)) (.inl (sm _ _ (far _ _ hS.seated))) (v := adr z.1) (getT_mem (by rw [keysT_mk]; exact hS.nd) (List.mem_map.mpr ⟨z.1, hm, rfl⟩)), adr z.1, rfl, ⟨_, SqL.of (sm _ _ (far _ _ (hS.on _ hm)))⟩, ?_⟩
      refine lc2_in (walk_list (xs := (S.on z.1).map V.str)) (fun j H' => Same Hf H' ∧ H' D = some (.lst ((((L.map (·.1)).take i).flatMap S.on ++ (S.on z.1).take j).map V.str))) ⟨sm, by rw [List.take_zero, List.append_nil]; exact hD2⟩ (fun j H' _ q => SqL.of (q.1 _ _ (far _ _ (hS.on _ hm)))) ?_ ?_
      · rintro j v _ H3 hj ⟨sm3, hD3⟩ ⟨rfl, hv⟩
        rw [List.getElem?_map] at hv
        cases e : (S.on z.1)[j]? with
        | none => rw [e] at hv; cases hv
        | some y =>
          rw [e] at hv
          obtain rfl : V.str y = v := Option.some.inj hv
          refine ⟨rfl, yes_ite ?_⟩
          refine ⟨_, rfl, _, hD3, hlen2 j, fun u o q => ?_, ?_⟩
          · rw [upd_ne (ne_of_none q hD)]
            exact sm3 u o q
          · rw [upd_same, List.take_add_one, e, ← List.append_assoc, List.map_append (l₁ := _ ++ _)]
            rfl
      · rintro H3 ⟨sm3, hD3⟩
        rw [List.length_map, List.take_length] at hD3
        exact ⟨sm3, by rw [et]; exact hD3⟩
    · rintro H2 ⟨sm, hD2⟩
      rw [show (kvT vA (L.map fun x => (x.1, adT x.1))).length = (L.map (·.1)).length by unfold kvT; simp, List.take_length] at hD2
      have nDd : D ≠ d := fun e => by rw [e, hdf] at hD; cases hD
      have far3 : Same H (upd H2 d (.dK (kvT vA (L.map fun x => (x.1, adT x.1))))) := fun u o z => by
        rw [upd_ne fun e => by rw [e, hd] at z; cases z]
        exact sm _ _ (far u o z)
      have p13 : upd H2 d (.dK (kvT vA (L.map fun x => (x.1, adT x.1)))) p1 = some (.lst [.str c]) := by rw [upd_ne np.symm]; exact sm _ _ hp2
      have D3 : upd H2 d (.dK (kvT vA (L.map fun x => (x.1, adT x.1)))) D = some (.lst (((L.map (·.1)).flatMap S.on).map V.str)) := by rw [upd_ne nDd]; exact hD2
      generalize upd H2 d (.dK (kvT vA (L.map fun x => (x.1, adT x.1)))) = H3 at far3 p13 D3 ⊢
      refine ⟨sm _ _ hdf, p1, D, _, _, rfl, rfl, p13, D3, by rw [List.length_map, List.length_singleton, sizeLine_eq]; omega, fun p2 hp2n => ?_⟩
      refine ⟨p2, c :: ((L.map (·.1)).flatMap S.on), rfl, SqL.of upd_same, by rw [List.length_cons]; omega, fun ys p3 pm srt hp3 => ?_⟩
      refine .inl ⟨p3, ys.map V.str, rfl, SqL.of upd_same, fun t2 ht2 => ?_⟩
      refine q t2 ys _ (fun u o z => ?_) upd_same ?_ (by rw [pm.length_eq, List.length_cons]; omega) srt (PP ys pm)
      rotate_left 1
      · cases e : H t2 with
        | none => rfl
        | some o =>
          have z3 := far3 t2 o e
          have z4 : (upd H3 p2 (.lst ([V.str c] ++ ((L.map (·.1)).flatMap S.on).map V.str))) t2 = some o := by rw [upd_ne (ne_of_none z3 hp2n)]; exact z3
          have z5 : (upd (upd H3 p2 (.lst ([V.str c] ++ ((L.map (·.1)).flatMap S.on).map V.str))) p3 (.lst (ys.map V.str))) t2 = some o := by rw [upd_ne (ne_of_none z4 hp3)]; exact z4
          rw [z5] at ht2; cases ht2
      have z3 := far3 u o z
      have z4 : (upd H3 p2 (.lst ([V.str c] ++ ((L.map (·.1)).flatMap S.on).map V.str))) u = some o := by rw [upd_ne (ne_of_none z3 hp2n)]; exact z3
      have z5 : (upd (upd H3 p2 (.lst ([V.str c] ++ ((L.map (·.1)).flatMap S.on).map V.str))) p3 (.lst (ys.map V.str))) u = some o := by rw [upd_ne (ne_of_none z4 hp3)]; exact z4
      rw [upd_ne (ne_of_none z5 ht2)]
      exact z5
end
end Mc
namespace Mc
open PySem L2 PySem.Spec PyProof.Rows
/-! tuple(d): the keys of a dict -/
section
variable {prog : Program} {w : World} {A : Around} {E : Value → Shared → Prop} {s : Shared} {r : Addr} {P : Array Value → Prop}
theorem code_tupD {Q₁ : Value → Shared → Prop} (hTI : s.TypeIs (.ref r) "dict") (hz : ∀ acc, P acc → acc.size ≤ sizeLine)
    (col : ∀ (R : List Value → Shared → Prop) (E' : Value → Shared → Prop), (∀ h' tk acc, (∀ b o, s.heap.get? b = some o → h'.get? b = some o) → P acc → R acc.toList { s with heap := h', toks := tk }) → wpAny (model prog w) A.in1 (collect (.ref r)) R E' s)
    (h : ∀ (h' : Heap) (tk : Nat) (acc : Array Value), (∀ b o, s.heap.get? b = some o → h'.get? b = some o) → P acc → Q₁ (.ref h'.objs.size) { s with heap := h'.push { cls := .type "tuple", data := .seq acc }, toks := tk }) :
    codeAny (model prog w) A (.call (.builtin "tuple.__new__") ⟨[.type "tuple", .ref r], []⟩) (wants Q₁ E) s := by
  refine codeAny_of_tree ?_
  show wpAny _ A.in1 (checkBuiltinCall "tuple.__new__" ⟨[.type "tuple", .ref r], []⟩ >>= fun _ => again (.builtin "tuple.__new__" ⟨[.type "tuple", .ref r], []⟩)) _ _ s
  refine wpAny_bind (wpAny_of_eq (PySem.F.newCall_tuple_1 _) (wpAny_pure ⟨plainId_quiet PySem.F.plain_tuple_new _, codeAny_builtin PySem.F.entry_tuple_new ?_⟩))
  rw [Around.under_plainId PySem.F.plain_tuple_new _]
  have hsub := sub_tuple_self
  have hinit := init_tuple_lookup
  have hmh := madeHere_tuple
  wp_walk using wpAny_typeOf hTI, col
  intro h' tk acc hk ha
  show wpAny _ _ (Builtin.Tuple.tupleExact acc.toList.toArray >>= fun v => ret v) _ _ _
  unfold Builtin.Tuple.tupleExact
  rw [Array.toArray_toList]
  refine wpAny_bind (wpAny_newObj_type ?_ (hz acc ha))
  exact wpAny_pure (h h' tk acc hk ha)
theorem call_tupD {Q : Value → Shared → Prop} (hTI : s.TypeIs (.ref r) "dict") (hz : ∀ acc, P acc → acc.size ≤ sizeLine)
    (col : ∀ (R : List Value → Shared → Prop) (E' : Value → Shared → Prop), (∀ h' tk acc, (∀ b o, s.heap.get? b = some o → h'.get? b = some o) → P acc → R acc.toList { s with heap := h', toks := tk }) → wpAny (model prog w) A.in1.in1 (collect (.ref r)) R E' s)
    (h : ∀ (h' : Heap) (tk : Nat) (acc : Array Value), (∀ b o, s.heap.get? b = some o → h'.get? b = some o) → P acc → Q (.ref h'.objs.size) { s with heap := h'.push { cls := .type "tuple", data := .seq acc }, toks := tk }) :
    wpAny (model prog w) A (call (.type "tuple") [.ref r]) Q E s := by
  refine callType_codes (Q₁ := fun obj s₁ => s₁.TypeIs obj "tuple" ∧ Q obj s₁) PySem.F.called_tuple (PySem.F.typeCall_tuple_1 _) PySem.F.entry_object_init (code_tupD (A := A.in1) hTI hz col fun h' tk acc hk ha => ⟨⟨_, Heap.get?_push_size _ rfl, rfl⟩, h h' tk acc hk ha⟩) fun ob s₁ h₁ => ?_
  exact ⟨h₁.1, PySem.F.args_object_init_2 ob _, object_init_meets PySem.F.called_tuple.init.lookup PySem.F.called_tuple.made (by decide) prog w A.in1 _ s₁ ⟨h₁.1, rfl, h₁.2⟩⟩
end
section
variable {X : Cx} {a : Expr} {ta : TE}
/-- tuple(d), the keys texts -/
def kTupD (x : V) (H : Hp) (Q : VK) : Prop := ∃ (d : Addr) (kvs : List (Key × V)), x = .ref d ∧ Rd H d (.dK kvs) ∧ ∀ q, H q = none → Q (.ref q) (upd H q (.tup (kvs.map fun kv => kV kv.1)))
theorem rl_tupD (hcalm : X.calm = true) (pins : List (Addr × Obj)) (s : Shared) (σ : L2.St) (H : Hp) (x : V) (v : Value) (Q : VK) (I : Inv X pins σ H s) (r : RelV x v) (h : kTupD x H Q) : wpAny (model X.prog X.w) X.A (call (.type "tuple") [v]) (EP X pins σ Q) X.xe s := by
  obtain ⟨d, kvs, rfl, hd, q⟩ := h
  cases r
  obtain ⟨z, lo, vs, rel, dd⟩ := dk_rd I.hok hd
  obtain ⟨ep, hat⟩ := dd.dictAt
  have ek : (kvs.map fun kv => kV kv.1) = vs.map fun p => kV p.1 := by
    have e := congrArg (List.map kV) rel.keys
    rwa [List.map_map, List.map_map] at e
  have hz : vs.length ≤ sizeLine := by rw [← rel.length]; exact z
  refine call_tupD (P := fun acc => acc.size = vs.length ∧ Vals (vs.map fun p => kV p.1) acc.toList) ?_ (fun acc ha => by rw [ha.1]; exact hz) (fun R E' k => PySem.W.kdu_collect (A := X.A.in1.in1) (PySem.W.kdl_dict (knd := mixKind X.prog X.w) (kvs := vs) (ep := ep) lo) (I.ok.hd hcalm) hat hz fun h' tk acc hk hacc => k h' tk acc hk ⟨hacc.1, keys_at (by rw [Array.length_toList]; exact hacc.1) fun j v e => hacc.2 j v (by rw [← Array.getElem?_toList]; exact e)⟩) fun h' tk acc hk ha => ?_
  · exact dd.typeIs
  have I1 : Inv X pins σ H { s with heap := h', toks := tk } := I.kept hk
  refine ⟨.ref h'.objs.size, upd H h'.objs.size (.tup (kvs.map fun kv => kV kv.1)), I1.laid (t' := tk) (fun b o e => Heap.get?_push_of_some _ e) (Nat.le_refl _) ⟨by rw [List.length_map]; exact z, acc.toList, by rw [ek]; exact ha.2, by rw [Array.toArray_toList]; exact IsTup.new _ _⟩, rfl, q _ (I1.hok.fresh (Nat.le_refl _))⟩
theorem pe_tupD {p pos : Pos} (hcalm : X.calm = true) (hg : Gl X "tuple") (hm : X.mg "tuple" = none) (ha : PE X a ta) (na : starEach [a] X.env = (false, eval a X.env) :: starEach [] X.env := by rfl) :
    PE X (.Call (.Name "tuple" p) [a] [] pos) (tThen ta kTupD) := by
  refine ⟨fun pins s σ H Q I h => ?_⟩
  exact Call_ (ld_blt I hg hm boot_tuple (PyProof.Rows.callWith_type1 (one_arg ha I h (fun v s2 x H2 I2 r q => rl_tupD hcalm pins s2 σ H2 x v Q I2 r q) na) na))
end
end Mc
namespace Mc
open PySem L2 PySem.Spec PyProof.Rows Gd
abbrev sTInit : Stmt := inClass (top 11) 0
abbrev sKept : Stmt := top 12
structure TxT (K : PySem.W.Frag) (mg : PySem.Str → Option Value) (CT CK CS : Addr) : Prop where
  cl : Cls K CT
  nLot : NoAttr K CT "lot"
  nSea : NoAttr K CT "seating"
  nPap : NoAttr K CT "papers"
  clK : Cls K CK
  n2 : NoAttr K CK "seating"
  clS : Cls K CS
  tuple : mg "tuple" = none
  sorted : mg "sorted" = none
theorem ScnH.more {K : PySem.W.Frag} {CS CC : Addr} {H : Hp} {sc d : Addr} {F : List Addr} {chs : Chs} {cls : Cls'} (h : ScnH K CS CC H sc F chs cls) (hd : H d = none) : ScnH K CS CC H sc (d :: F) chs cls := by
  have ne : ∀ {b o}, H b = some o → b ∉ F → b ∉ d :: F := fun {b o} z n e => by
    rcases List.mem_cons.mp e with e | e
    · rw [e, hd] at z; cases z
    · exact n e
  obtain ⟨dx, x, y, h1, h2, h3, n1, n2, n3⟩ := h.sc
  refine ⟨⟨dx, x, y, h1, h2, h3, ne h1 n1, h2.elim (fun z => ne z n2) fun ⟨o, z⟩ => ne z n2, h3.elim (fun z => ne z n3) fun ⟨o, z⟩ => ne z n3⟩, fun z hz => ?_⟩
  obtain ⟨dx, h', c1, c2, m1, m2⟩ := h.calls z hz
  exact ⟨dx, h', c1, c2, ne c1 m1, ne c2 m2⟩
theorem ScnH.sub {K : PySem.W.Frag} {CS CC : Addr} {H : Hp} {sc : Addr} {F F' : List Addr} {chs : Chs} {cls : Cls'} (h : ScnH K CS CC H sc F chs cls) (s : ∀ b ∈ F', b ∈ F) : ScnH K CS CC H sc F' chs cls := by
  obtain ⟨dx, x, y, h1, h2, h3, n1, n2, n3⟩ := h.sc
  refine ⟨⟨dx, x, y, h1, h2, h3, fun z => n1 (s _ z), fun z => n2 (s _ z), fun z => n3 (s _ z)⟩, fun z hz => ?_⟩
  obtain ⟨dx, h', c1, c2, m1, m2⟩ := h.calls z hz
  exact ⟨dx, h', c1, c2, fun z => m1 (s _ z), fun z => m2 (s _ z)⟩
theorem ScnH.scene {K : PySem.W.Frag} {CS CC : Addr} {H : Hp} {sc : Addr} {F : List Addr} {chs : Chs} {cls : Cls'} (h : ScnH K CS CC H sc F chs cls) : SceneH K CS CC H sc chs cls := by
  obtain ⟨dx, x, y, h1, h2, h3, _⟩ := h.sc
  refine ⟨⟨dx, x, y, h1, h2, h3⟩, fun z hz => ?_⟩
  obtain ⟨dx, h', c1, c2, _⟩ := h.calls z hz
  exact ⟨dx, h', c1, c2⟩
theorem SeatH.offd {CK : Addr} {H H' : Hp} {s sc a b d : Addr} {adr : PySem.Str → Addr} {ms : List PySem.Str} {S : SMs} (h : SeatH CK H s sc a b adr ms S) (hd : ∀ u o, H u = some o → u ∈ s :: a :: b :: ms.map adr → u ≠ d) (k : ∀ u o, u ≠ d → H u = some o → H' u = some o) : SeatH CK H' s sc a b adr ms S := by
  obtain ⟨dx, h1⟩ := h.here
  obtain ⟨st, h2, h3⟩ := h.seating
  exact ⟨⟨dx, k _ _ (hd _ _ h1 (by simp)) h1⟩, ⟨st, k _ _ (hd _ _ h2 (by simp)) h2, h3⟩, k _ _ (hd _ _ h.seated (by simp)) h.seated, fun m hm => k _ _ (hd _ _ (h.on m hm) (by simp; exact .inr (.inr (.inr ⟨m, hm, rfl⟩)))) (h.on m hm), h.inj, h.dom, h.nd, h.ab⟩
/-- what is kept: by the greedy row over the calls in their order -/
def KeptOf (chs : Chs) (cls : Cls') (lot : List PySem.Str) : Prop := ∃ ys : List PySem.Str, ys.Perm (keysT cls) ∧ ys.Pairwise (rkLe (rkO cls)) ∧ lot.Nodup ∧ ∀ x, x ∈ lot ↔ x ∈ gr (ScM chs cls) ys
/-- a paper beside what comes ahead in the order -/
def PapOf (chs : Chs) (cls : Cls') (ys : List PySem.Str) (x : PySem.Str) (zs : List PySem.Str) : Prop := ∃ P Q, ys = P ++ x :: Q ∧ Paper (ScM chs cls) (gr (ScM chs cls) P) x zs
/-- what Kept tells of a scene -/
structure KeptM (chs : Chs) (cls : Cls') (lot : List PySem.Str) (st : List (PySem.Str × PySem.Str)) (pp : List (PySem.Str × Addr)) (zz : PySem.Str → List PySem.Str) : Prop where
  ex : ∃ (ys : List PySem.Str) (S : SMs), ys.Perm (keysT cls) ∧ ys.Pairwise (rkLe (rkO cls)) ∧ (∀ x, x ∈ lot ↔ x ∈ gr (ScM chs cls) ys) ∧ SOk (ScM chs cls) S lot ∧ (∀ c, getT st c = S.pos c) ∧ ∀ x ∈ keysT pp, PapOf chs cls ys x (zz x)
  nd : lot.Nodup
  keys : keysT st = lot
  asc : AscT st
  pnd : (keysT pp).Nodup
  psrt : sortedS (keysT pp) = true
  pmem : ∀ x, x ∈ keysT pp ↔ x ∈ keysT cls ∧ x ∉ lot
  plen : ∀ x ∈ keysT pp, (zz x).length < 64 ∧ sortedS (zz x) = true
theorem KeptM.of {chs : Chs} {cls : Cls'} {lot : List PySem.Str} {st : List (PySem.Str × PySem.Str)} {pp : List (PySem.Str × Addr)} {zz : PySem.Str → List PySem.Str} (h : KeptM chs cls lot st pp zz) : KeptOf chs cls lot := by
  obtain ⟨ys, S, pm, pw, hm, _⟩ := h.ex
  exact ⟨ys, pm, pw, h.nd, hm⟩
/-- the object of Kept -/
structure KeptH (CT : Addr) (H : Hp) (p t a e : Addr) (lot : List PySem.Str) (st : List (PySem.Str × PySem.Str)) (pp : List (PySem.Str × Addr)) (zz : PySem.Str → List PySem.Str) : Prop where
  here : ∃ dx, H p = some (.ins CT dx [("lot", .ref t), ("seating", .ref a), ("papers", .ref e)])
  lt : H t = some (.tup (lot.map V.str))
  sea : H a = some (.dK (kvT vS st))
  pap : H e = some (.dK (kvT vA pp))
  at_ : ∀ x ∈ pp, H x.2 = some (.tup ((zz x.1).map V.str))
theorem KeptH.same {CT : Addr} {H H' : Hp} {p t a e : Addr} {lot : List PySem.Str} {st : List (PySem.Str × PySem.Str)} {pp : List (PySem.Str × Addr)} {zz : PySem.Str → List PySem.Str} (h : KeptH CT H p t a e lot st pp zz) (s : Same H H') : KeptH CT H' p t a e lot st pp zz := by
  obtain ⟨dx, h1⟩ := h.here
  exact ⟨⟨dx, s _ _ h1⟩, s _ _ h.lt, s _ _ h.sea, s _ _ h.pap, fun x hx => s _ _ (h.at_ x hx)⟩
structure PPs (chs : Chs) (cls : Cls') (ys : List PySem.Str) (H' : Hp) (j : Nat) (pp : List (PySem.Str × Addr)) (zz : PySem.Str → List PySem.Str) : Prop where
  at_ : ∀ x ∈ pp, H' x.2 = some (.tup ((zz x.1).map V.str))
  pap : ∀ x ∈ keysT pp, PapOf chs cls ys x (zz x) ∧ (zz x).length < 64 ∧ sortedS (zz x) = true
  no : ∀ x ∈ keysT pp, x ∉ gr (ScM chs cls) (ys.take j)
  all : ∀ x ∈ ys.take j, x ∈ gr (ScM chs cls) (ys.take j) ∨ x ∈ keysT pp
theorem split_at {ys : List PySem.Str} {j : Nat} {c : PySem.Str} (h : ys[j]? = some c) : ys = ys.take j ++ c :: ys.drop (j + 1) := by
  obtain ⟨hj, e⟩ := List.getElem?_eq_some_iff.mp h
  rw [← e, ← List.drop_eq_getElem_cons hj, List.take_append_drop]
def spTInit (K : PySem.W.Frag) (CT CS CC : Addr) : Sp := fun vs H Q _ => ∃ (p dx sc : Addr) (chs : Chs) (cls : Cls'), vs = [.ref p, .ref sc] ∧ H p = some (.ins CT dx []) ∧ SceneH K CS CC H sc chs cls ∧ OkC chs cls ∧
  ∀ (t a e : Addr) (lot : List PySem.Str) (st : List (PySem.Str × PySem.Str)) (pp : List (PySem.Str × Addr)) (zz : PySem.Str → List PySem.Str) (H' : Hp), KeptM chs cls lot st pp zz → KeptH CT H' p t a e lot st pp zz → H a = none → H e = none → Kp [p] H H' → Q .non H'
section
variable {P : Program} {w : World} {K : PySem.W.Frag} {mg : PySem.Str → Option Value} {base : Heap}
theorem scTI : FnScope ["self", "scene", "seats", "papers", "name"] ["self", "scene"] (defScope sTInit) := ⟨rfl, rfl, rfl, by decide +kernel, rfl, by decide +kernel, by decide +kernel⟩
theorem ok_tinit {f CT CK CS CC : Addr} {fd : FuncData} (F : Fun K "__init__" "Kept.__init__" sTInit f fd) (T : TxT K mg CT CK CS) (c_Seats : CalI P w K mg base CK 1 "Seats" ["self", "scene"] (spKInit K CK CS CC)) (c_order : CalM P w K mg base CS 4 "order" ["self"] (spOrder K CS CC))
    (c_add : CalM P w K mg base CK 4 "add" ["self", "name"] (spAdd K CK CS CC)) (c_paper : CalM P w K mg base CK 3 "paper" ["self", "name"] (spPaper K CK CS CC)) : FnOk P w K mg base CX0 5 f fd ["self", "scene"] (spTInit K CT CS CC) := by
  refine F.ok scTI (fun vs H Q E h => ?_) (fun cdv A outer s H vs Q E hr h => ?_)
  · obtain ⟨p, dx, sc, chs, cls, rfl, _⟩ := h
    rfl
  · obtain ⟨p, dx, sc, chs, cls, rfl, hp, hC, ok, q⟩ := h
    have hu := hu_of hr
    refine ⟨_, (pss_cons (ps_set (i := 2) scTI.nd rfl (Or.inl rfl) (pe_calI c_Seats (hr.mono (by decide)) rfl (pa_cons (pv 1) pa_nil)))
      (pss_cons (ps_set (i := 3) scTI.nd rfl (Or.inr rfl) pe_dnewK)
      (pss_cons (ps_for PassesOwn.never rfl (pi_list (pe_calM0 (pv 1) T.clS c_order (hr.mono (by decide)))) (pg_name (i := 4) scTI.nd rfl (Or.inl rfl))
        (pss_one (ps_if (pt_not (pt_val (pe_calM (pv 2) T.clK c_add (hr.mono (by decide)) (pa_cons (pv 4) pa_nil))))
          (pss_one (ps_dput hu (pv 3) (pv 4) (pe_calM (pv 2) T.clK c_paper (hr.mono (by decide)) (pa_cons (pv 4) pa_nil)) rfl))
          pss_nil)))
      (pss_cons (ps_fld (pv 0) (pe_tupD rfl (by rfl) T.tuple (pe_fld (pv 2) rfl)) rfl)
      (pss_cons (ps_fld (pv 0) (pe_fld (pv 2) rfl) rfl)
      (pss_one (ps_fld (pv 0) (pe_dc (own := [("name", 4)]) (g := gName 4) (tt := tYes) rfl scTI.nd (pi_list (pe_callB (call_sortedD rfl) (by rfl) T.sorted boot_sorted (pa_cons (pv 3) pa_nil))) (blkOk_by (own := [("name", 4)]) (N := ["self", "scene", "seats", "papers", "name"]) (sc := defScope sTInit) (by decide +kernel)) (fun _ _ _ _ _ => pg_name (i := 4) scTI.nd rfl (Or.inl rfl)) (fun _ _ _ _ _ => pts_nil) (fun _ _ _ _ _ => (pv 4)) (fun _ _ _ _ _ => (pe_dget hu (pv 3) (pv 4) (fun _ _ => rfl)))) rfl))))))), ?_⟩
    refine ⟨_, rfl, fun p1 dx1 hp1 hdx1 npd => ?_⟩
    have s1 : Same H (upd (upd H dx1 (.own p1)) p1 (.ins CK dx1 [])) := fun b o z => by rw [upd_ne (ne_of_none z hp1), upd_ne (ne_of_none z hdx1)]; exact z
    have hp1' : (upd (upd H dx1 (.own p1)) p1 (.ins CK dx1 [])) p1 = some (.ins CK dx1 []) := upd_same
    generalize upd (upd H dx1 (.own p1)) p1 (.ins CK dx1 []) = H1 at s1 hp1' ⊢
    refine ⟨p1, dx1, sc, chs, cls, rfl, hp1', hC.same s1, ok, fun a b adr H2 hS hN ha hadr k2 => ⟨rfl, ?_⟩⟩
    have H0F : ∀ u ∈ fpS a adr (keysT chs), H u = none := fun u hu => by
      have : H1 u = none := by
        rcases List.mem_cons.mp hu with e | e
        · rw [e]; exact ha
        · obtain ⟨m, hm, e⟩ := List.mem_map.mp e
          rw [← e]; exact hadr m hm
      exact Classical.byContradiction fun z => by
        cases e : H u with
        | none => exact z e
        | some o => rw [s1 _ _ e] at this; cases this
    have s2 : Same H H2 := fun u o z => k2 u o (s1 u o z) fun hu => by rw [List.mem_singleton.mp hu, hp1] at z; cases z
    clear s1 hp1' k2 ha hadr
    refine fun d hd => ?_
    have hdF : d ∉ fpS a adr (keysT chs) := fun z => by
      rcases List.mem_cons.mp z with e | e
      · obtain ⟨st, g, _⟩ := hS.seating
        rw [← e, hd] at g; cases g
      · obtain ⟨m, hm, e⟩ := List.mem_map.mp e
        have g := hS.on m hm
        rw [e, hd] at g; cases g
    have hbd : b ≠ d := fun e => by have g := hS.seated; rw [e, hd] at g; cases g
    have hpd : p1 ≠ d := fun e => by obtain ⟨dx, g⟩ := hS.here; rw [e, hd] at g; cases g
    have hH0d : H d = none := by
      cases e : H d with
      | none => rfl
      | some o => rw [s2 _ _ e] at hd; cases hd
    have s3 : Same H2 (upd H2 d (.dK [])) := fun b o z => by rw [upd_ne (ne_of_none z hd)]; exact z
    have hd3 : upd H2 d (.dK []) d = some (.dK (kvT vA ([] : List (PySem.Str × Addr)))) := upd_same
    have hN3 := (hN.more hd).keep (Kp.same s3)
    have hS3 := hS.same s3
    generalize upd H2 d (.dK []) = H3 at s3 hd3 hN3 hS3 ⊢
    obtain ⟨dxs, xs1, xs2, hsc, _⟩ := hN3.sc
    refine ⟨_, rfl, sc, dxs, _, rfl, hsc, rfl, sc, chs, cls, rfl, hN3.scene, ok, fun lo ys H4 pm pw s4 hlo => ?_⟩
    have ndy : ys.Nodup := pm.nodup_iff.mpr ok.ndc
    have leny : ys.length < 64 := by rw [pm.length_eq]; unfold keysT; rw [List.length_map]; exact ok.lenc
    have memy : ∀ x ∈ ys, x ∈ keysT cls := fun x hx => pm.mem_iff.mp hx
    have s5 : Same H3 (upd H4 lo (.lst (ys.map V.str))) := fun b o z => by rw [upd_ne (ne_of_none (s4 _ _ z) hlo)]; exact s4 _ _ z
    have hlo5 : upd H4 lo (.lst (ys.map V.str)) lo = some (.lst (ys.map V.str)) := upd_same
    have loF : lo ∉ d :: fpS a adr (keysT chs) := fun z => by
      rcases List.mem_cons.mp z with e | e
      · have := s4 _ _ hd3; rw [← e, hlo] at this; cases this
      · rcases List.mem_cons.mp e with e | e
        · obtain ⟨st, g, _⟩ := hS3.seating
          have := s4 _ _ g; rw [← e, hlo] at this; cases this
        · obtain ⟨m, hm, e⟩ := List.mem_map.mp e
          have := s4 _ _ (hS3.on m hm); rw [e, hlo] at this; cases this
    have hd5 := s5 _ _ hd3
    have hN5 := hN3.keep (Kp.same s5)
    have hS5 := hS3.same s5
    have s25 : Same H (upd H4 lo (.lst (ys.map V.str))) := (s2.trans s3).trans s5
    generalize upd H4 lo (.lst (ys.map V.str)) = H5 at s5 hlo5 hd5 hN5 hS5 s25 ⊢
    clear s4 hlo hN3 hS3 hd3 hN hS hsc
    refine ⟨lo, rfl, ⟨_, SqL.of hlo5⟩, for_list (K := K) (xs := ys.map V.str) (fun j σ H' => ∃ S pp zz v4, σ = [some (.ref p), some (.ref sc), some (.ref p1), some (.ref d), v4] ∧ SeatH CK H' p1 sc a b adr (keysT chs) S ∧ SOk (ScM chs cls) S (gr (ScM chs cls) (ys.take j)) ∧
      H' d = some (.dK (kvT vA pp)) ∧ (∀ x ∈ keysT pp, x ∈ ys.take j) ∧ (keysT pp).Nodup ∧ Kp (d :: fpS a adr (keysT chs)) H5 H' ∧ PPs chs cls ys H' j pp zz) ⟨S0, [], fun _ => [], none, rfl, hS5, sok0 _, hd5, fun x hx => (nomatch hx), List.nodup_nil, Kp.refl _ _, ⟨fun x hx => (nomatch hx), fun x hx => (nomatch hx), fun x hx => (nomatch hx), fun x hx => (nomatch hx)⟩⟩ (fun j σ H' _ ⟨S, pp, zz, v4, _, _, _, _, _, _, k, _⟩ => SqL.of (k _ _ hlo5 loF)) ?_ ?_⟩
    · rintro j x σ H6 hx ⟨S, pp, zz, v4, rfl, hS6, O6, hd6, hpk, hnd, k6, PA⟩
      rw [List.getElem?_map] at hx
      cases hc : ys[j]? with
      | none => rw [hc] at hx; cases hx
      | some c =>
        rw [hc] at hx
        cases Option.some.inj hx
        have et : ys.take (j + 1) = ys.take j ++ [c] := by rw [List.take_add_one, hc]; rfl
        have ndj : (ys.take j).Nodup := ndy.sublist (List.take_sublist _ _)
        have cnj : c ∉ ys.take j := nd_take ndy hc
        have lenj : (ys.take j).length < 63 := by
          have := (List.getElem?_eq_some_iff.mp hc).1
          rw [List.length_take]; omega
        have gnm : ∀ x ∈ gr (ScM chs cls) (ys.take j), x ∈ keysT cls := fun x hx => memy x (List.mem_of_mem_take (gr_sub _ _ x hx))
        have gnd := gr_nd (X := ScM chs cls) ndj
        have glen : (gr (ScM chs cls) (ys.take j)).length < 63 := Nat.lt_of_le_of_lt (len_sub gnd (gr_sub _ _)) lenj
        have gcn : c ∉ gr (ScM chs cls) (ys.take j) := fun z => cnj (gr_sub _ _ c z)
        have hcm := memy c (List.mem_of_getElem? hc)
        have hN6 := hN5.keep k6
        obtain ⟨dx6, h6⟩ := hS6.here
        refine ⟨_, rfl, p1, dx6, _, rfl, h6, rfl, _, rfl, p1, sc, a, b, adr, chs, cls, S, _, c, rfl, hS6, hN6.sub (fun u hu => .tail _ hu), O6, ok, hcm, gnm, by omega, gnd, gcn, fun yes H7 S7 hS7 O7 k7 => ?_, fun no H7 s7 => ?_⟩
        · refine ⟨true, rfl, ?_⟩
          have PA7 : PPs chs cls ys H7 (j + 1) pp zz := by
            refine ⟨fun x hx => k7 _ _ (PA.at_ x hx) (hS6.not_s (PA.at_ x hx) (fun l e => (nomatch e)) fun e => ?_), PA.pap, fun x hx z => ?_, fun x hx => ?_⟩
            · obtain ⟨st, g, _⟩ := hS6.seating
              have := PA.at_ x hx
              rw [e, g] at this; cases this
            · rw [et, gr_yes yes] at z
              rcases List.mem_append.mp z with z | z
              · exact PA.no x hx z
              · exact cnj (List.mem_singleton.mp z ▸ hpk x hx)
            · rw [et] at hx ⊢
              rw [gr_yes yes]
              rcases List.mem_append.mp hx with z | z
              · exact (PA.all x z).imp (fun q => List.mem_append_left _ q) id
              · exact .inl (List.mem_append_right _ z)
          refine ⟨S7, pp, zz, _, rfl, hS7, by rw [et, gr_yes yes]; exact O7, k7 _ _ hd6 hdF, fun x hx => by rw [et]; exact List.mem_append_left _ (hpk x hx), hnd, k6.trans (k7.mono fun u hu => .tail _ hu), PA7⟩
        · refine ⟨false, rfl, ?_⟩
          have hS7 := hS6.same s7
          have h7 := s7 _ _ h6
          refine ⟨_, rfl, p1, dx6, _, rfl, h7, rfl, _, rfl, p1, sc, a, b, adr, chs, cls, S, _, c, rfl, hS7, (hN6.keep (Kp.same s7)).sub (fun u hu => .tail _ hu), O6, ok, hcm, gnm, glen, gnd, gcn, no, fun t zs H8 s8 ht8 ht0 hz8 srt8 pap8 => ?_⟩
          have hd8 := s8 _ _ (s7 _ _ hd6)
          have cpp : c ∉ keysT pp := fun z => cnj (hpk c z)
          have lpp : pp.length ≤ (ys.take j).length := by
            have := len_sub hnd hpk
            unfold keysT at this
            rwa [List.length_map] at this
          refine ⟨_, rfl, _, rfl, d, _, rfl, DPut.k (k := Sum.inr c) hd8 (by unfold kvT; rw [List.length_map, sizeLine_eq]; omega), ?_⟩
          rw [show (V.ref t : V) = vA t from rfl, put_new cpp]
          have hS8 : SeatH CK (upd H8 d (.dK (kvT vA (pp ++ [(c, t)])))) p1 sc a b adr (keysT chs) S := (hS7.same s8).offd (d := d) (fun u o z hu e => ?_) fun u o n z => by rw [upd_ne n]; exact z
          · have tne : ∀ x ∈ pp, x.2 ≠ d := fun x hx e => by
              have := PA.at_ x hx
              rw [e, hd6] at this; cases this
            have ntd : t ≠ d := fun e => by rw [e, hd8] at ht8; cases ht8
            have ek : keysT (pp ++ [(c, t)]) = keysT pp ++ [c] := by unfold keysT; rw [List.map_append]; rfl
            have PA8 : PPs chs cls ys (upd H8 d (.dK (kvT vA (pp ++ [(c, t)])))) (j + 1) (pp ++ [(c, t)]) (fun y => if y = c then zs else zz y) := by
              refine ⟨fun x hx => ?_, fun x hx => ?_, fun x hx z => ?_, fun x hx => ?_⟩
              · rcases List.mem_append.mp hx with z | z
                · have nx : x.1 ≠ c := fun e => cpp (by rw [← e]; exact List.mem_map.mpr ⟨x, z, rfl⟩)
                  rw [upd_ne (tne x z), if_neg nx]
                  exact s8 _ _ (s7 _ _ (PA.at_ x z))
                · cases List.mem_singleton.mp z
                  rw [upd_ne ntd]
                  rw [if_pos rfl]
                  exact ht8
              · rw [ek] at hx
                rcases List.mem_append.mp hx with z | z
                · have nx : x ≠ c := fun e => cpp (by rw [← e]; exact z)
                  rw [if_neg nx]
                  exact PA.pap x z
                · cases List.mem_singleton.mp z
                  rw [if_pos rfl]
                  exact ⟨⟨ys.take j, ys.drop (j + 1), split_at hc, pap8⟩, hz8, srt8⟩
              · rw [ek] at hx
                rw [et, gr_no no] at z
                rcases List.mem_append.mp hx with y | y
                · exact PA.no x y z
                · exact gcn (List.mem_singleton.mp y ▸ z)
              · rw [et] at hx ⊢
                rw [gr_no no, ek]
                rcases List.mem_append.mp hx with y | y
                · exact (PA.all x y).imp id fun q => List.mem_append_left _ q
                · exact .inr (List.mem_append_right _ y)
            refine ⟨S, pp ++ [(c, t)], _, _, rfl, hS8, by rw [et, gr_no no]; exact O6, upd_same, fun x hx => ?_, ?_, (k6.trans (Kp.same (s7.trans s8))).trans (Kp.at (by simp)), PA8⟩
            · rw [et]
              unfold keysT at hx
              rw [List.map_append] at hx
              rcases List.mem_append.mp hx with h | h
              · exact List.mem_append_left _ (hpk x h)
              · exact List.mem_append_right _ h
            · unfold keysT
              rw [List.map_append]
              exact snoc_nd hnd cpp
          · rcases List.mem_cons.mp hu with g | hu
            · exact hpd (g.symm.trans e)
            · rcases List.mem_cons.mp hu with g | hu
              · exact hdF (by rw [← e, g]; exact .head _)
              · rcases List.mem_cons.mp hu with g | hu
                · exact hbd (g.symm.trans e)
                · exact hdF (by rw [← e]; exact .tail _ hu)
    · rintro σ H6 ⟨S, pp, zz, v4, rfl, hS6, O6, hd6, hpk, hnd, k6, PA⟩
      rw [List.length_map] at PA
      rw [List.length_map, List.take_length] at O6 hpk
      have PAno := PA.no
      have PAall := PA.all
      rw [List.take_length] at PAno PAall
      obtain ⟨dx6, h6⟩ := hS6.here
      obtain ⟨st, hst, asc, lst, hget⟩ := hS6.seating
      have pF : p ∉ d :: fpS a adr (keysT chs) := fun z => by
        rcases List.mem_cons.mp z with e | e
        · rw [e, hH0d] at hp; cases hp
        · rw [H0F p e] at hp; cases hp
      have hp6 := k6 _ _ (s25 _ _ hp) pF
      have far6 : ∀ u o, H u = some o → H6 u = some o := fun u o z => k6 _ _ (s25 _ _ z) fun e => by
        rcases List.mem_cons.mp e with e | e
        · rw [e, hH0d] at z; cases z
        · rw [H0F u e] at z; cases z
      have lpp : pp.length ≤ ys.length := by
        have := len_sub hnd hpk
        unfold keysT at this
        rwa [List.length_map] at this
      refine ⟨_, rfl, p1, CK, dx6, _, _, rfl, h6, T.clK, T.n2, rfl, a, kvT vS st, rfl, .inl hst, fun t ht => ?_⟩
      rw [show ((kvT vS st).map fun kv => kV kv.1) = (keysT st).map V.str by unfold kvT keysT; rw [List.map_map, List.map_map]; rfl]
      have s7 : Same H6 (upd H6 t (.tup ((keysT st).map V.str))) := fun b o z => by rw [upd_ne (ne_of_none z ht)]; exact z
      have ht7 : upd H6 t (.tup ((keysT st).map V.str)) t = some (.tup ((keysT st).map V.str)) := upd_same
      have n_p1 : p1 ≠ p := fun e => by rw [e, hp6] at h6; injection h6 with g; injection g with g1 g2 g3; cases g3
      generalize upd H6 t (.tup ((keysT st).map V.str)) = H7 at s7 ht7 ⊢
      have hp7 := s7 _ _ hp6
      refine ⟨_, rfl, p, CT, dx, [], rfl, hp7, T.cl, T.nLot, (by show 0 < 1000; decide), ?_⟩
      rw [show putF "lot" (V.ref t) [] = ([("lot", V.ref t)] : List (PySem.Str × V)) from rfl]
      have f8 : ∀ u o, u ≠ p → H7 u = some o → upd H7 p (.ins CT dx [("lot", V.ref t)]) u = some o := fun u o n z => by rw [upd_ne n]; exact z
      have hp8 : upd H7 p (.ins CT dx [("lot", V.ref t)]) p = some (.ins CT dx [("lot", V.ref t)]) := upd_same
      generalize upd H7 p (.ins CT dx [("lot", V.ref t)]) = H8 at f8 hp8 ⊢
      refine ⟨_, rfl, p1, CK, dx6, _, _, rfl, f8 _ _ n_p1 (s7 _ _ h6), T.clK, T.n2, rfl, _, rfl, p, CT, dx, _, rfl, hp8, T.cl, T.nSea, (by show 1 < 1000; decide), ?_⟩
      rw [show putF "seating" (V.ref a) [("lot", V.ref t)] = ([("lot", V.ref t), ("seating", V.ref a)] : List (PySem.Str × V)) from rfl]
      have f9 : ∀ u o, u ≠ p → H7 u = some o → upd H8 p (.ins CT dx [("lot", V.ref t), ("seating", V.ref a)]) u = some o := fun u o n z => by rw [upd_ne n]; exact f8 _ _ n z
      have hp9 : upd H8 p (.ins CT dx [("lot", V.ref t), ("seating", V.ref a)]) p = some (.ins CT dx [("lot", V.ref t), ("seating", V.ref a)]) := upd_same
      generalize upd H8 p (.ins CT dx [("lot", V.ref t), ("seating", V.ref a)]) = H9 at f9 hp9 ⊢
      have ndp : d ≠ p := fun e => pF (by rw [e]; exact .head _)
      have hd9 := f9 _ _ ndp (s7 _ _ hd6)
      have lkp : (keysT pp).length < 64 := by unfold keysT; rw [List.length_map]; omega
      refine ⟨_, rfl, d, kvT vA pp, keysT pp, rfl, .inl hd9, keysT_kv pp, lkp, fun zs q1 hz hzs hq1 => ?_⟩
      have ndz : zs.Nodup := hz.nodup_iff.mpr hnd
      have lenz : zs.length < 64 := by rw [hz.length_eq]; exact lkp
      have s10 : Same H9 (upd H9 q1 (.lst (zs.map V.str))) := fun b o z => by rw [upd_ne (ne_of_none z hq1)]; exact z
      have hq10 : upd H9 q1 (.lst (zs.map V.str)) q1 = some (.lst (zs.map V.str)) := upd_same
      generalize upd H9 q1 (.lst (zs.map V.str)) = H10 at s10 hq10 ⊢
      refine ⟨q1, rfl, ⟨_, SqL.of hq10⟩, fun D hD => dc_list (K := K) (xs := zs.map V.str) (fun i H' => H' = upd H10 D (.dK (kvT vA ((zs.take i).map fun y => (y, (getT pp y).getD default))))) rfl (fun i H' _ e => by subst e; exact SqL.of (by rw [upd_ne (ne_of_none hq10 hD)]; exact hq10)) ?_ ?_⟩
      · rintro i x H' hx rfl
        rw [List.getElem?_map] at hx
        cases hi : zs[i]? with
        | none => rw [hi] at hx; cases hx
        | some m =>
          rw [hi] at hx
          cases Option.some.inj hx
          obtain ⟨v, hv⟩ := getT_key (hz.mem_iff.mp (List.mem_of_getElem? hi))
          refine ⟨rfl, _, rfl, _, rfl, _, rfl, d, _, rfl, dgetT (.inl (by rw [upd_ne (ne_of_none (s10 _ _ hd9) hD)]; exact s10 _ _ hd9)) hv, _, Sum.inr m, rfl, upd_same, ?_, ?_⟩
          · exact len_mk lenz
          · rw [upd_upd]
            have e : vA v = vA ((getT pp m).getD default) := by rw [hv]; rfl
            rw [e, put_mk ndz hi]
      · rintro H' rfl
        rw [List.length_map, List.take_length]
        have kz : keysT (zs.map fun y => (y, (getT pp y).getD default)) = zs := by unfold keysT; rw [List.map_map]; exact List.map_id _
        have inz : ∀ x ∈ (zs.map fun y => (y, (getT pp y).getD default)), x ∈ pp := fun x hx => by
          obtain ⟨y, hy, rfl⟩ := List.mem_map.mp hx
          obtain ⟨v, hv⟩ := getT_key (hz.mem_iff.mp hy)
          rw [hv]
          exact getT_in hv
        have kzz : ∀ x, x ∈ keysT (zs.map fun y => (y, (getT pp y).getD default)) ↔ x ∈ keysT pp := fun x => by rw [kz]; exact hz.mem_iff
        generalize (zs.map fun y => (y, (getT pp y).getD default)) = pz at kz inz kzz ⊢
        have s11 : Same H9 (upd H10 D (.dK (kvT vA pz))) := fun b o z => by rw [upd_ne (ne_of_none (s10 _ _ z) hD)]; exact s10 _ _ z
        have hD11 : upd H10 D (.dK (kvT vA pz)) D = some (.dK (kvT vA pz)) := upd_same
        have hD0 : H D = none := by
          cases e : H D with
          | none => rfl
          | some o =>
            by_cases e2 : D = p
            · rw [e2] at hD; rw [s10 _ _ hp9] at hD; cases hD
            · have z := s10 _ _ (f9 _ _ e2 (s7 _ _ (far6 D o e)))
              rw [hD] at z; cases z
        generalize upd H10 D (.dK (kvT vA pz)) = H11 at s11 hD11
        refine ⟨_, rfl, p, CT, dx, _, rfl, s11 _ _ hp9, T.cl, T.nPap, (by show 2 < 1000; decide), ?_⟩
        rw [show putF "papers" (V.ref D) [("lot", V.ref t), ("seating", V.ref a)] = ([("lot", V.ref t), ("seating", V.ref a), ("papers", V.ref D)] : List (PySem.Str × V)) from rfl]
        have ntp : t ≠ p := fun e => by rw [e, hp7] at ht7; cases ht7
        have nap : a ≠ p := fun e => by rw [e] at hst; rw [hst] at hp6; cases hp6
        have nDp : D ≠ p := fun e => by rw [e, s10 _ _ hp9] at hD; cases hD
        have domk : ∀ x, x ∈ keysT st ↔ x ∈ gr (ScM chs cls) ys := fun x => by
          rw [← O6.dom x]
          refine ⟨fun h => ?_, fun ⟨m, h⟩ => ?_⟩
          · obtain ⟨v, hv⟩ := getT_key h
            exact ⟨v, by rw [← hget]; exact hv⟩
          · rw [← hget] at h
            exact List.mem_map.mpr ⟨_, getT_in h, rfl⟩
        refine q t a D (keysT st) st pz zz _ ⟨⟨ys, S, pm, pw, domk, ⟨O6.mem, O6.nd, O6.cap, O6.hd, fun c => (O6.dom c).trans (domk c).symm⟩, hget, fun x hx => (PA.pap x ((kzz x).mp hx)).1⟩, asc.nodup, rfl, asc, by rw [kz]; exact ndz, by rw [kz]; exact hzs, fun x => ?_, fun x hx => (PA.pap x ((kzz x).mp hx)).2⟩
          ⟨⟨dx, upd_same⟩, by rw [upd_ne ntp]; exact s11 _ _ (f9 _ _ ntp ht7), by rw [upd_ne nap]; exact s11 _ _ (f9 _ _ nap (s7 _ _ hst)), by rw [upd_ne nDp]; exact hD11, fun x hx => ?_⟩ (H0F a (.head _)) hD0 fun u o z n => ?_
        · rw [kzz x, domk x]
          refine ⟨fun h => ⟨memy x (hpk x h), PAno x h⟩, fun h => (PAall x (pm.mem_iff.mpr h.1)).resolve_left h.2⟩
        · have z := PA.at_ x (inz x hx)
          have n1 : x.2 ≠ p := fun e => by rw [e, hp6] at z; cases z
          rw [upd_ne n1]
          exact s11 _ _ (f9 _ _ n1 (s7 _ _ z))
        · have nu : u ≠ p := fun e => n (List.mem_singleton.mpr e)
          rw [upd_ne nu]
          exact s11 _ _ (f9 _ _ nu (s7 _ _ (far6 u o z)))
theorem scKept : FnScope ["scene"] ["scene"] (defScope sKept) := ⟨rfl, rfl, rfl, by decide +kernel, rfl, by decide +kernel, by decide +kernel⟩
def spKept (K : PySem.W.Frag) (CS CC : Addr) : Sp := fun vs H Q _ => ∃ (sc : Addr) (chs : Chs) (cls : Cls'), vs = [.ref sc] ∧ SceneH K CS CC H sc chs cls ∧ OkC chs cls ∧
  ∀ (t : Addr) (lot : List PySem.Str) (H' : Hp), KeptOf chs cls lot → H' t = some (.tup (lot.map V.str)) → Same H H' → Q (.ref t) H'
theorem ok_kept {f CT CK CS CC : Addr} {fd : FuncData} (F : Fun K "kept" "kept" sKept f fd) (T : TxT K mg CT CK CS) (c_Kept : CalI P w K mg base CT 5 "Kept" ["self", "scene"] (spTInit K CT CS CC)) : FnOk P w K mg base CX0 7 f fd ["scene"] (spKept K CS CC) := by
  refine F.ok scKept (fun vs H Q E h => ?_) (fun cdv A outer s H vs Q E hr h => ?_)
  · obtain ⟨sc, chs, cls, rfl, _⟩ := h
    rfl
  · obtain ⟨sc, chs, cls, rfl, hC, ok, q⟩ := h
    refine ⟨_, (pss_one (ps_ret (pe_fld (pe_calI c_Kept (hr.mono (by decide)) rfl (pa_cons (pv 0) pa_nil)) rfl))), ?_⟩
    refine ⟨_, rfl, fun p dx hp hdx npd => ?_⟩
    have s1 : Same H (upd (upd H dx (.own p)) p (.ins CT dx [])) := fun b o z => by rw [upd_ne (ne_of_none z hp), upd_ne (ne_of_none z hdx)]; exact z
    have hp1 : (upd (upd H dx (.own p)) p (.ins CT dx [])) p = some (.ins CT dx []) := upd_same
    generalize upd (upd H dx (.own p)) p (.ins CT dx []) = H1 at s1 hp1 ⊢
    refine ⟨p, dx, sc, chs, cls, rfl, hp1, hC.same s1, ok, fun t a e lot st pp zz H2 hM hK _ _ k2 => ⟨rfl, ?_⟩⟩
    obtain ⟨dx2, hp2⟩ := hK.here
    refine ⟨p, CT, dx2, _, _, rfl, hp2, T.cl, T.nLot, rfl, ?_⟩
    exact q t lot H2 hM.of hK.lt fun u o z => k2 u o (s1 u o z) fun hu => by rw [List.mem_singleton.mp hu, hp] at z; cases z
end
end Mc
namespace Mc
open PySem L2 PySem.Spec PyProof.Rows
/-! ### sets of texts whose table can be walked: set(xs), sorted(s) -/
def txtOf (e : Int × Value) : PySem.Str := match e.2 with
  | .str x _ => x
  | _ => ""
def TxtE (P : Program) (w : World) (e : Int × Value) : Prop := ∃ x tk, e.2 = Value.str x tk ∧ e.1 = (mixKind P w).hash (Sum.inr x)
/-- the set of texts at a: its members are those of ys -/
structure SetX (P : Program) (w : World) (h : Heap) (a : Addr) (ys : List PySem.Str) (n : Nat) (o : Obj) (es : Array (Int × Value)) (ep : Nat) (t : SetTable) : Prop where
  at_ : h.get? a = some o
  ex : o.ExactSet
  dat : o.data = .set es ep t
  good : ∀ e ∈ es.toList, TxtE P w e
  nd : (es.toList.map txtOf).Nodup
  mem : ∀ k, k ∈ ys ↔ k ∈ es.toList.map txtOf
  room : es.size < scanBound
  fits : t.fits es.size = true
  num : es.size = n
  ris : Ris t.place.toList
  led : w.params.followText "set-order" = true ∨ t.led = true
def SetXs (P : Program) (w : World) (h : Heap) (a : Addr) (ys : List PySem.Str) (n : Nat) : Prop := ∃ o es ep t, SetX P w h a ys n o es ep t
section
variable {P : Program} {w : World} {A : Around} {E : Value → Shared → Prop} {s : Shared} {a : Addr} {ys : List PySem.Str} {n : Nat} {h h' : Heap}
theorem SetXs.at (R : SetXs P w h a ys n) (k : ∀ o, h.get? a = some o → h'.get? a = some o) : SetXs P w h' a ys n := by
  obtain ⟨o, es, ep, t, r⟩ := R
  exact ⟨o, es, ep, t, k o r.at_, r.ex, r.dat, r.good, r.nd, r.mem, r.room, r.fits, r.num, r.ris, r.led⟩
theorem txt_elems {l : List (Int × Value)} (g : ∀ e ∈ l, TxtE P w e) : ElemsOf (mixKind P w) l := fun e he => by
  obtain ⟨x, tk, h1, h2⟩ := g e he
  exact ⟨⟨Sum.inr x, by rw [h1]; exact beq_self_eq_true x, h2⟩, by rw [h1]; rfl⟩
theorem txt_is {e : Int × Value} (g : TxtE P w e) (k : PySem.Str) : (mixKind P w).is (Sum.inr k) e.2 = true ↔ txtOf e = k := by
  obtain ⟨x, tk, h1, _⟩ := g
  unfold txtOf
  rw [h1]
  show ((x == k) = true) ↔ x = k
  exact beq_iff_eq
theorem txt_mem {l : List (Int × Value)} (g : ∀ e ∈ l, TxtE P w e) (k : PySem.Str) : k ∈ l.map txtOf ↔ ∃ e ∈ l, (mixKind P w).is (Sum.inr k) e.2 = true := by
  rw [List.mem_map]
  exact ⟨fun ⟨e, he, q⟩ => ⟨e, he, (txt_is (g e he) k).2 q⟩, fun ⟨e, he, q⟩ => ⟨e, he, (txt_is (g e he) k).1 q⟩⟩
/-- behind the laying: the table may grow -/
theorem setX_tail {g : Bool → Sem Unit} (hg : ∀ (b : Bool) (s₁ : Shared) (Q' : Unit → Shared → Prop), Q' () s₁ → wpAny (model P w) A (g b) Q' E s₁) {o : Obj} {es : Array (Int × Value)} {ep : Nat} {t : SetTable} (ho : s.heap.get? a = some o) (hex : o.ExactSet)
    (hd : o.data = .set es ep t) {e1 : Array (Int × Value)} {t2 : SetTable} {zs : List PySem.Str} (g1 : ∀ e ∈ e1.toList, TxtE P w e) (nd1 : (e1.toList.map txtOf).Nodup) (m1 : ∀ k, k ∈ zs ↔ k ∈ e1.toList.map txtOf) (hb1 : e1.size < scanBound) (hf2 : t2.fits e1.size = true)
    (hr : Ris t2.place.toList) (hl : w.params.followText "set-order" = true ∨ t2.led = true) {dum : Bool} {R : Option Bool → Shared → Prop} (hR : ∀ h', Heap.SameBut a s.heap h' → SetXs P w h' a zs e1.size → R (some true) { s with heap := h' }) :
    wpAny (model P w) A (do
        storeSet a e1 t2
        if (!dum && t2.tooFull) = true then do
            g (relayAll t2 e1 (SetTable.grown e1.size)).2.2
            storeSet a (relayAll t2 e1 (SetTable.grown e1.size)).1 (relayAll t2 e1 (SetTable.grown e1.size)).2.1
            pure (some true)
          else pure (some true)) R E s := by
  refine wpAny_bind (wpAny_storeSet_of ho hd ?_ (fits_of_scanBound hb1))
  have at1 := store_at (es' := e1) (t' := t2) ho hd
  have sb1 := Heap.SameBut.update s.heap a (Obj.putSet e1 t2)
  split
  · have pm := relayAll_perm t2 e1 (SetTable.grown e1.size)
    have f3 := relayAll_fits t2 e1 (SetTable.grown e1.size)
    have r3 := relayAll_ris t2 e1 (SetTable.grown e1.size)
    have l3 := relayAll_led t2 e1 (SetTable.grown e1.size)
    generalize relayAll t2 e1 (SetTable.grown e1.size) = Z at pm f3 r3 l3 ⊢
    obtain ⟨e2, t3, gave⟩ := Z
    dsimp only at pm f3 r3 l3 ⊢
    have hsz : e2.size = e1.size := by rw [← Array.length_toList, pm.length_eq, Array.length_toList]
    refine wpAny_bind (hg _ _ _ (wpAny_bind (wpAny_storeSet_of at1 rfl ?_ (fits_of_scanBound (by rw [hsz]; exact hb1)))))
    refine wpAny_pure (hR _ (sb1.trans (Heap.SameBut.update _ a _)) ⟨_, e2, _, t3, store_at (es' := e2) (t' := t3) at1 rfl, hex, rfl, fun e he => g1 e (pm.mem_iff.mp he), (pm.map txtOf).nodup_iff.mpr nd1, fun k => (m1 k).trans (pm.map txtOf).mem_iff.symm, by rw [hsz]; exact hb1, f3, hsz, r3, hl.imp id fun z => by rw [l3]; exact z⟩)
  · exact wpAny_pure (hR _ sb1 ⟨_, e1, _, t2, at1, hex, rfl, g1, nd1, m1, hb1, hf2, rfl, hr, hl⟩)
theorem setX_add {k : PySem.Str} {tk : Tok} {Q : Bool → Shared → Prop} (R : SetXs P w s.heap a ys n) (room : n + 1 < scanBound)
    (hQ : ∀ b h' n', Heap.SameBut a s.heap h' → SetXs P w h' a (ys ++ [k]) n' → n' ≤ n + 1 → Q b { s with heap := h' }) : wpAny (model P w) A (setAddHashed a (.str k tk) ((mixKind P w).hash (Sum.inr k))) Q E s := by
  obtain ⟨o, es, ep, t, R⟩ := R
  have ho := R.at_
  have hd := R.dat
  have hkey : (mixKind P w).is (Sum.inr k) (.str k tk) = true := beq_self_eq_true k
  have hsc : (Value.str k tk).scannable = true := rfl
  have hel : ElemsOf (mixKind P w) es.toList := txt_elems R.good
  unfold setAddHashed setAddHashedIn
  refine wpAny_holding (wpAny_bind (wpAny_setState_of ho hd R.fits ?_))
  dsimp only
  rw [byScan_of hsc R.room hel]
  simp only [↓reduceIte]
  unfold setAddByScan
  refine wpAny_bind (wpAny_bind (wpAny_rule (wpAny_bind (wpAny_setScan_of hkey ho hd R.fits hel ?_))))
  cases hfi : List.findIdx? (fun e => (mixKind P w).is (Sum.inr k) e.2) es.toList with
  | some j =>
    dsimp only
    obtain ⟨hj, pj, _⟩ := List.findIdx?_eq_some_iff_getElem.mp hfi
    have hk : k ∈ ys := (R.mem k).2 ((txt_mem (P := P) (w := w) R.good k).2 ⟨es.toList[j], List.getElem_mem hj, pj⟩)
    refine wpAny_pure (wpAny_pure ?_)
    exact hQ _ s.heap n (Heap.SameBut.refl a s.heap) ⟨o, es, ep, t, ho, R.ex, hd, R.good, R.nd, fun i => by
      rw [List.mem_append, List.mem_singleton, ← R.mem i]
      exact ⟨fun z => z.elim id (fun e => e ▸ hk), .inl⟩, R.room, R.fits, R.num, R.ris, R.led⟩ (Nat.le_succ _)
  | none =>
    dsimp only
    have hnk : k ∉ es.toList.map txtOf := fun z => by
      obtain ⟨e, he, q⟩ := (txt_mem (P := P) (w := w) R.good k).1 z
      have c := List.findIdx?_eq_none_iff.mp hfi e he
      rw [q] at c
      cases c
    have hgw : ∀ (b : Bool) {s₁ : Shared} {Q' : Unit → Shared → Prop}, Q' () s₁ → wpAny (model P w) A (match b with | true => rule "set.scan.the-table-gave-way" | false => pure ()) Q' E s₁ :=
      fun b s₁ Q' q => by cases b <;> first | exact wpAny_pure q | exact wpAny_rule q
    have pm := layNew_perm t es ((mixKind P w).hash (Sum.inr k)) (.str k tk)
    have f1 := layNew_fits t es ((mixKind P w).hash (Sum.inr k)) (.str k tk)
    have r1 := layNew_ris t es ((mixKind P w).hash (Sum.inr k)) (.str k tk) R.ris
    have l1 := layNew_led t es ((mixKind P w).hash (Sum.inr k)) (.str k tk)
    generalize layNew t es ((mixKind P w).hash (Sum.inr k)) (.str k tk) = Z at pm f1 r1 l1 ⊢
    obtain ⟨e1, t1, dum, gave⟩ := Z
    dsimp only at pm f1 r1 l1 ⊢
    rw [Array.toList_push] at pm
    have pc : e1.toList.Perm (((mixKind P w).hash (Sum.inr k), Value.str k tk) :: es.toList) := pm.trans (List.perm_append_singleton _ _)
    have pk : (e1.toList.map txtOf).Perm (k :: es.toList.map txtOf) := pc.map txtOf
    have g1 : ∀ e ∈ e1.toList, TxtE P w e := fun e he => by
      rcases List.mem_cons.mp (pc.mem_iff.mp he) with z | z
      · rw [z]; exact ⟨k, tk, rfl, rfl⟩
      · exact R.good e z
    have nd1 : (e1.toList.map txtOf).Nodup := pk.nodup_iff.mpr (List.nodup_cons.mpr ⟨hnk, R.nd⟩)
    have m1 : ∀ i, i ∈ ys ++ [k] ↔ i ∈ e1.toList.map txtOf := fun i => by
      rw [List.mem_append, List.mem_singleton, R.mem i, pk.mem_iff, List.mem_cons]
      exact Or.comm
    have hsz : e1.size = n + 1 := by rw [← Array.length_toList, pc.length_eq, List.length_cons, Array.length_toList, R.num]
    have hb1 : e1.size < scanBound := by rw [hsz]; exact room
    have hled : w.params.followText "set-order" = true ∨ t1.led = true := R.led.imp id fun z => by rw [l1]; exact z
    have fin : ∀ b h', Heap.SameBut a s.heap h' → SetXs P w h' a (ys ++ [k]) e1.size → Q b { s with heap := h' } := fun b h' sb r => hQ b h' _ sb r (Nat.le_of_eq hsz)
    refine wpAny_bind (hgw _ ?_)
    split
    · refine wpAny_bind ?_
      rw [hashByValue_scannable 8 hsc]
      refine wpAny_pure ?_
      refine setX_tail ?_ ho R.ex hd g1 nd1 m1 hb1 ?_ ?_ ?_ ?_
      · intro b s₁ Q' q; cases b <;> first | exact wpAny_pure q | exact wpAny_rule q
      · first | (split <;> first | exact f1 | exact SetTable.fits_plain_off f1) | exact f1
      · first | (split <;> exact r1) | exact r1
      · first | (split <;> exact hled) | exact hled
      · intro h' sb r; dsimp only; exact wpAny_pure (fin _ h' sb r)
    · refine wpAny_bind (wpAny_pure ?_)
      simp only [↓reduceIte]
      refine setX_tail ?_ ho R.ex hd g1 nd1 m1 hb1 f1 r1 hled ?_
      · intro b s₁ Q' q; cases b <;> first | exact wpAny_pure q | exact wpAny_rule q
      · intro h' sb r; dsimp only; exact wpAny_pure (fin _ h' sb r)
end

/-- a set under way: it holds the first i of ys -/
def PartX (P : Program) (w : World) (ys : List PySem.Str) (a : Addr) (h : Heap) (i : Nat) (c : Nat) : Prop := SetXs P w h a (ys.take i) c ∧ c ≤ i
section
variable {P : Program} {w : World} {A : Around} {E : Value → Shared → Prop} {s : Shared} {ys : List PySem.Str}
theorem PartX.at {a : Addr} {h h' : Heap} {i c : Nat} (p : PartX P w ys a h i c) (k : ∀ o, h.get? a = some o → h'.get? a = some o) : PartX P w ys a h' i c := ⟨p.1.at k, p.2⟩
theorem PartX.start {h : Heap} {a : Addr} (ho : h.get? a = some (so (!w.params.followText "set-order"))) : PartX P w ys a h 0 0 :=
  ⟨⟨_, #[], 0, _, ho, ⟨rfl, rfl, rfl⟩, rfl, (fun e he => by simp at he), (by simp), (fun k => by simp), (by decide), (by rfl), rfl, List.Pairwise.nil, by
    show _ ∨ (!w.params.followText "set-order") = true
    cases w.params.followText "set-order"
    · exact .inr rfl
    · exact .inl rfl⟩, Nat.le_refl _⟩
theorem code_setX1 (x : Value) {Q₁ : Value → Shared → Prop} (h : Q₁ (.ref s.heap.objs.size) { s with heap := s.heap.push (so (!w.params.followText "set-order")) }) :
    codeAny (model P w) A (.call (.builtin "set.__new__") ⟨[.type "set", x], []⟩) (wants Q₁ E) s := by
  refine codeAny_of_tree ?_
  show wpAny _ A.in1 (checkBuiltinCall "set.__new__" ⟨[.type "set", x], []⟩ >>= fun _ => again (.builtin "set.__new__" ⟨[.type "set", x], []⟩)) _ _ s
  refine wpAny_bind (wpAny_of_eq (PySem.F.newCall_set_1 x) (wpAny_pure ⟨plainId_quiet PySem.F.plain_set_new _, codeAny_builtin PySem.F.entry_set_new ?_⟩))
  rw [Around.under_plainId PySem.F.plain_set_new _]
  unfold Builtin.«set.__new__» Builtin.Frozenset.newClass
  have hsub := sub_set_self
  obtain ⟨hp, g, d, tk, os⟩ := s
  dsimp only
  wp_walk
  refine wpAny_askSetting (wpAny_pure ?_)
  dsimp only
  simp only [newObj]
  exact wpAny_bind (wpAny_alloc (wpAny_pure (wpAny_pure h)))
theorem fillX {I : Addr} {fp wr : List Addr} {G : Array GenState → Array GenState → Prop} {n : Nat} {Pv : Nat → Value → Prop} {St : Nat → Shared → Prop} {R : Result → Shared → Prop} (W : WalksS P w A.in1 I fp wr G n Pv St)
    {a : Addr} (ha : a ∉ fp) (hn : n = ys.length) (hb : n + 1 < scanBound) (hv : ∀ i v, Pv i v → ∃ y t, ys[i]? = some y ∧ v = .str y t) (fin : ∀ s' c, Moved (a :: wr) G s s' → PartX P w ys a s'.heap n c → R (.ok (.ret .none)) s') :
    ∀ (k i c : Nat) (s1 : Shared), i + k = n → St i s1 → PartX P w ys a s1.heap i c → Moved (a :: wr) G s s1 → codeAny (model P w) A (.builtin "set.update.loop" ⟨[.ref a, .ref I], []⟩) R s1
  | 0, i, c, s1, e, st, p, mv => codeAny_builtin F.entry_set_update_loop <| by
    cases (Nat.add_zero i).symm.trans e
    rw [Around.under_plainId F.plain_set_update_loop _]
    refine wpAny_bind (m := pyNext (.ref I)) (W.done s1 _ _ st fun s2 hm => wpAny_pure ?_)
    exact fin s2 c (mv.trans W.gtrans (hm.mono fun b z => .tail _ z)) (p.at fun o => hm.heap a o fun z => ha (W.sub _ z))
  | k + 1, i, c, s1, e, st, p, mv => codeAny_builtin F.entry_set_update_loop <| by
    rw [Around.under_plainId F.plain_set_update_loop _]
    refine wpAny_bind (m := pyNext (.ref I)) (W.item i s1 _ _ (by omega) st fun v s2 pv st2 hm => ?_)
    obtain ⟨y, t, hy, ev⟩ := hv i v pv
    subst ev
    have p2 := p.at fun o => hm.heap a o fun z => ha (W.sub _ z)
    refine wpAny_bind (m := holding [Value.str y t] (setAdd a (.str y t))) (wpAny_holding (wpAny_holding ?_))
    refine wpAny_bind ((mixKind P w).pyHash (k := Sum.inr y) (beq_self_eq_true y) ?_)
    refine setX_add (s := { s2 with toks := s2.toks + 1 }) p2.1 (by have := p2.2; omega) fun bb h' c' but so' le' => wpAny_pure ?_
    have p3 : PartX P w ys a h' (i + 1) c' := ⟨by rw [List.take_add_one, hy]; exact so', by have := p2.2; omega⟩
    have far : ∀ b, b ≠ a → ∀ o, s2.heap.get? b = some o → h'.get? b = some o := fun b ne o z => (but.2 b ne).trans z
    refine ⟨plainId_quiet F.plain_set_update_loop _, fillX W ha hn hb hv fin k (i + 1) c' _ (by omega) ?_ p3 ?_⟩
    · exact W.frame _ s2 _ _ st2 (Nat.le_succ _) fun b hb o z => far b (fun q => ha (by rw [← q]; exact hb)) o z
    · exact mv.trans W.gtrans (((hm.mono fun b z => .tail _ z)).then_heap (Nat.le_succ _) fun b o hb z => far b (fun q => hb (by rw [q]; exact .head _)) o z)
set_option maxHeartbeats 6400000 in
theorem call_setX {l : Addr} {its : Array Value} {Q : Value → Shared → Prop} (hh : A.handled = none) (hl : s.heap.IsList l its) (hv : ∀ (i : Nat) v, its[i]? = some v → ∃ y t, ys[i]? = some y ∧ v = .str y t) (hn : its.size = ys.length) (hb : its.size + 1 < scanBound)
    (fin : ∀ (h' : Heap) (tk c : Nat), PartX P w ys s.heap.objs.size h' ys.length c → (∀ b o, s.heap.get? b = some o → h'.get? b = some o) → Q (.ref s.heap.objs.size) { s with heap := h', toks := tk }) :
    wpAny (model P w) A (call (.type "set") [.ref l]) Q E s := by
  have F0 := PySem.F.called_set
  obtain ⟨cc, tl, m1⟩ := F0.mro
  have m2 := F0.made
  have m3 := F0.sub
  have m4 := F0.notType
  have m5 := F0.canCreate
  have m6 := PySem.F.typeCall_set_1 (.ref l)
  refine wpAny_call <| codeAny_of_tree <| wpAny_pure ⟨Code.quiet_builtin _ (by decide +kernel), codeAny_builtin PySem.F.entry_type_call <| by
    rw [Around.under_plain (weight_type_call_type "set" [.ref l] []) rfl]
    repeat (any_goals (first | assumption | wp_step))
    refine codeAny_mono (code_setX1 (.ref l) (E := E) (Q₁ := fun v s1 => v = .ref s.heap.objs.size ∧ s1 = { s with heap := s.heap.push (so (!w.params.followText "set-order")) }) ⟨rfl, rfl⟩) ?_
    intro r s1 hr
    match r, hr with
    | .error e, hr => exact hr
    | .ok (.ret v), ⟨e1, e2⟩ =>
      subst e1; subst e2
      have at0 : (s.heap.push (so (!w.params.followText "set-order"))).get? s.heap.objs.size = some (so (!w.params.followText "set-order")) := Heap.get?_push_size _ rfl
      have ty : Shared.TypeIs { s with heap := s.heap.push (so (!w.params.followText "set-order")) } (.ref s.heap.objs.size) "set" := ⟨_, at0, rfl⟩
      have n1 := F0.init.lookup
      have n2 := F0.init.bind (.ref s.heap.objs.size)
      repeat (any_goals (first | assumption | wp_step))
      refine codeAny_mono (codeAny_call_builtin (R := wants (fun r s2 => r = .none ∧ ∃ h' tk c, s2 = { s with heap := h', toks := tk } ∧ PartX P w ys s.heap.objs.size h' ys.length c ∧ ∀ b o, s.heap.get? b = some o → h'.get? b = some o) E) F0.init.plain PySem.F.entry_set_init (check_set_init_1 ty ?_)) ?_
      rotate_left 1
      · intro r2 s2 hr2
        match r2, hr2 with
        | .error e, hr2 => exact hr2
        | .ok (.ret r), ⟨e1, h', tk, c, e2, pt, kp⟩ =>
          subst e1; subst e2
          repeat (any_goals (first | assumption | wp_step))
          exact fin h' _ c pt kp
      · have pre : ∀ b o, s.heap.get? b = some o → (s.heap.push (so (!w.params.followText "set-order"))).get? b = some o := fun b o z => Heap.get?_push_of_some _ z
        obtain ⟨ob, hob, hc, nn, hd⟩ := hl
        obtain ⟨c0, d0, dat, sl0⟩ := ob
        cases hc; cases hd
        have hob1 := pre _ _ hob
        have il : (s.heap.push (so (!w.params.followText "set-order"))).IsList l its := ⟨_, hob1, rfl, nn, rfl⟩
        have q1 := PySem.F.sub_list_set
        have q2 := PySem.F.sub_list_frozenset
        have q3 : (Value.type "list" == Value.type "dict") = false := by decide
        unfold Builtin.«set.__init__» noKeywords Builtin.Frozenset.updateFrom
        generalize hPI : pyIter = PI
        wp_walk
        cases hPI
        refine wpAny_pyIter_list il (wpAny_bind (wpAny_runValue ?_))
        have z1 : (s.heap.push (so (!w.params.followText "set-order"))).objs.size = s.heap.objs.size + 1 := Heap.size_push ..
        have z2 : l < s.heap.objs.size := Heap.lt_size hob
        have ne : l ≠ (s.heap.push (so (!w.params.followText "set-order"))).objs.size := by rw [z1]; exact Nat.ne_of_lt (Nat.lt_succ_of_lt z2)
        have out : s.heap.objs.size ∉ [(s.heap.push (so (!w.params.followText "set-order"))).objs.size, l] := by
          rw [z1]; simp only [List.mem_cons, List.not_mem_nil, or_false, not_or]; exact ⟨Nat.ne_of_lt (Nat.lt_succ_self _), Nat.ne_of_gt z2⟩
        have hd3 : A.in1.in1.in1.handled = none := by simp [hh]
        refine fillX (ys := ys) ((Walks.list hd3 _ l ne its).toS) out hn hb hv ?_ its.size 0 0 _ (Nat.zero_add _) ⟨⟨_, Heap.get?_push_size _ rfl, rfl, rfl⟩, il.push _⟩ (PartX.start (Heap.get?_push_of_some _ at0)) (Moved.refl fun _ => rfl)
        rintro ⟨h', g', d', tk', os'⟩ c mv pt
        cases show g' = s.gens from mv.gens
        cases show d' = s.drawn from mv.drawn
        cases show os' = s.os from mv.os
        refine wpAny_pure (wpAny_pure ⟨rfl, h', tk', c, rfl, hn ▸ pt, fun b o z => ?_⟩)
        have lt : b < s.heap.objs.size := Heap.lt_size z
        refine mv.heap b o ?_ (Heap.get?_push_of_some _ (pre b o z))
        rw [z1]; simp only [List.mem_cons, List.not_mem_nil, or_false, not_or]; exact ⟨Nat.ne_of_lt lt, Nat.ne_of_lt (Nat.lt_succ_of_lt lt)⟩
  ⟩
end
section
variable {X : Cx}
/-- the set of texts at p: its members are those of ys -/
def SetXO (P : Program) (w : World) (p : Addr) (ys : List PySem.Str) (n : Nat) : HO := .ext fun h => SetXs P w h p ys n
def rSetX (K : PySem.W.Frag) (P : Program) (w : World) : List V → Hp → VK → Prop := fun xs H Q => ∃ (l : Addr) (ys : List PySem.Str), xs = [.ref l] ∧ SqL K H l (ys.map V.str) ∧ ys.length < 64 ∧ ∀ (p : Addr) (n : Nat), H p = none → n ≤ ys.length → Q (.ref p) (upd H p (SetXO P w p ys n))
theorem setX_new {P : Program} {w : World} {H : Hp} {h : Heap} {a : Addr} {ys : List PySem.Str} {n : Nat} (R : SetXs P w h a ys n) : ObjOk P w H h a (SetXO P w a ys n) := by
  have ⟨o, _, _, _, r⟩ := R
  exact ⟨R, ⟨o, r.at_⟩, fun h1 h2 p k => SetXs.at p k⟩
theorem cr_setX (hc : X.calm = true) : CallR X (.type "set") (rSetX X.K X.prog X.w) := by
  intro pins s σ H xs us Q I r ⟨l, ys, e, hl, h64, q⟩
  subst e
  obtain ⟨u, eu, ru⟩ := r.one
  subst eu; cases ru
  obtain ⟨its, rv, pl, hz⟩ := I.list hl
  have hlen : its.toArray.size = ys.length := by rw [List.size_toArray, ← rv.length, List.length_map]
  refine call_setX (ys := ys) (I.ok.hd hc) pl.isList (fun i v hv => ?_) hlen (by rw [hlen]; unfold scanBound; omega) fun h' tk c pt kp => ?_
  · have hv' : its[i]? = some v := by simpa using hv
    cases hy : ys[i]? with
    | none => rw [rv.none_of (by rw [List.getElem?_map, hy]; rfl)] at hv'; cases hv'
    | some y =>
      obtain ⟨v', h1, ⟨t, h2⟩⟩ := rv.get (i := i) (x := .str y) (by rw [List.getElem?_map, hy]; rfl)
      rw [hv'] at h1; cases h1
      exact ⟨y, t, rfl, h2⟩
  · have e1 : ys.take ys.length = ys := List.take_length
    have po := pt.1
    rw [e1] at po
    exact ⟨.ref _, upd H s.heap.objs.size (SetXO X.prog X.w s.heap.objs.size ys c), I.laid (t' := tk) kp (Nat.le_refl _) (setX_new po), rfl, q _ c (I.hok.fresh (Nat.le_refl _)) pt.2⟩
end
end Mc
namespace Mc
open PySem L2 PySem.Spec PyProof.Rows
/-! ### sorted(a set of texts), sorted(a tuple of texts) -/
section
variable {P : Program} {w : World} {A : Around} {E : Value → Shared → Prop} {s : Shared} {a : Addr} {ys : List PySem.Str} {n : Nat}
theorem strs_txt : ∀ (l : List Value), (∀ v ∈ l, ∃ x tk, v = Value.str x tk) → ∃ xs, StrsAre l xs ∧ xs = l.map fun v => txtOf (0, v)
  | [], _ => ⟨[], .nil, rfl⟩
  | v :: l, h => by
    obtain ⟨x, tk, rfl⟩ := h v List.mem_cons_self
    obtain ⟨xs, h1, h2⟩ := strs_txt l fun u hu => h u (List.mem_cons_of_mem _ hu)
    exact ⟨x :: xs, .cons x tk h1, by rw [List.map_cons, ← h2]; rfl⟩
/-- the tail of sorted: the new list is sorted -/
theorem srt_tail {vs : List Value} {xs : List PySem.Str} {Q : Value → Shared → Prop} (hS : StrsAre vs xs) (h64 : xs.length < 64)
    (fin : ∀ (h' : Heap) (p : Addr) (out : List Value) (c : Nat) (zs : List PySem.Str), (∀ b o, s.heap.get? b = some o → h'.get? b = some o) → s.heap.objs.size ≤ p → h'.get? p = some (seqObj "list" out.toArray c) → StrsAre out zs → zs.Perm xs → sortedS zs = true → Q (.ref p) { s with heap := h' }) :
    wpAny (model P w) A (newList vs >>= fun l => holding [l] (call (.builtin "list.sort") [l] []) >>= fun _ => ret l) (fun f s' => ∃ v, f = Fin.done (.ret v) ∧ Q v s') E s := by
  have hl : vs.length = xs.length := hS.len_eq
  refine wpAny_bind (wpAny_newList ?_ (by rw [hl, sizeLine_eq]; omega))
  have hoL : (s.heap.push (seqObj "list" vs.toArray 0)).get? s.heap.objs.size = some (seqObj "list" vs.toArray 0) := Heap.get?_push_size _ rfl
  refine wpAny_bind (wpAny_holding (wpAny_call_entry slot_list_sort ⟨_, hoL, rfl⟩ entry_list_sort
    (list_sort_treeK strKind_oneLt (s := { s with heap := s.heap.push (seqObj "list" vs.toArray 0) }) hoL hS.keysOf (fun v₁ v₂ rest e => keyKind_strs (by rw [← e]; exact hS)) (by rw [hl]; exact h64) fun st' hp hs => ⟨_, rfl, ?_⟩) (args_list_sort _)))
  obtain ⟨zs, g1, g2, g3⟩ := sorted_out_str hS hp hs
  obtain ⟨c, hc⟩ := sortedHeap_at (vs := vs) (out := (arrOf st').map (·.2)) hoL
  refine wpAny_pure ⟨_, rfl, fin _ s.heap.objs.size ((arrOf st').map (·.2)).toList c zs (fun b o e => ?_) (Nat.le_refl _) (by rw [Array.toArray_toList]; exact hc) g1 g2 g3⟩
  have hb := Heap.lt_size e
  rw [sortedHeap_old (Nat.ne_of_lt hb) (by rw [size_push']; exact Nat.lt_succ_of_lt hb)]
  exact Heap.get?_push_of_some _ e
end
section
variable {X : Cx}
def rSrtX (P : Program) (w : World) : List V → Hp → VK → Prop := fun xs H Q => ∃ (a : Addr) (ys : List PySem.Str) (n : Nat), xs = [.ref a] ∧ H a = some (SetXO P w a ys n) ∧ n < 64 ∧
  ∀ (zs : List PySem.Str) (p : Addr), zs.Nodup → (∀ x, x ∈ zs ↔ x ∈ ys) → sortedS zs = true → H p = none → Q (.ref p) (upd H p (.lst (zs.map V.str)))
theorem cr_srtX (hc : X.calm = true) : CallR X (.builtin "sorted") (rSrtX X.prog X.w) := by
  intro pins s σ H xs us Q I r h
  obtain ⟨a, ys, n, rfl, ha, h64, q⟩ := h
  obtain rfl := Vals.ref1 r
  obtain ⟨o, es, ep, t, R⟩ := ((I.hok a _ ha).1 : SetXs X.prog X.w s.heap a ys n)
  refine Calls.call_function_entry kind_sorted plain_sorted entry_sorted (args_sorted1 _) ?_
  unfold Builtin.«sorted»
  refine wpAny_bind (m := checkCount "sorted" 1 1 _) (wpAny_pure ?_)
  refine wpAny_bind (collect_set (A := X.A.in1) (I.ok.hd hc) ⟨o, R.at_, R.ex.1, R.dat⟩ R.fits R.room R.ris R.led fun s1 vs k1 hz g1 o1 pm => ?_)
  have hvt : ∀ v ∈ vs, ∃ x tk, v = Value.str x tk := fun v hv => by
    obtain ⟨e, he, q⟩ := List.mem_map.mp (pm.mem_iff.mp hv)
    obtain ⟨x, tk, h1, _⟩ := R.good e he
    exact ⟨x, tk, by rw [← q]; exact h1⟩
  obtain ⟨xs, hS, ex⟩ := strs_txt vs hvt
  have pk : xs.Perm (es.toList.map txtOf) := by
    have z := pm.map fun v => txtOf (0, v)
    rw [List.map_map] at z
    rw [ex]
    exact z
  have hlx : xs.length = n := by rw [pk.length_eq, List.length_map, Array.length_toList]; exact R.num
  refine wpAny_mono (srt_tail (A := X.A.in1) (Q := EP X pins σ Q) hS (by rw [hlx]; exact h64) fun h' p out c zs k hp hg hz' pz sz => ?_) (fun _ _ z => z) fun _ _ z => z
  have hlen : (zs.map V.str).length ≤ sizeLine := by rw [List.length_map, pz.length_eq, hlx, sizeLine_eq]; omega
  have hp' : s.heap.objs.size ≤ p := Nat.le_trans hz hp
  have kk : ∀ b u, s.heap.get? b = some u → h'.get? b = some u := fun b u z => k b u (k1 b u z)
  have hn : H p = none := I.hok.fresh hp'
  have J : Inv X pins σ (upd H p (.lst (zs.map V.str))) { s with heap := h', gens := s1.gens, drawn := s1.drawn, toks := s1.toks } :=
    I.call (ch := []) (Un.laid kk hp' hn) (I.hok.laid kk hp' ⟨hlen, out, c, vals_of_strs hz', hg⟩) (by rw [g1]; exact I.bare) (fun _ z => nomatch z)
  have e : { s1 with heap := h' } = { s with heap := h', gens := s1.gens, drawn := s1.drawn, toks := s1.toks } := by
    cases s1
    cases s
    cases o1
    rfl
  rw [e]
  refine ⟨.ref p, _, J, rfl, q zs p (((pz.trans pk).nodup_iff).mpr R.nd) (fun x => ?_) sz hn⟩
  rw [(pz.trans pk).mem_iff, R.mem x]
/-- sorted(t), t a tuple of texts -/
def rSrtT (K : PySem.W.Frag) : List V → Hp → VK → Prop := fun vs H Q => ∃ (a : Addr) (xs : List PySem.Str), vs = [V.ref a] ∧ SqT K H a (xs.map V.str) ∧ xs.length < 64 ∧ ∀ (ys : List PySem.Str) (p : Addr), ys.Perm xs → sortedS ys = true → H p = none → Q (.ref p) (upd H p (.lst (ys.map V.str)))
theorem cr_srtT : CallR X (.builtin "sorted") (rSrtT X.K) := by
  intro pins s σ H vs us Q I r h
  obtain ⟨a, xs, rfl, ha, h64, q⟩ := h
  obtain rfl := Vals.ref1 r
  obtain ⟨its, rv, pl, hz⟩ := I.tuple ha
  obtain ⟨ob, ho, hcl, nn, hdt⟩ := pl
  have hS : StrsAre its xs := strs_of_vals rv
  have hl : its.length = xs.length := hS.len_eq
  refine Calls.call_function_entry kind_sorted plain_sorted entry_sorted (args_sorted1 _) ?_
  unfold Builtin.«sorted»
  refine wpAny_bind (m := checkCount "sorted" 1 1 _) (wpAny_pure ?_)
  refine wpAny_bind (collect_tupE ho hcl hdt (by rw [hl, sizeLine_eq]; omega) ?_)
  have k' : ∀ b o, s.heap.get? b = some o → ((s.heap.push (seqObj "list" #[] 0)).update s.heap.objs.size (Obj.mapSeq (· ++ its.toArray))).get? b = some o := fun b o z => by
    rw [Heap.get?_update_ne _ _ _ _ (Nat.ne_of_lt (Heap.lt_size z))]
    exact Heap.get?_push_of_some _ z
  have I1 : Inv X pins σ H { s with heap := (s.heap.push (seqObj "list" #[] 0)).update s.heap.objs.size (Obj.mapSeq (· ++ its.toArray)) } := I.kept (t' := s.toks) k'
  refine wpAny_mono (srt_tail (A := X.A.in1) (Q := EP X pins σ Q) hS h64 fun h' p out c zs k hp hg hz' pz sz => ?_) (fun _ _ z => z) fun _ _ z => z
  have hlen : (zs.map V.str).length ≤ sizeLine := by rw [List.length_map, pz.length_eq, sizeLine_eq]; omega
  exact ⟨.ref p, upd H p (.lst (zs.map V.str)), I1.laid (t' := s.toks) k hp ⟨hlen, out, c, vals_of_strs hz', hg⟩, rfl, q zs p pz sz (I1.hok.fresh hp)⟩
end
end Mc
namespace Mc
open PySem L2 PySem.Spec PyProof.Rows
section
variable {X : Cx}
/-- a list against an empty one -/
def rNeNil (K : PySem.W.Frag) : R2 := fun x y H Q => ∃ (l b : Addr) (xs : List V), x = .ref l ∧ y = .ref b ∧ SqL K H l xs ∧ SqL K H b [] ∧ Q (.bl (!xs.isEmpty)) H
theorem op_neNil (hu : X.A.units + 64 < cLine) : OpR X (compareOp .NotEq) (rNeNil X.K) := by
  intro pins s σ H x y v u Q I rx ry ⟨l, b, xs, e1, e2, hl, hb, q⟩
  subst e1; subst e2
  cases xs with
  | nil => exact op_neD hu pins s σ H _ _ v u Q I rx ry ⟨.list [], .list [], .lst hl .nil, .lst hb .nil, by rfl, by rfl, q⟩
  | cons z zs =>
    cases rx; cases ry
    obtain ⟨i1, r1, p1, _⟩ := I.list hl
    obtain ⟨i2, r2, p2, _⟩ := I.list hb
    have z1 : i1.length = zs.length + 1 := by rw [← r1.length]; rfl
    have z2 : i2.length = 0 := by rw [← r2.length]; rfl
    exact SeqAt.RcNeAt.lists_lengths p1.isList p2.isList (by simp [z1, z2]) (by omega) _ _ _ _ ⟨.bl true, H, I, rfl, q⟩
end
end Mc
namespace Mc
open PySem L2 PySem.Spec PyProof.Rows
section
variable {X : Cx} {K : PySem.W.Frag}
/-- a dict against an empty one -/
def rNeDN : R2 := fun x y H Q => ∃ a b ks, x = .ref a ∧ y = .ref b ∧ H a = some (.dK ks) ∧ H b = some (.dK []) ∧ Q (.bl (!ks.isEmpty)) H
theorem op_neDN (hu : X.A.units < cLine) : OpR X (compareOp .NotEq) rNeDN := by
  intro pins s σ H x y v u Q I rx ry h
  obtain ⟨a, b, ks, rfl, rfl, ea, eb, q⟩ := h
  cases ks with
  | nil => exact op_ne_dictA hu pins s σ H _ _ v u Q I rx ry ⟨a, b, [], [], rfl, rfl, ea, eb, rfl, fun p hp => (nomatch hp), q⟩
  | cons k ks =>
    cases rx
    cases ry
    obtain ⟨_, ya, va, ra, da⟩ := (show ObjOk X.prog X.w H s.heap a (.dK (k :: ks)) from I.hok a _ ea)
    obtain ⟨_, yb, vb, rb, db⟩ := (show ObjOk X.prog X.w H s.heap b (.dK []) from I.hok b _ eb)
    have z1 : va.length = ks.length + 1 := by rw [← ra.length]; rfl
    have z2 : vb.length = 0 := by rw [← rb.length]; rfl
    exact PySem.W.keq_ne (knd := mixKind X.prog X.w) (r := true) ya yb da db hu (fun e => by omega) (fin_bl I q (by simp [z1, z2]))
theorem pg_tupK {es : List Expr} {k : Nat} {p : Pos} {t : TGs} {n : Nat} (hK : X.K = K) (h : PG X (.Tuple es k p) (gTup X.K n t)) : PG X (.Tuple es k p) (gTup K n t) := by
  subst hK
  exact h
theorem op_inK (h : X.K = K) : OpR X (compareOp .In) (rIn K false) := by
  subst h
  exact op_in_seq
theorem op_notInK (h : X.K = K) : OpR X (compareOp .NotIn) (rIn K true) := by
  subst h
  exact op_notIn_seq
end
end Mc
namespace Mc
open PySem L2 PySem.Spec PyProof.Rows
section
variable {P : Program} {w : World} {K : PySem.W.Frag} {mg : PySem.Str → Option Value} {base : Heap}
def spCInitT (K : PySem.W.Frag) (C : Addr) : Sp := fun vs H Q _ => ∃ (p dx l : Addr) (wt : Int) (hs : List PySem.Str), vs = [.ref p, .int wt, .ref l] ∧ H p = some (.ins C dx []) ∧ H l = some (.tup (hs.map V.str)) ∧ hs.length < 64 ∧
  ∀ (ys : List PySem.Str) (H' : Hp), ys.Perm hs → sortedS ys = true → CallH K C H' p wt ys → Kp [p] H H' → Q .non H'
theorem scCIT : FnScope ["self", "worth", "heard"] ["self", "worth", "heard"] (defScope sCInit) := ⟨rfl, rfl, rfl, by decide +kernel, rfl, by decide +kernel, by decide +kernel⟩
theorem ok_cinitT {f C : Addr} {fd : FuncData} (F : Fun K "__init__" "Call.__init__" sCInit f fd) (T : TxS K mg C) : FnOk P w K mg base CX0 1 f fd ["self", "worth", "heard"] (spCInitT K C) := by
  refine F.ok scCIT (fun vs H Q E h => ?_) (fun cdv A outer s H vs Q E hr h => ?_)
  · obtain ⟨p, dx, l, wt, hs, rfl, _⟩ := h
    rfl
  · obtain ⟨p, dx, l, wt, hs, rfl, hp, hl, h64, k⟩ := h
    refine ⟨_, (pss_cons (ps_fld (pv 0) (pv 1) rfl)
      (pss_one (ps_fld (pv 0) (pe_tupleOf (by rfl) T.tuple (pe_callB cr_srtT (by rfl) T.sorted boot_sorted (pa_cons (pv 2) pa_nil))) rfl))), ?_⟩
    refine ⟨_, rfl, _, rfl, p, C, dx, [], rfl, hp, T.cl, T.nW, (by show 0 < 1000; decide), ?_⟩
    have lp : l ≠ p := fun e => by rw [e, hp] at hl; cases hl
    have hl1 : (upd H p (.ins C dx [("worth", .int wt)])) l = some (.tup (hs.map V.str)) := by rw [upd_ne lp]; exact hl
    refine ⟨_, rfl, l, hs, rfl, SqT.of hl1, h64, fun ys q hy hs' hq => ?_⟩
    have hqp : q ≠ p := fun e => by rw [e, upd_same] at hq; cases hq
    refine .inl ⟨q, ys.map V.str, rfl, SqL.of upd_same, fun t ht => ?_⟩
    have htq : q ≠ t := ne_of_none upd_same ht
    have htp : p ≠ t := ne_of_none (show (upd (upd H p (.ins C dx [("worth", .int wt)])) q (.lst (ys.map V.str))) p = some _ by rw [upd_ne hqp.symm]; exact upd_same) ht
    refine ⟨_, rfl, p, C, dx, [("worth", .int wt)], rfl, by rw [upd_ne htp, upd_ne hqp.symm]; exact upd_same, T.cl, T.nH, (by show 1 < 1000; decide), ?_⟩
    refine k ys _ hy hs' ⟨⟨dx, t, upd_same, by rw [upd_ne htp.symm]; exact upd_same⟩⟩ fun b o e n => ?_
    have nb : b ≠ p := fun z => n (List.mem_singleton.mpr z)
    have q0 : H q = none := by rw [upd_ne hqp] at hq; exact hq
    have t0 : H t = none := by rw [upd_ne htq.symm, upd_ne htp.symm] at ht; exact ht
    rw [upd_ne nb, upd_ne (ne_of_none e t0), upd_ne (ne_of_none e q0), upd_ne nb]
    exact e
end
end Mc
namespace Mc
open PySem L2 PySem.Spec PyProof.Rows Gd
theorem rkLe_anti {f : PySem.Str → Int} {x y : PySem.Str} (h : rkLe f x y) (k : rkLe f y x) : x = y := by
  unfold rkLe at h k
  refine Classical.byContradiction fun n => ?_
  rcases h with h | ⟨h1, h2⟩
  · rcases k with k | ⟨k, _⟩ <;> omega
  · rcases k with k | ⟨_, k2⟩
    · omega
    · exact h2 (ltN_tri k2 n)
theorem keep_of {chs chs' : Chs} {cls cls' : Cls'} {lot lot' : List PySem.Str} (nd : (keysT cls).Nodup) (nd' : (keysT cls').Nodup) (h : KeptOf chs cls lot) (h' : KeptOf chs' cls' lot') {x : PySem.Str} (hx : x ∈ lot) (hx' : x ∈ keysT cls')
    (sub : ∀ y ∈ keysT cls', y ≠ x → rkLe (rkO cls') y x → y ∈ keysT cls ∧ rkLe (rkO cls) y x)
    (step : ∀ P P' : List PySem.Str, P.Nodup → P'.Nodup → (∀ y ∈ P', y ∈ P ∧ y ≠ x ∧ y ∈ keysT cls') → x ∉ P → Seatable (ScM chs cls) (gr (ScM chs cls) P ++ [x]) → Seatable (ScM chs' cls') (gr (ScM chs' cls') P' ++ [x])) : x ∈ lot' := by
  obtain ⟨ys, pm, pw, _, hm⟩ := h
  obtain ⟨ys', pm', pw', _, hm'⟩ := h'
  have ndy : ys.Nodup := pm.nodup_iff.mpr nd
  have ndy' : ys'.Nodup := pm'.nodup_iff.mpr nd'
  have x1 := (hm x).mp hx
  obtain ⟨P, Q, rfl⟩ := List.append_of_mem (gr_sub _ _ x x1)
  obtain ⟨P', Q', rfl⟩ := List.append_of_mem (pm'.mem_iff.mpr hx')
  refine (hm' x).mpr ((gr_iff ndy').mpr ?_)
  have q := (gr_iff ndy).mp x1
  have n1 := List.nodup_append.mp ndy
  have n2 := List.nodup_append.mp ndy'
  have xP : x ∉ P := fun z => n1.2.2 x z x (by simp) rfl
  refine step P P' n1.1 n2.1 (fun y hy => ?_) xP q
  have nyx : y ≠ x := fun e => n2.2.2 y hy x (by simp) e
  have yk : y ∈ keysT cls' := pm'.mem_iff.mp (List.mem_append_left _ hy)
  have le' : rkLe (rkO cls') y x := (List.pairwise_append.mp pw').2.2 y hy x (by simp)
  obtain ⟨g1, g2⟩ := sub y yk nyx le'
  refine ⟨?_, nyx, yk⟩
  rcases List.mem_append.mp (pm.mem_iff.mpr g1) with z | z
  · exact z
  · rcases List.mem_cons.mp z with z | z
    · exact absurd z nyx
    · have := (List.pairwise_cons.mp (List.pairwise_append.mp pw).2.1).1 y z
      exact absurd (rkLe_anti g2 this) nyx
theorem getT_perm {β : Type} {l l' : List (PySem.Str × β)} (nd : (keysT l).Nodup) (p : l'.Perm l) (k : PySem.Str) : getT l' k = getT l k := by
  have nd' : (keysT l').Nodup := (p.map _).nodup_iff.mpr nd
  cases e : getT l k with
  | none =>
    refine getT_none.mpr fun z => getT_none.mp e ?_
    exact (p.map _).mem_iff.mp z
  | some v =>
    have := p.mem_iff.mpr (getT_in e)
    exact getT_mem nd' this
theorem KeptOf.perm {chs chs' : Chs} {cls cls' : Cls'} {lot : List PySem.Str} (ok : OkC chs cls) (p1 : chs'.Perm chs) (p2 : cls'.Perm cls) (h : KeptOf chs' cls' lot) : KeptOf chs cls lot := by
  obtain ⟨ys, pm, pw, nd, hm⟩ := h
  have e1 : rkO cls' = rkO cls := by
    funext x
    unfold rkO wOf
    rw [getT_perm ok.ndc p2]
  have e2 : gr (ScM chs' cls') ys = gr (ScM chs cls) ys := gr_congr (fun m => by
    show ((getT chs' m).getD 0).toNat = ((getT chs m).getD 0).toNat
    rw [getT_perm ok.nd p1]) fun c _ => by
    show ((getT cls' c).map (·.2.2)).getD [] = ((getT cls c).map (·.2.2)).getD []
    rw [getT_perm ok.ndc p2]
  rw [e1] at pw
  rw [e2] at hm
  exact ⟨ys, pm.trans (p2.map _), pw, nd, hm⟩
theorem OkC.perm {chs chs' : Chs} {cls cls' : Cls'} (ok : OkC chs cls) (p1 : chs'.Perm chs) (p2 : cls'.Perm cls) : OkC chs' cls' := by
  have k1 : (keysT chs').Perm (keysT chs) := p1.map _
  have k2 : (keysT cls').Perm (keysT cls) := p2.map _
  refine ⟨k1.nodup_iff.mpr ok.nd, k2.nodup_iff.mpr ok.ndc, by rw [p1.length_eq]; exact ok.len, by rw [p2.length_eq]; exact ok.lenc, fun x hx => ok.ch x (p1.mem_iff.mp hx), fun x hx => ?_⟩
  obtain ⟨g0, g1, g2, g3, g4, g5⟩ := ok.cl x (p2.mem_iff.mp hx)
  exact ⟨g0, g1, g2, g3, g4, fun m hm => k1.mem_iff.mpr (g5 m hm)⟩
/-- kept(Scene(channels, calls)) -/
theorem kept_go {K : PySem.W.Frag} {CS CC : Addr} {H : Hp} {Q : VK} {chA clA : Addr} {chs : Chs} {cls : Cls'} (hne : chA ≠ clA) (hch : H chA = some (.dK (kvT vI chs))) (hcl : H clA = some (.dK (kvT vO cls))) (ok : OkC chs cls) (hC : CallsH K CC H cls)
    (q : ∀ (t : Addr) (lot : List PySem.Str) (H' : Hp), KeptOf chs cls lot → H' t = some (.tup (lot.map V.str)) → Same H H' → Q (.ref t) H') :
    ∀ x dx, H x = none → H dx = none → dx ≠ x → spSInit K CS CC (.ref x :: [.ref chA, .ref clA]) (upd (upd H dx (.own x)) x (.ins CS dx [])) (fun v H2 => v = .non ∧ spKept K CS CC [.ref x] H2 Q E0) E0 := by
  intro x dx hx hdx n
  have s1 : Same H (upd (upd H dx (.own x)) x (.ins CS dx [])) := fun b o z => by rw [upd_ne (ne_of_none z hx), upd_ne (ne_of_none z hdx)]; exact z
  refine ⟨x, dx, chA, clA, chs, cls, rfl, hne, upd_same, s1 _ _ hch, s1 _ _ hcl, ok, hC.same s1, fun chs' cls' H2 p1 p2 hS _ k => ⟨rfl, x, chs', cls', rfl, hS, ok.perm p1 p2, fun t lot H3 hk ht s3 => ?_⟩⟩
  exact q t lot H3 (hk.perm ok p1 p2) ht (fun u o z => s3 _ _ (k u o (s1 u o z) fun e => by rw [List.mem_singleton.mp e, hx] at z; cases z))
theorem seat_mono {X Y : Sc PySem.Str} {L : List PySem.Str} (hc : ∀ m, X.cap m = Y.cap m) (hh : ∀ c ∈ L, ∀ m ∈ X.heard c, m ∈ Y.heard c) : Seatable X L → Seatable Y L :=
  fun ⟨T, h1, h2⟩ => ⟨T, fun c h => hh c h _ (h1 c h), fun m => by rw [← hc m]; exact h2 m⟩
theorem nd_P' {P P' : List PySem.Str} {x : PySem.Str} {C : PySem.Str → Prop} (h : ∀ y ∈ P', y ∈ P ∧ y ≠ x ∧ C y) : x ∉ P' := fun z => (h x z).2.1 rfl
/-- one channel more on a mast -/
def moreC (chs : Chs) (m0 : PySem.Str) : Chs := chs.map fun x => (x.1, x.2 + if x.1 = m0 then 1 else 0)
theorem keys_more (chs : Chs) (m0 : PySem.Str) : keysT (moreC chs m0) = keysT chs := by
  unfold moreC keysT
  rw [List.map_map]
  rfl
theorem getT_more (chs : Chs) (m0 m : PySem.Str) : getT (moreC chs m0) m = (getT chs m).map fun n => n + if m = m0 then 1 else 0 := by
  unfold moreC
  induction chs with
  | nil => rfl
  | cons x l ih =>
    rw [List.map_cons, getT_cons, getT_cons, ih]
    by_cases e : x.1 = m
    · subst e
      simp
    · simp [e]
theorem more_keep {chs : Chs} {cls : Cls'} (ok : OkC chs cls) {m0 : PySem.Str} (hm0 : m0 ∈ keysT chs) {lot lot' : List PySem.Str} (h : KeptOf chs cls lot) (h' : KeptOf (moreC chs m0) cls lot') : ∀ x ∈ lot, x ∈ lot' := by
  intro x hx
  have hxk : x ∈ keysT cls := by
    obtain ⟨ys, pm, _, _, hm⟩ := h
    exact pm.mem_iff.mp (gr_sub _ _ x ((hm x).mp hx))
  refine keep_of ok.ndc ok.ndc h h' hx hxk (fun y hy _ l => ⟨hy, l⟩) fun P P' nP nP' hP xP s => ?_
  refine gr_more (X := ScM chs cls) (m0 := m0) nP' (nd_P' hP) (fun m => ?_) (fun _ => rfl) (gr_fewer nP nP' (fun y hy => (hP y hy).1) xP s)
  show ((getT (moreC chs m0) m).getD 0).toNat = ((getT chs m).getD 0).toNat + if m = m0 then 1 else 0
  rw [getT_more]
  by_cases e : m = m0
  · subst e
    obtain ⟨n, hn⟩ := getT_key hm0
    have := (ok.ch _ (getT_in hn)).2.1
    rw [hn]
    simp
    have h0 : 0 ≤ n := this
    omega
  · cases getT chs m <;> simp [e]
theorem ok_more {chs : Chs} {cls : Cls'} (ok : OkC chs cls) (sm : SmallS chs cls) (m0 : PySem.Str) : OkC (moreC chs m0) cls := by
  refine ⟨by rw [keys_more]; exact ok.nd, ok.ndc, by unfold moreC; rw [List.length_map]; exact ok.len, ok.lenc, fun x hx => ?_, fun x hx => ?_⟩
  · obtain ⟨y, hy, rfl⟩ := List.mem_map.mp hx
    obtain ⟨g0, g1, _⟩ := ok.ch y hy
    have g3 := sm.2.1 y hy
    refine ⟨g0, ?_, ?_⟩
    · show 0 ≤ y.2 + _; split <;> omega
    · show y.2 + _ ≤ 1000; split <;> omega
  · rw [keys_more]
    exact ok.cl x hx
/-- without a call -/
def fewC (cls : Cls') (g : PySem.Str) : Cls' := cls.filter fun x => decide (x.1 ≠ g)
theorem few_keys {cls : Cls'} {g y : PySem.Str} : y ∈ keysT (fewC cls g) ↔ y ∈ keysT cls ∧ y ≠ g := by
  unfold fewC keysT
  constructor
  · intro h
    obtain ⟨x, hx, rfl⟩ := List.mem_map.mp h
    have := List.mem_filter.mp hx
    exact ⟨List.mem_map.mpr ⟨x, this.1, rfl⟩, of_decide_eq_true this.2⟩
  · rintro ⟨h, n⟩
    obtain ⟨x, hx, rfl⟩ := List.mem_map.mp h
    exact List.mem_map.mpr ⟨x, List.mem_filter.mpr ⟨hx, decide_eq_true n⟩, rfl⟩
theorem few_nd {cls : Cls'} (nd : (keysT cls).Nodup) (g : PySem.Str) : (keysT (fewC cls g)).Nodup := nd.sublist (List.Sublist.map _ List.filter_sublist)
theorem few_get {cls : Cls'} (nd : (keysT cls).Nodup) {g y : PySem.Str} (n : y ≠ g) : getT (fewC cls g) y = getT cls y := by
  cases e : getT cls y with
  | none => exact getT_none.mpr fun z => getT_none.mp e (few_keys.mp z).1
  | some v => exact getT_mem (few_nd nd g) (List.mem_filter.mpr ⟨getT_in e, decide_eq_true n⟩)
theorem ok_few {chs : Chs} {cls : Cls'} (ok : OkC chs cls) (g : PySem.Str) : OkC chs (fewC cls g) :=
  ⟨ok.nd, few_nd ok.ndc g, ok.len, Nat.lt_of_le_of_lt (List.length_filter_le _ _) ok.lenc, ok.ch, fun x hx => ok.cl x (List.mem_filter.mp hx).1⟩
theorem few_keep {chs : Chs} {cls : Cls'} (ok : OkC chs cls) {g : PySem.Str} {lot lot' : List PySem.Str} (h : KeptOf chs cls lot) (h' : KeptOf chs (fewC cls g) lot') : ∀ x ∈ lot, x ≠ g → x ∈ lot' := by
  intro x hx nx
  have hxk : x ∈ keysT cls := by
    obtain ⟨ys, pm, _, _, hm⟩ := h
    exact pm.mem_iff.mp (gr_sub _ _ x ((hm x).mp hx))
  have rk : ∀ y, y ≠ g → rkO (fewC cls g) y = rkO cls y := fun y n => by unfold rkO wOf; rw [few_get ok.ndc n]
  have hd : ∀ y, y ≠ g → (ScM chs (fewC cls g)).heard y = (ScM chs cls).heard y := fun y n => by
    show ((getT (fewC cls g) y).map (·.2.2)).getD [] = ((getT cls y).map (·.2.2)).getD []
    rw [few_get ok.ndc n]
  refine keep_of ok.ndc (few_nd ok.ndc g) h h' hx (few_keys.mpr ⟨hxk, nx⟩) (fun y hy _ l => ?_) fun P P' nP nP' hP xP s => ?_
  · obtain ⟨y1, y2⟩ := few_keys.mp hy
    unfold rkLe at l ⊢
    rw [rk y y2, rk x nx] at l
    exact ⟨y1, l⟩
  · have hP' : ∀ y ∈ P', y ≠ g := fun y hy => (few_keys.mp (hP y hy).2.2).2
    have e : gr (ScM chs (fewC cls g)) P' = gr (ScM chs cls) P' := gr_congr (fun _ => rfl) fun c hc => hd c (hP' c hc)
    rw [e]
    refine (seat_congr (X := ScM chs (fewC cls g)) (Y := ScM chs cls) (fun _ => rfl) fun c hc => ?_).mpr (gr_fewer nP nP' (fun y hy => (hP y hy).1) xP s)
    rcases List.mem_append.mp hc with z | z
    · exact hd c (hP' c (gr_sub _ _ c z))
    · rw [List.mem_singleton.mp z]; exact hd x nx
/-- a call changed -/
def repC (cls : Cls') (g : PySem.Str) (v : CD) : Cls' := cls.map fun x => if x.1 = g then (x.1, v) else x
theorem rep_keys (cls : Cls') (g : PySem.Str) (v : CD) : keysT (repC cls g v) = keysT cls := by
  unfold repC keysT
  rw [List.map_map]
  refine List.map_congr_left fun x _ => ?_
  show (if x.1 = g then (x.1, v) else x).1 = x.1
  split <;> rfl
theorem rep_keep {chs : Chs} {cls : Cls'} (ok : OkC chs cls) {g : PySem.Str} {v v0 : CD} (hg : getT cls g = some v0) (hw : v0.2.1 ≤ v.2.1) (hh : ∀ m ∈ v0.2.2, m ∈ v.2.2) {lot lot' : List PySem.Str} (h : KeptOf chs cls lot) (h' : KeptOf chs (repC cls g v) lot') (hx : g ∈ lot) : g ∈ lot' := by
  have gk : g ∈ keysT cls := Classical.byContradiction fun z => by rw [getT_none.mpr z] at hg; cases hg
  have gt : ∀ c, getT (repC cls g v) c = if c = g then (getT cls c).map (fun _ => v) else getT cls c := fun c => getT_rep c
  have rk : ∀ y, y ≠ g → rkO (repC cls g v) y = rkO cls y := fun y n => by unfold rkO wOf; rw [gt, if_neg n]
  have rg : rkO (repC cls g v) g = -v.2.1 := by unfold rkO wOf; rw [gt, if_pos rfl, hg]; rfl
  have rg0 : rkO cls g = -v0.2.1 := by unfold rkO wOf; rw [hg]; rfl
  refine keep_of ok.ndc (by rw [rep_keys]; exact ok.ndc) h h' hx (by rw [rep_keys]; exact gk) (fun y hy ny l => ?_) fun P P' nP nP' hP xP s => ?_
  · rw [rep_keys] at hy
    refine ⟨hy, ?_⟩
    unfold rkLe at l ⊢
    rw [rk y ny, rg] at l
    rw [rg0]
    rcases l with l | ⟨l1, l2⟩
    · exact .inl (by omega)
    · by_cases e : v0.2.1 = v.2.1
      · exact .inr ⟨by omega, l2⟩
      · exact .inl (by omega)
  · have hd : ∀ y ∈ P', (ScM chs (repC cls g v)).heard y = (ScM chs cls).heard y := fun y hy => by
      show ((getT (repC cls g v) y).map (·.2.2)).getD [] = ((getT cls y).map (·.2.2)).getD []
      rw [gt, if_neg (hP y hy).2.1]
    have e : gr (ScM chs (repC cls g v)) P' = gr (ScM chs cls) P' := gr_congr (fun _ => rfl) hd
    rw [e]
    refine seat_mono (X := ScM chs cls) (Y := ScM chs (repC cls g v)) (fun _ => rfl) (fun c hc m hm => ?_) (gr_fewer nP nP' (fun y hy => (hP y hy).1) xP s)
    rcases List.mem_append.mp hc with z | z
    · rw [hd c (gr_sub _ _ c z)]; exact hm
    · rw [List.mem_singleton.mp z] at hm ⊢
      have hm' : m ∈ ((getT cls g).map (·.2.2)).getD [] := hm
      show m ∈ ((getT (repC cls g v) g).map (·.2.2)).getD []
      rw [gt, if_pos rfl, hg]
      rw [hg] at hm'
      exact hh m hm'
theorem ok_rep {chs : Chs} {cls : Cls'} (ok : OkC chs cls) {g : PySem.Str} {v : CD} (h0 : 0 ≤ v.2.1) (h1 : v.2.1 ≤ 1000) (h2 : v.2.2.Nodup) (h3 : v.2.2.length < 64) (h4 : ∀ m ∈ v.2.2, m ∈ keysT chs) : OkC chs (repC cls g v) := by
  refine ⟨ok.nd, by rw [rep_keys]; exact ok.ndc, ok.len, by unfold repC; rw [List.length_map]; exact ok.lenc, ok.ch, fun x hx => ?_⟩
  obtain ⟨y, hy, rfl⟩ := List.mem_map.mp hx
  have := ok.cl y hy
  by_cases e : y.1 = g
  · rw [if_pos e]
    exact ⟨this.1, h0, h1, h2, h3, h4⟩
  · rw [if_neg e]
    exact this
end Mc
namespace Mc
open PySem L2 PySem.Spec PyProof.Rows Gd
/-! the mathematics of channels that lack -/
def addX (X : Sc PySem.Str) (ds : List PySem.Str) : Sc PySem.Str := ⟨X.ms, fun m => X.cap m + ds.count m, X.heard⟩
theorem flt_congr {p q : PySem.Str → Bool} {l : List PySem.Str} (h : ∀ x ∈ l, p x = q x) : (l.filter p).length = (l.filter q).length := by
  induction l with
  | nil => rfl
  | cons x l ih =>
    have := ih fun y hy => h y (.tail _ hy)
    rw [List.filter_cons, List.filter_cons, h x (.head _)]
    split <;> simp [this]
theorem cnt_map (h : PySem.Str → PySem.Str) (m : PySem.Str) (U : List PySem.Str) : (U.filter fun c => decide (h c = m)).length = (U.map h).count m := by
  induction U with
  | nil => rfl
  | cons x U ih =>
    rw [List.filter_cons, List.map_cons, List.count_cons]
    by_cases e : h x = m
    · simp [e, ih]
    · simp [e, ih]
/-- who isn't seated gets a channel more on a mast that hears it -/
theorem add_seat {X : Sc PySem.Str} {L U : List PySem.Str} {h : PySem.Str → PySem.Str} (hL : Seatable X L) (hU : ∀ u ∈ U, h u ∈ X.heard u) (dis : ∀ u ∈ U, u ∉ L) : Seatable (addX X (U.map h)) (L ++ U) := by
  obtain ⟨T, t1, t2⟩ := hL
  refine ⟨fun x => if x ∈ U then h x else T x, fun c hc => ?_, fun m => ?_⟩
  · rcases List.mem_append.mp hc with z | z
    · by_cases e : c ∈ U
      · exact absurd z (dis c e)
      · show (if c ∈ U then h c else T c) ∈ X.heard c
        rw [if_neg e]; exact t1 c z
    · show (if c ∈ U then h c else T c) ∈ X.heard c
      rw [if_pos z]; exact hU c z
  · rw [List.filter_append, List.length_append]
    have e1 := flt_congr (l := L) (p := fun c => decide ((if c ∈ U then h c else T c) = m)) (q := fun c => decide (T c = m)) fun x hx => by
      have n : x ∉ U := fun z => dis x z hx
      simp [n]
    have e2 := flt_congr (l := U) (p := fun c => decide ((if c ∈ U then h c else T c) = m)) (q := fun c => decide (h c = m)) fun x hx => by simp [hx]
    rw [e1, e2, cnt_map h m U]
    exact Nat.add_le_add_right (t2 m) _
/-- fewer channels by some: so many fewer calls at most -/
theorem less_seat {X : Sc PySem.Str} : ∀ (ds L : List PySem.Str), L.Nodup → Seatable (addX X ds) L → ∃ L' : List PySem.Str, L'.Nodup ∧ (∀ x ∈ L', x ∈ L) ∧ L.length ≤ L'.length + ds.length ∧ Seatable X L'
  | [], L, nd, ⟨T, t1, t2⟩ => ⟨L, nd, fun _ h => h, Nat.le_refl _, T, t1, fun m => by have := t2 m; simpa [addX] using this⟩
  | d :: ds, L, nd, ⟨T, t1, t2⟩ => by
    have step : ∃ L1 : List PySem.Str, L1.Nodup ∧ (∀ x ∈ L1, x ∈ L) ∧ L.length ≤ L1.length + 1 ∧ Seatable (addX X ds) L1 := by
      have t2' : ∀ m, (L.filter fun c => decide (T c = m)).length ≤ X.cap m + ds.count m + if d = m then 1 else 0 := fun m => by
        have := t2 m
        show _ ≤ X.cap m + ds.count m + _
        have e : (addX X (d :: ds)).cap m = X.cap m + (d :: ds).count m := rfl
        rw [e, List.count_cons] at this
        by_cases q : d = m <;> simp [q] at this ⊢ <;> omega
      by_cases hc : (L.filter fun c => decide (T c = d)).length ≤ X.cap d + ds.count d
      · refine ⟨L, nd, fun _ h => h, Nat.le_succ _, T, t1, fun m => ?_⟩
        by_cases e : d = m
        · subst e; exact hc
        · have := t2' m
          rw [if_neg e] at this
          exact this
      · obtain ⟨c, hcm⟩ := List.exists_mem_of_length_pos (l := L.filter fun c => decide (T c = d)) (by omega)
        obtain ⟨cL, cT⟩ := List.mem_filter.mp hcm
        have pm := List.perm_cons_erase cL
        refine ⟨L.erase c, nd.erase _, fun x hx => List.mem_of_mem_erase hx, by rw [pm.length_eq]; simp, T, fun x hx => t1 x (List.mem_of_mem_erase hx), fun m => ?_⟩
        have e := (pm.filter fun c => decide (T c = m)).length_eq
        rw [List.filter_cons] at e
        have := t2' m
        show _ ≤ X.cap m + ds.count m
        by_cases q : d = m
        · subst q
          rw [if_pos cT] at e
          simp at e this
          omega
        · have n : ¬ decide (T c = m) = true := by
            have := of_decide_eq_true cT
            simp; rw [this]; exact q
          rw [if_neg n] at e
          rw [if_neg q] at this
          omega
    obtain ⟨L1, n1, s1, l1, k1⟩ := step
    obtain ⟨L2, n2, s2, l2, k2⟩ := less_seat ds L1 n1 k1
    exact ⟨L2, n2, fun x hx => s1 x (s2 x hx), by rw [List.length_cons]; omega, k2⟩
def heardB (cls : Cls') (x : PySem.Str) : Bool := !(hdO' cls x).isEmpty
  where hdO' (cls : Cls') (x : PySem.Str) : List PySem.Str := ((getT cls x).map (·.2.2)).getD []
abbrev hdP (cls : Cls') (x : PySem.Str) : List PySem.Str := ((getT cls x).map (·.2.2)).getD []
theorem heardB_iff (cls : Cls') (x : PySem.Str) : heardB cls x = true ↔ hdP cls x ≠ [] := by
  show (!(hdP cls x).isEmpty) = true ↔ _
  cases hdP cls x <;> simp
/-- who is heard -/
def hearers (cls : Cls') : List PySem.Str := (keysT cls).filter (heardB cls)
theorem seat_heard {chs : Chs} {cls : Cls'} {L : List PySem.Str} (h : Seatable (ScM chs cls) L) {x : PySem.Str} (hx : x ∈ L) : heardB cls x = true := by
  obtain ⟨T, t1, _⟩ := h
  rw [heardB_iff]
  exact fun e => by
    have := t1 x hx
    have e2 : (ScM chs cls).heard x = [] := e
    rw [e2] at this; cases this
theorem kept_seat {chs : Chs} {cls : Cls'} {lot : List PySem.Str} (h : KeptOf chs cls lot) : Seatable (ScM chs cls) lot := by
  obtain ⟨ys, _, _, nd, hm⟩ := h
  exact seat_sub nd (fun x hx => (hm x).mp hx) (gr_seat _ _)
theorem kept_sub {chs : Chs} {cls : Cls'} {lot : List PySem.Str} (h : KeptOf chs cls lot) : ∀ x ∈ lot, x ∈ keysT cls := fun x hx => by
  obtain ⟨ys, pm, _, _, hm⟩ := h
  exact pm.mem_iff.mp (gr_sub _ _ x ((hm x).mp hx))
theorem kept_full {chs : Chs} {cls : Cls'} {lot : List PySem.Str} (nd : (keysT cls).Nodup) (h : KeptOf chs cls lot) {x : PySem.Str} (hx : x ∈ keysT cls) (hn : x ∉ lot) : ¬ Seatable (ScM chs cls) (lot ++ [x]) := by
  obtain ⟨ys, pm, _, nl, hm⟩ := h
  have ndy := pm.nodup_iff.mpr nd
  have := gr_max (X := ScM chs cls) ndy x (pm.mem_iff.mpr hx) fun z => hn ((hm x).mpr z)
  intro s
  refine this (seat_sub (snoc_nd (gr_nd ndy) fun z => hn ((hm x).mpr z)) (fun y hy => ?_) s)
  rcases List.mem_append.mp hy with z | z
  · exact List.mem_append_left _ ((hm y).mpr z)
  · exact List.mem_append_right _ z
/-- no seatable lot has more calls than what is kept -/
theorem kept_most {chs : Chs} {cls : Cls'} {lot J : List PySem.Str} (nd : (keysT cls).Nodup) (h : KeptOf chs cls lot) (nJ : J.Nodup) (sJ : ∀ x ∈ J, x ∈ keysT cls) (hJ : Seatable (ScM chs cls) J) : J.length ≤ lot.length := by
  refine Nat.le_of_not_lt fun lt => ?_
  have nl : lot.Nodup := by obtain ⟨_, _, _, nl, _⟩ := h; exact nl
  obtain ⟨b, hb, hn, s⟩ := exch nl nJ (kept_seat h) hJ lt
  exact kept_full nd h (sJ b hb) hn s
/-- if all who are heard can be seated, they are kept -/
theorem kept_all {chs : Chs} {cls : Cls'} {lot : List PySem.Str} (nd : (keysT cls).Nodup) (h : KeptOf chs cls lot) (hs : Seatable (ScM chs cls) (hearers cls)) (x : PySem.Str) : x ∈ lot ↔ x ∈ hearers cls := by
  constructor
  · intro hx
    exact List.mem_filter.mpr ⟨kept_sub h x hx, seat_heard (kept_seat h) hx⟩
  · intro hx
    refine Classical.byContradiction fun hn => ?_
    have hk := (List.mem_filter.mp hx).1
    have nl : lot.Nodup := by obtain ⟨_, _, _, nl, _⟩ := h; exact nl
    refine kept_full nd h hk hn (seat_sub (snoc_nd nl hn) (fun y hy => ?_) hs)
    rcases List.mem_append.mp hy with z | z
    · exact List.mem_filter.mpr ⟨kept_sub h y z, seat_heard (kept_seat h) z⟩
    · rw [List.mem_singleton.mp z]; exact hx
/-- channels told more: by the masts of a row -/
structure MoreC (chs chs2 : Chs) (cls cls2 : Cls') (ds : List PySem.Str) : Prop where
  cap : ∀ m, ((getT chs2 m).getD 0).toNat = ((getT chs m).getD 0).toNat + ds.count m
  cl : ∀ c, getT cls2 c = getT cls c
  keys : ∀ c, c ∈ keysT cls2 ↔ c ∈ keysT cls
theorem MoreC.seat {chs chs2 : Chs} {cls cls2 : Cls'} {ds L : List PySem.Str} (h : MoreC chs chs2 cls cls2 ds) : Seatable (ScM chs2 cls2) L ↔ Seatable (addX (ScM chs cls) ds) L :=
  seat_congr (fun m => h.cap m) fun c _ => by
    show ((getT cls2 c).map (·.2.2)).getD [] = ((getT cls c).map (·.2.2)).getD []
    rw [h.cl]
theorem MoreC.hear {chs chs2 : Chs} {cls cls2 : Cls'} {ds : List PySem.Str} (h : MoreC chs chs2 cls cls2 ds) (x : PySem.Str) : x ∈ hearers cls2 ↔ x ∈ hearers cls := by
  unfold hearers
  rw [List.mem_filter, List.mem_filter, h.keys, heardB_iff, heardB_iff]
  show _ ∧ ((getT cls2 x).map (·.2.2)).getD [] ≠ [] ↔ _ ∧ ((getT cls x).map (·.2.2)).getD [] ≠ []
  rw [h.cl]
theorem hear_nd {cls : Cls'} (nd : (keysT cls).Nodup) : (hearers cls).Nodup := nd.filter _
/-- with a channel more for each who is heard and isn't kept all are kept -/
theorem lack_ok {chs chs2 : Chs} {cls cls2 : Cls'} {lot lot2 U : List PySem.Str} {h : PySem.Str → PySem.Str} (nd : (keysT cls).Nodup) (nd2 : (keysT cls2).Nodup) (k : KeptOf chs cls lot) (k2 : KeptOf chs2 cls2 lot2) (hU : ∀ x, x ∈ U ↔ x ∈ hearers cls ∧ x ∉ lot) (hh : ∀ u ∈ U, h u ∈ hdP cls u)
    (M : MoreC chs chs2 cls cls2 (U.map h)) (x : PySem.Str) : x ∈ lot2 ↔ x ∈ hearers cls := by
  rw [← M.hear]
  refine kept_all nd2 k2 (M.seat.mpr (seat_sub (hear_nd nd2) (fun y hy => ?_) (add_seat (kept_seat k) hh fun u hu => ((hU u).mp hu).2))) x
  have hy := (M.hear y).mp hy
  by_cases e : y ∈ lot
  · exact List.mem_append_left _ e
  · exact List.mem_append_right _ ((hU y).mpr ⟨hy, e⟩)
/-- with fewer they are not -/
theorem lack_least {chs chs2 : Chs} {cls cls2 : Cls'} {lot lot2 U ds : List PySem.Str} (nd : (keysT cls).Nodup) (k : KeptOf chs cls lot) (k2 : KeptOf chs2 cls2 lot2) (nU : U.Nodup) (hU : ∀ x, x ∈ U ↔ x ∈ hearers cls ∧ x ∉ lot) (M : MoreC chs chs2 cls cls2 ds) (lt : ds.length < U.length) : ¬ ∀ x, x ∈ lot2 ↔ x ∈ hearers cls := by
  intro h
  have nh := hear_nd nd
  obtain ⟨L, nL, sL, lL, kL⟩ := less_seat ds (hearers cls) nh (M.seat.mp (seat_sub nh (fun x hx => (h x).mpr hx) (kept_seat k2)))
  have a := kept_most nd k nL (fun x hx => (List.mem_filter.mp (sL x hx)).1) kL
  have nl : lot.Nodup := by obtain ⟨_, _, _, nl, _⟩ := k; exact nl
  have b : (lot ++ U).length ≤ (hearers cls).length := len_sub (List.nodup_append.mpr ⟨nl, nU, fun x hx y hy e => ((hU y).mp hy).2 (e ▸ hx)⟩) fun x hx => by
    rcases List.mem_append.mp hx with z | z
    · exact List.mem_filter.mpr ⟨kept_sub k x z, seat_heard (kept_seat k) z⟩
    · exact ((hU x).mp z).1
  rw [List.length_append] at b
  omega
theorem sum_counts {ds M : List PySem.Str} (nM : M.Nodup) (h : ∀ d ∈ ds, d ∈ M) : (M.map fun m => ds.count m).sum = ds.length := by
  induction ds with
  | nil => rw [List.length_nil]; exact Nat.eq_zero_of_le_zero (by rw [show (M.map fun m => ([] : List PySem.Str).count m) = M.map fun _ => 0 by simp]; induction M <;> simp_all)
  | cons d ds ih =>
    have e := ih fun x hx => h x (.tail _ hx)
    have hd := h d (.head _)
    have key : ∀ M : List PySem.Str, M.Nodup → d ∈ M → (M.map fun m => (d :: ds).count m).sum = (M.map fun m => ds.count m).sum + 1 := by
      intro M
      induction M with
      | nil => intro _ z; cases z
      | cons x M ihM =>
        intro n hm
        obtain ⟨n1, n2⟩ := List.nodup_cons.mp n
        rw [List.map_cons, List.sum_cons, List.map_cons, List.sum_cons, List.count_cons]
        by_cases q : d = x
        · subst q
          have : (M.map fun m => (d :: ds).count m) = M.map fun m => ds.count m := List.map_congr_left fun m hm => by
            rw [List.count_cons]
            have : d ≠ m := fun z => n1 (z ▸ hm)
            simp [this]
          rw [this]
          simp; omega
        · rw [ihM n2 ((List.mem_cons.mp hm).resolve_left q)]
          simp [q]; omega
    rw [key M nM hd, e, List.length_cons]
end Mc
namespace Mc
open PySem L2 PySem.Spec PyProof.Rows Evl
def tTru (K : PySem.W.Frag) (ta : TE) : TT := fun σ H Q => ta σ H fun x H' => ∃ k, TruV K x H' k ∧ Q k H'
theorem pt_truthK {X : Cx} {K : PySem.W.Frag} {a : Expr} {ta : TE} (h : X.K = K) (ha : PE X a ta) (he : ∀ whole, isTrue a X.env whole = (do let v ← whole; standAt a.pos; holding [v] (truthy v))) : L2.PT X a (tTru K ta) := by
  subst h
  exact pt_truth ha he
section
variable {X : Cx} {K : PySem.W.Frag} {o e : Expr} {es : List Expr} {to : TE} {t : TA} {name : PySem.Str} {apos cpos : Pos} {T id : String} {r : V → List V → Hp → VK → Prop}
theorem pe_bmK (h : X.K = K) (pa : PlainAttrs T) (slot : Slot T name id) (hty : typeOf (.builtin id) = pure (.type "method_descriptor")) (hm : MtR X id r) (ho : PE X o to) (ha : PA X (e :: es) t)
    (hbase : attributeBase o name X.env (eval o X.env) = eval o X.env := by rfl)
    (hfew : ((backTo cpos (starEach (e :: es) X.env)).all (fun x => !x.1) && (backToKw cpos (keywordEach [] X.env)).all (fun x => x.1.isSome)
      && decide ((e :: es).length + ([] : List Keyword).length + (if ([] : List Keyword).isEmpty then 0 else 1) < 30)) = true := by rfl)
    (hline : (apos.endLine == cpos.line) = true := by rfl) (hs : starEach (e :: es) X.env = (false, eval e X.env) :: starEach es X.env := by rfl) (hplain : (backTo cpos (starEach es X.env)).any (·.1) = false := by rfl) :
    PE X (.Call (.Attribute o name apos) (e :: es) [] cpos) (tBM K T r to t) := by
  subst h
  exact pe_bm pa slot hty hm ho ha hbase hfew hline hs hplain
end
theorem et_truT {K : PySem.W.Frag} {te : TE} {σ : L2.St} {H : Hp} {a : Addr} {xs : List V} (h : Ev te σ H (.ref a)) (hx : SqT K H a xs) : EvT (tTru K te) σ H (!xs.isEmpty) := fun H1 e Q q => h H1 e _ fun H2 e2 => ⟨_, .inr (.inl ⟨xs, ex_t (e.trans e2) hx, rfl⟩), q H2 e2⟩
end Mc
namespace Mc
open PySem L2 PySem.Spec PyProof.Rows Evl
/-! ### list(d.values()) -/
def tListVals (te : TE) : TE := fun σ H Q => te σ H fun x H1 => ∃ (d : Addr) (kvs : List (L2.Key × V)), x = .ref d ∧ Rd H1 d (.dK kvs) ∧ ∀ p, H1 p = none → Q (.ref p) (upd H1 p (.lst (kvs.map Prod.snd)))
theorem vals_of_kv {kvs : List (L2.Key × V)} {vs : List (L2.Key × Value)} (r : KV kvs vs) : Vals (kvs.map Prod.snd) (vs.map Prod.snd) := by
  induction r with
  | nil => exact .nil
  | cons h _ ih => exact .cons h.2 ih
theorem items_snd {vs : List (L2.Key × Value)} {acc : Array Value} (h : ItemsOf (fun i v => ∃ k, vs[i]? = some (k, v)) acc vs.length) : acc.toList = vs.map Prod.snd := by
  refine List.ext_getElem? fun i => ?_
  rw [List.getElem?_map]
  by_cases hi : i < vs.length
  · have ha : i < acc.size := by rw [h.1]; exact hi
    have e : acc[i]? = some acc[i] := Array.getElem?_eq_getElem ha
    obtain ⟨k, hk⟩ := h.2 i _ e
    rw [hk, Array.getElem?_toList, e]
    rfl
  · rw [List.getElem?_eq_none (l := acc.toList) (by rw [Array.length_toList, h.1]; omega), List.getElem?_eq_none (l := vs) (by omega)]
    rfl
section
variable {X : Cx} {e : Expr} {te : TE} {p apos cpos pos : Pos}
theorem pe_listVals (hc : X.calm = true) (he : PE X e te) (hg : Gl X "list") (hm : X.mg "list" = none) (hbase : attributeBase e "values" X.env (eval e X.env) = eval e X.env := by rfl) (hline : (apos.endLine == cpos.line) = true := by rfl)
    (hs : starEach [.Call (.Attribute e "values" apos) [] [] cpos] X.env = (false, eval (.Call (.Attribute e "values" apos) [] [] cpos) X.env) :: starEach [] X.env := by rfl) :
    PE X (.Call (.Name "list" p) [.Call (.Attribute e "values" apos) [] [] cpos] [] pos) (tListVals te) := ⟨fun pins s σ H Q I hq => by
  refine wpAny_Call_Name_kw (ld_blt I hg hm boot_list (PyProof.Rows.callWith_type1 ?_ hs rfl))
  rw [hs]
  change wpAny _ _ (spliced ((false, eval (.Call (.Attribute e "values" apos) [] [] cpos) X.env) :: backTo pos (starEach [] X.env))) _ _ s
  refine Calls.spliced_cons (wpAny_Call_method (T := "dict") (id := "dict.values") hbase rfl hline F.plainAttrs_dict F.slot_dict_values F.type_dict_values (thn (he.run pins s σ H _ I hq) fun u s1 hv => ?_))
  obtain ⟨x, H1, I1, rx, d, kvs, rfl, hd, q⟩ := hv
  obtain rfl : u = Value.ref d := rx
  obtain ⟨z, lo, vs, rel, dd⟩ := dk_rd I1.hok hd
  obtain ⟨ep, hat⟩ := dd.dictAt
  have I2 : Inv X pins σ H1 { s1 with heap := s1.heap.push { cls := .type "dict_values", data := .fields #[.ref d] } } := I1.kept (t' := s1.toks) fun b ob w => Heap.get?_push_of_some _ w
  refine ⟨dd.typeIs, dd.mapOf.noDict, ?_⟩
  change wpAny _ _ (callWith cpos (.builtin "dict.values") [.ref d] [] []) _ X.xe s1
  refine method_meetsIn F.slot_dict_values F.entry_dict_values rfl (PySem.evalArgs_none ⟨rfl, dd.typeIs, F.args_dict_values_1 _, _, meets_dict_values (mixKind X.prog X.w) d lo, ⟨vs, dd⟩, ?_⟩)
  refine Calls.spliced_nil ?_
  refine PySem.W.kdl_call (PySem.W.kdl_values (knd := mixKind X.prog X.w) (kvs := vs) (ep := ep)) (I1.ok.hd hc) ⟨⟨_, Heap.get?_push_size _ rfl, rfl, rfl⟩, hat.push _⟩ (by rw [← rel.length]; exact z) fun h' tk acc c' hk hD hacc => ?_
  refine ⟨.ref _, upd H1 _ (.lst (kvs.map Prod.snd)), I2.laid (t' := tk) hk (Nat.le_refl _) ⟨by rw [List.length_map]; exact z, acc.toList, c', by rw [items_snd hacc]; exact vals_of_kv rel, by rw [Array.toArray_toList]; exact hD⟩, rfl, q _ (I2.hok.fresh (Nat.le_refl _))⟩⟩
end
section
variable {σ : L2.St} {H : Hp} {te : TE} {d : Addr} {kvs : List (L2.Key × V)}
theorem el_vals (h : Ev te σ H (.ref d)) (hd : Rd H d (.dK kvs)) : EvL (tListVals te) σ H (kvs.map Prod.snd) := fun H1 e Q q =>
  h H1 e _ fun H2 e2 => ⟨d, kvs, rfl, ex_rd (e.trans e2) hd, fun p hp => q p _ (fresh_back e2 hp) (e2.trans (Ex.new hp)) upd_same⟩
end
end Mc
namespace Mc
open PySem L2 PySem.Spec PyProof.Rows
section
variable {P : Program} {w : World} {A : Around} {E : Value → Shared → Prop} {s : Shared} {ys : List PySem.Str}
set_option maxHeartbeats 6400000 in
theorem call_setXT {l : Addr} {its : Array Value} {Q : Value → Shared → Prop} (hh : A.handled = none) (hl : s.heap.IsTuple l its) (hv : ∀ (i : Nat) v, its[i]? = some v → ∃ y t, ys[i]? = some y ∧ v = .str y t) (hn : its.size = ys.length) (hb : its.size + 1 < scanBound)
    (fin : ∀ (h' : Heap) (tk c : Nat), PartX P w ys s.heap.objs.size h' ys.length c → (∀ b o, s.heap.get? b = some o → h'.get? b = some o) → Q (.ref s.heap.objs.size) { s with heap := h', toks := tk }) :
    wpAny (model P w) A (call (.type "set") [.ref l]) Q E s := by
  have F0 := PySem.F.called_set
  obtain ⟨cc, tl, m1⟩ := F0.mro
  have m2 := F0.made
  have m3 := F0.sub
  have m4 := F0.notType
  have m5 := F0.canCreate
  have m6 := PySem.F.typeCall_set_1 (.ref l)
  refine wpAny_call <| codeAny_of_tree <| wpAny_pure ⟨Code.quiet_builtin _ (by decide +kernel), codeAny_builtin PySem.F.entry_type_call <| by
    rw [Around.under_plain (weight_type_call_type "set" [.ref l] []) rfl]
    repeat (any_goals (first | assumption | wp_step))
    refine codeAny_mono (code_setX1 (.ref l) (E := E) (Q₁ := fun v s1 => v = .ref s.heap.objs.size ∧ s1 = { s with heap := s.heap.push (so (!w.params.followText "set-order")) }) ⟨rfl, rfl⟩) ?_
    intro r s1 hr
    match r, hr with
    | .error e, hr => exact hr
    | .ok (.ret v), ⟨e1, e2⟩ =>
      subst e1; subst e2
      have at0 : (s.heap.push (so (!w.params.followText "set-order"))).get? s.heap.objs.size = some (so (!w.params.followText "set-order")) := Heap.get?_push_size _ rfl
      have ty : Shared.TypeIs { s with heap := s.heap.push (so (!w.params.followText "set-order")) } (.ref s.heap.objs.size) "set" := ⟨_, at0, rfl⟩
      have n1 := F0.init.lookup
      have n2 := F0.init.bind (.ref s.heap.objs.size)
      repeat (any_goals (first | assumption | wp_step))
      refine codeAny_mono (codeAny_call_builtin (R := wants (fun r s2 => r = .none ∧ ∃ h' tk c, s2 = { s with heap := h', toks := tk } ∧ PartX P w ys s.heap.objs.size h' ys.length c ∧ ∀ b o, s.heap.get? b = some o → h'.get? b = some o) E) F0.init.plain PySem.F.entry_set_init (check_set_init_1 ty ?_)) ?_
      rotate_left 1
      · intro r2 s2 hr2
        match r2, hr2 with
        | .error e, hr2 => exact hr2
        | .ok (.ret r), ⟨e1, h', tk, c, e2, pt, kp⟩ =>
          subst e1; subst e2
          repeat (any_goals (first | assumption | wp_step))
          exact fin h' _ c pt kp
      · have pre : ∀ b o, s.heap.get? b = some o → (s.heap.push (so (!w.params.followText "set-order"))).get? b = some o := fun b o z => Heap.get?_push_of_some _ z
        obtain ⟨ob, hob, hc, nn, hd⟩ := hl
        obtain ⟨c0, d0, dat, sl0⟩ := ob
        cases hc; cases hd
        have hob1 := pre _ _ hob
        have il : (s.heap.push (so (!w.params.followText "set-order"))).IsTuple l its := ⟨_, hob1, rfl, nn, rfl⟩
        have q1 := PySem.F.sub_tuple_set
        have q2 := PySem.F.sub_tuple_frozenset
        have q3 : (Value.type "list" == Value.type "dict") = false := by decide
        unfold Builtin.«set.__init__» noKeywords Builtin.Frozenset.updateFrom
        generalize hPI : pyIter = PI
        wp_walk
        cases hPI
        refine wpAny_pyIter_tuple il ?_
        refine wpAny_bind (wpAny_runValue ?_)
        have z1 : (s.heap.push (so (!w.params.followText "set-order"))).objs.size = s.heap.objs.size + 1 := Heap.size_push ..
        have z2 : l < s.heap.objs.size := Heap.lt_size hob
        have ne : l ≠ (s.heap.push (so (!w.params.followText "set-order"))).objs.size := by rw [z1]; exact Nat.ne_of_lt (Nat.lt_succ_of_lt z2)
        have out : s.heap.objs.size ∉ [(s.heap.push (so (!w.params.followText "set-order"))).objs.size, l] := by
          rw [z1]; simp only [List.mem_cons, List.not_mem_nil, or_false, not_or]; exact ⟨Nat.ne_of_lt (Nat.lt_succ_self _), Nat.ne_of_gt z2⟩
        have hd3 : A.in1.in1.in1.handled = none := by simp [hh]
        refine fillX (ys := ys) ((Walks.tuple hd3 _ l ne its).toS) out hn hb hv ?_ its.size 0 0 _ (Nat.zero_add _) ⟨⟨_, Heap.get?_push_size _ rfl, rfl, rfl⟩, il.at fun o e => Heap.get?_push_of_some _ e⟩ (PartX.start (Heap.get?_push_of_some _ at0)) (Moved.refl fun _ => rfl)
        rintro ⟨h', g', d', tk', os'⟩ c mv pt
        cases show g' = s.gens from mv.gens
        cases show d' = s.drawn from mv.drawn
        cases show os' = s.os from mv.os
        refine wpAny_pure (wpAny_pure ⟨rfl, h', tk', c, rfl, hn ▸ pt, fun b o z => ?_⟩)
        have lt : b < s.heap.objs.size := Heap.lt_size z
        refine mv.heap b o ?_ (Heap.get?_push_of_some _ (pre b o z))
        rw [z1]; simp only [List.mem_cons, List.not_mem_nil, or_false, not_or]; exact ⟨Nat.ne_of_lt lt, Nat.ne_of_lt (Nat.lt_succ_of_lt lt)⟩
  ⟩
end
section
variable {X : Cx}
def rSetXT (K : PySem.W.Frag) (P : Program) (w : World) : List V → Hp → VK → Prop := fun xs H Q => ∃ (l : Addr) (ys : List PySem.Str), xs = [.ref l] ∧ SqT K H l (ys.map V.str) ∧ ys.length < 64 ∧ ∀ (p : Addr) (n : Nat), H p = none → n ≤ ys.length → Q (.ref p) (upd H p (SetXO P w p ys n))
theorem cr_setXT (hc : X.calm = true) : CallR X (.type "set") (rSetXT X.K X.prog X.w) := by
  intro pins s σ H xs us Q I r ⟨l, ys, e, hl, h64, q⟩
  subst e
  obtain ⟨u, eu, ru⟩ := r.one
  subst eu; cases ru
  obtain ⟨its, rv, pl, hz⟩ := I.tuple hl
  have hlen : its.toArray.size = ys.length := by rw [List.size_toArray, ← rv.length, List.length_map]
  refine call_setXT (ys := ys) (I.ok.hd hc) pl (fun i v hv => ?_) hlen (by rw [hlen]; unfold scanBound; omega) fun h' tk c pt kp => ?_
  · have hv' : its[i]? = some v := by simpa using hv
    cases hy : ys[i]? with
    | none => rw [rv.none_of (by rw [List.getElem?_map, hy]; rfl)] at hv'; cases hv'
    | some y =>
      obtain ⟨v', h1, ⟨t, h2⟩⟩ := rv.get (i := i) (x := .str y) (by rw [List.getElem?_map, hy]; rfl)
      rw [hv'] at h1; cases h1
      exact ⟨y, t, rfl, h2⟩
  · have e1 : ys.take ys.length = ys := List.take_length
    have po := pt.1
    rw [e1] at po
    exact ⟨.ref _, upd H s.heap.objs.size (SetXO X.prog X.w s.heap.objs.size ys c), I.laid (t' := tk) kp (Nat.le_refl _) (setX_new po), rfl, q _ c (I.hok.fresh (Nat.le_refl _)) pt.2⟩
/-- how many texts a set has -/
theorem call_lenX : CallR X (.builtin "len") (fun xs H Q => ∃ (p : Addr) (ys : List PySem.Str) (n : Nat), xs = [.ref p] ∧ H p = some (SetXO X.prog X.w p ys n) ∧ n < 64 ∧ ((∃ zs : List PySem.Str, zs.Nodup ∧ (∀ x, x ∈ ys ↔ x ∈ zs) ∧ zs.length = n) → Q (.int (n : Nat)) H)) := by
  intro pins s σ H xs us Q I r ⟨p, ys, n, e, hp, h64, q⟩
  subst e
  obtain ⟨u, eu, ru⟩ := r.one
  subst eu; cases ru
  obtain ⟨o, es, ep, t, R⟩ := ((I.hok p _ hp).1 : SetXs X.prog X.w s.heap p ys n)
  have hz := R.num
  refine call_len_set R.at_ R.ex R.dat R.fits (by rw [hz]; omega) ⟨.int n, H, I.tok _, ⟨_, by rw [hz]⟩, q ⟨es.toList.map txtOf, R.nd, R.mem, by rw [List.length_map, Array.length_toList]; exact hz⟩⟩
end
section
variable {X : Cx} {K : PySem.W.Frag} {P : Program} {w : World}
theorem cr_setXTK (hK : X.K = K) (hP : X.prog = P) (hw : X.w = w) (hc : X.calm = true) : CallR X (.type "set") (rSetXT K P w) := by
  subst hK; subst hP; subst hw
  exact cr_setXT hc
theorem cr_setXK (hK : X.K = K) (hP : X.prog = P) (hw : X.w = w) (hc : X.calm = true) : CallR X (.type "set") (rSetX K P w) := by
  subst hK; subst hP; subst hw
  exact cr_setX hc
theorem call_lenXK (hP : X.prog = P) (hw : X.w = w) : CallR X (.builtin "len") (fun xs H Q => ∃ (p : Addr) (ys : List PySem.Str) (n : Nat), xs = [.ref p] ∧ H p = some (SetXO P w p ys n) ∧ n < 64 ∧ ((∃ zs : List PySem.Str, zs.Nodup ∧ (∀ x, x ∈ ys ↔ x ∈ zs) ∧ zs.length = n) → Q (.int (n : Nat)) H)) := by
  subst hP; subst hw
  exact call_lenX
end
theorem nodup_of_len {ys zs : List PySem.Str} (nz : zs.Nodup) (h : ∀ x, x ∈ ys ↔ x ∈ zs) : zs.length ≤ ys.length ∧ (zs.length = ys.length ↔ ys.Nodup) := by
  have key : ∀ (ys : List PySem.Str), (∃ ds : List PySem.Str, ds.Nodup ∧ (∀ x, x ∈ ds ↔ x ∈ ys) ∧ ds.length ≤ ys.length ∧ (ds.length = ys.length → ys.Nodup)) := by
    intro ys
    induction ys with
    | nil => exact ⟨[], List.nodup_nil, fun _ => Iff.rfl, Nat.le_refl _, fun _ => List.nodup_nil⟩
    | cons y ys ih =>
      obtain ⟨ds, d1, d2, d3, d4⟩ := ih
      by_cases hy : y ∈ ys
      · exact ⟨ds, d1, fun x => by rw [d2 x]; simp only [List.mem_cons]; exact ⟨.inr, fun z => z.elim (fun e => e ▸ hy) id⟩, by rw [List.length_cons]; omega, fun e => by rw [List.length_cons] at e; omega⟩
      · refine ⟨y :: ds, List.nodup_cons.mpr ⟨fun z => hy ((d2 y).mp z), d1⟩, fun x => by simp only [List.mem_cons, d2 x], by simp only [List.length_cons]; omega, fun e => List.nodup_cons.mpr ⟨hy, d4 (by simp only [List.length_cons] at e; omega)⟩⟩
  obtain ⟨ds, d1, d2, d3, d4⟩ := key ys
  have e1 : zs.length = ds.length := Nat.le_antisymm (len_sub nz fun x hx => (d2 x).mpr ((h x).mpr hx)) (len_sub d1 fun x hx => (h x).mp ((d2 x).mp hx))
  refine ⟨by omega, fun e => d4 (by omega), fun nd => ?_⟩
  exact Nat.le_antisymm (by omega) (len_sub nd fun x hx => (h x).mp hx)
end Mc
namespace Mc
open PySem L2 PySem.Spec PyProof.Rows Gd Evl
abbrev sLacking : Stmt := top 0
abbrev sWith : Stmt := top 31
/-- the first mast that hears -/
def hd1 (cls : Cls') (u : PySem.Str) : PySem.Str := (hdP cls u).headD "m0"
theorem hd1_mem {cls : Cls'} {u : PySem.Str} (h : heardB cls u = true) : hd1 cls u ∈ hdP cls u := by
  have := (heardB_iff cls u).mp h
  unfold hd1
  cases e : hdP cls u with
  | nil => exact absurd e this
  | cons x l => exact .head _
/-- who is heard and isn't kept -/
def LackOf (chs : Chs) (cls : Cls') (U : List PySem.Str) : Prop := ∃ lot, KeptOf chs cls lot ∧ U.Nodup ∧ ∀ x, x ∈ U ↔ x ∈ hearers cls ∧ x ∉ lot
def cntU (cls : Cls') (U : List PySem.Str) (m : PySem.Str) : Int := ((U.map (hd1 cls)).count m : Nat)
def spLacking (K : PySem.W.Frag) (CS CC : Addr) : Sp := fun vs H Q _ => ∃ (sc : Addr) (chs : Chs) (cls : Cls'), vs = [.ref sc] ∧ SceneH K CS CC H sc chs cls ∧ OkC chs cls ∧
  ∀ (p : Addr) (U ks : List PySem.Str) (H' : Hp), LackOf chs cls U → ks.Nodup → sortedS ks = true → (∀ m, m ∈ ks ↔ m ∈ U.map (hd1 cls)) → H p = none → H' p = some (.dK (kvT vI (ks.map fun m => (m, cntU cls U m)))) → Same H H' → Q (.ref p) H'
def addM (chs ms : Chs) : Chs := chs.map fun x => (x.1, x.2 + (getT ms x.1).getD 0)
def spWith (K : PySem.W.Frag) (CS CC : Addr) : Sp := fun vs H Q _ => ∃ (sc m : Addr) (chs ms : Chs) (cls : Cls'), vs = [.ref sc, .ref m] ∧ SceneH K CS CC H sc chs cls ∧ ScnX CS H sc chs cls ∧ OkC chs cls ∧ OkC (addM chs ms) cls ∧ H m = some (.dK (kvT vI ms)) ∧
  ∀ (sc2 : Addr) (chs2 : Chs) (cls2 : Cls') (H' : Hp), H sc2 = none → SceneH K CS CC H' sc2 chs2 cls2 → ScnX CS H' sc2 chs2 cls2 → chs2.Perm (addM chs ms) → cls2.Perm cls → Same H H' → Q (.ref sc2) H'
def spWithR (K : PySem.W.Frag) (CS CC : Addr) : Sp := fun vs H Q _ => ∃ (sc m : Addr) (chs ms : Chs) (cls : Cls'), vs = [.ref sc, .ref m] ∧ SceneH K CS CC H sc chs cls ∧ (∃ dx a b, H sc = some (.ins CS dx [("channels", .ref a), ("calls", .ref b)]) ∧ Rd H a (.dK (kvT vI chs)) ∧ H b = some (.dK (kvT vO cls))) ∧ OkC chs cls ∧ OkC (addM chs ms) cls ∧ H m = some (.dK (kvT vI ms)) ∧
  ∀ (sc2 : Addr) (chs2 : Chs) (cls2 : Cls') (H' : Hp), H sc2 = none → SceneH K CS CC H' sc2 chs2 cls2 → ScnX CS H' sc2 chs2 cls2 → chs2.Perm (addM chs ms) → cls2.Perm cls → Same H H' → Q (.ref sc2) H'
structure TxLk (K : PySem.W.Frag) (mg : PySem.Str → Option Value) (CS CC CT : Addr) : Prop where
  clS : Cls K CS
  nCh : NoAttr K CS "channels"
  nCa : NoAttr K CS "calls"
  clC : Cls K CC
  nH : NoAttr K CC "heard"
  clT : Cls K CT
  nPap : NoAttr K CT "papers"
  sorted : mg "sorted" = none
  set : mg "set" = none
section
variable {P : Program} {w : World} {K : PySem.W.Frag} {mg : PySem.Str → Option Value} {base : Heap}
theorem scWi : FnScope ["scene", "more", "mast"] ["scene", "more"] (defScope sWith) := ⟨rfl, rfl, rfl, by decide +kernel, rfl, by decide +kernel, by decide +kernel⟩
theorem atI_0 (v : V) (l : List V) : atI (v :: l) 0 = some v := by
  unfold atI
  rw [show (0 : Int) = ((0 : Nat) : Int) from rfl, ixN_nat (by simp : 0 < (v :: l).length)]
  rfl
theorem EvD.go {te : TE} {σ : L2.St} {H : Hp} {kvs : List (L2.Key × V)} {Q : VK} (h : EvD te σ H kvs) (k : ∀ p H2, H p = none → Ex H H2 → H2 p = some (.dK kvs) → Q (.ref p) H2) : te σ H Q := h H (Ex.refl H) Q k
theorem lack_of {chs : Chs} {cls : Cls'} {lot ps : List PySem.Str} (ok : OkC chs cls) (h : KeptOf chs cls lot) (nd : ps.Nodup) (hp : ∀ x, x ∈ ps ↔ x ∈ keysT cls ∧ x ∉ lot) : LackOf chs cls (ps.filter (heardB cls)) :=
  ⟨lot, h, nd.filter _, fun x => by
    unfold hearers
    rw [List.mem_filter, List.mem_filter, hp]
    exact ⟨fun ⟨⟨a, b⟩, c⟩ => ⟨⟨a, c⟩, b⟩, fun ⟨⟨a, c⟩, b⟩ => ⟨⟨a, b⟩, c⟩⟩⟩
theorem add_keys {chs ms : Chs} (nd : (keysT chs).Nodup) : ((keysT chs).map fun y => (y, (getT chs y).getD 0 + (getT ms y).getD 0)) = addM chs ms := by
  unfold addM
  unfold keysT
  rw [List.map_map]
  refine List.map_congr_left fun x hx => ?_
  show (x.1, (getT chs x.1).getD 0 + (getT ms x.1).getD 0) = _
  rw [getT_mem nd hx]
  rfl
theorem ok_with {f CS CC CT : Addr} {fd : FuncData} (F : Fun K "with_channels" "with_channels" sWith f fd) (T : TxLk K mg CS CC CT) (c_Scene : CalI P w K mg base CS 4 "Scene" ["self", "channels", "calls"] (spSInit K CS CC)) : FnOk P w K mg base CX0 6 f fd ["scene", "more"] (spWith K CS CC) := by
  refine F.ok scWi (fun vs H Q E h => ?_) (fun cdv A outer s H vs Q E hr h => ?_)
  · obtain ⟨sc, m, chs, ms, cls, rfl, _⟩ := h
    rfl
  · obtain ⟨sc, m, chs, ms, cls, rfl, hC, hX, ok, ok2, hm, q⟩ := h
    have hu := hu_of hr
    refine ⟨_, (pss_one (ps_ret (pe_calI c_Scene (hr.mono (by decide)) rfl (pa_cons (pe_lock (pe_dc (own := [("mast", 2)]) (g := gName 2) (tt := tYes) rfl scWi.nd (pi_keys (pe_fld (pv 0) rfl)) (blkOk_by (own := [("mast", 2)]) (N := ["scene", "more", "mast"]) (sc := defScope sWith) (by decide +kernel)) (fun _ _ _ _ _ => pg_name (i := 2) scWi.nd rfl (Or.inl rfl)) (fun _ _ _ _ _ => pts_nil) (fun _ _ _ _ _ => (pv 2)) (fun _ _ _ _ _ => (pe_op op_add (pe_dget hu (pe_fldK (K := K) rfl (pv 0) rfl) (pv 2) (fun _ _ => rfl)) (pe_dget2 hu (pv 1) (pv 2) pe_int ⟨rfl, rfl, rfl, rfl⟩))))) (pa_cons (pe_fld (pv 0) rfl) pa_nil))))), ?_⟩
    obtain ⟨dx, a, b, h1, h2, h3⟩ := hX.here
    have hne : ∀ u o, H u = some o → (∀ kvs, o ≠ .dK kvs) → u ≠ a := fun u o z n e => by rw [e, h2] at z; exact n _ (Option.some.inj z).symm
    have nsc : sc ≠ a := hne _ _ h1 fun _ => by simp
    have hmR : ∀ od, Rd (upd H a (.frz od (.dK (kvT vI chs)))) m (.dK (kvT vI ms)) := fun od => by
      by_cases e : m = a
      · subst e
        rw [h2] at hm
        have : kvT vI chs = kvT vI ms := by injection hm with h; injection h
        exact .inr ⟨od, by rw [upd_same, this]⟩
      · exact .inl (by rw [upd_ne e]; exact hm)
    have lch : chs.length ≤ 100000 := by have := ok.len; omega
    dsimp only [tRet, tMake, tCons]
    refine EvD.go (kvs := mkD (fun y => vI ((getT chs y).getD 0 + (getT ms y).getD 0)) (keysT chs)) ?_ fun p H2 hp e2 hp2 => ?_
    · refine ed_lock (a := a) h2 fun od => ed_K (g := vI) (l := chs) (fun y => vI ((getT chs y).getD 0 + (getT ms y).getD 0)) ok.nd (ev_fld (ev_var rfl) (by rw [upd_ne nsc]; exact h1) T.clS T.nCh rfl) upd_same lch fun i y hy H' x => ?_
      obtain ⟨n, en⟩ := getT_key (List.mem_of_getElem? hy)
      refine ev_is (ev_op (ev_dget (f := vI) (ev_fld (ev_var rfl) (x _ _ (by rw [upd_ne nsc]; exact h1)) T.clS T.nCh rfl) (ev_var rfl) (.inr ⟨od, x _ _ upd_same⟩) en) (ev_is (ev_get2 (f := vI) (ev_var rfl) (ev_var rfl) ev_c (ex_rd x (hmR od))) (show _ = V.int ((getT ms y).getD 0) by cases getT ms y <;> rfl)) rv_I0) ?_
      rw [en]; rfl
    · rw [mkD_kvT, show ((keysT chs).map fun y => (y, (getT chs y).getD 0 + (getT ms y).getD 0)) = addM chs ms from add_keys ok.nd] at hp2
      refine ⟨_, rfl, sc, CS, dx, _, _, rfl, e2 _ _ h1, T.clS, T.nCa, rfl, ?_⟩
      intro x dx0 hx hdx _
      have s1 : Same H2 (upd (upd H2 dx0 (.own x)) x (.ins CS dx0 [])) := fun b o z => by rw [upd_ne (ne_of_none z hx), upd_ne (ne_of_none z hdx)]; exact z
      have npb : p ≠ b := fun e => by rw [e, h3] at hp; cases hp
      refine ⟨x, dx0, p, b, _, cls, rfl, npb, upd_same, s1 _ _ hp2, s1 _ _ (e2 _ _ h3), ok2, (hC.calls.same e2).same s1, fun chs' cls' H3 p1 p2 hS hXX k3 => ⟨rfl, q x chs' cls' H3 ?_ hS hXX p1 p2 ?_⟩⟩
      · exact fresh_back e2 hx
      · exact fun u o z => k3 _ _ (s1 _ _ (e2 _ _ z)) fun e => by rw [List.mem_singleton.mp e] at z; have := e2 _ _ z; rw [hx] at this; cases this
theorem ok_withR {f CS CC CT : Addr} {fd : FuncData} (F : Fun K "with_channels" "with_channels" sWith f fd) (T : TxLk K mg CS CC CT) (c_Scene : CalI P w K mg base CS 4 "Scene" ["self", "channels", "calls"] (spSInit K CS CC)) : FnOk P w K mg base CX0 6 f fd ["scene", "more"] (spWithR K CS CC) := by
  refine F.ok scWi (fun vs H Q E h => ?_) (fun cdv A outer s H vs Q E hr h => ?_)
  · obtain ⟨sc, m, chs, ms, cls, rfl, _⟩ := h
    rfl
  · obtain ⟨sc, m, chs, ms, cls, rfl, hC, ⟨dx, a, b, h1, h2, h3⟩, ok, ok2, hm, q⟩ := h
    have hu := hu_of hr
    rcases h2 with h2 | ⟨o2, h2⟩
    · refine ⟨_, (pss_one (ps_ret (pe_calI c_Scene (hr.mono (by decide)) rfl (pa_cons (pe_lock (pe_dc (own := [("mast", 2)]) (g := gName 2) (tt := tYes) rfl scWi.nd (pi_keys (pe_fld (pv 0) rfl)) (blkOk_by (own := [("mast", 2)]) (N := ["scene", "more", "mast"]) (sc := defScope sWith) (by decide +kernel)) (fun _ _ _ _ _ => pg_name (i := 2) scWi.nd rfl (Or.inl rfl)) (fun _ _ _ _ _ => pts_nil) (fun _ _ _ _ _ => (pv 2)) (fun _ _ _ _ _ => (pe_op op_add (pe_dget hu (pe_fldK (K := K) rfl (pv 0) rfl) (pv 2) (fun _ _ => rfl)) (pe_dget2 hu (pv 1) (pv 2) pe_int ⟨rfl, rfl, rfl, rfl⟩))))) (pa_cons (pe_fld (pv 0) rfl) pa_nil))))), ?_⟩
      have hne : ∀ u o, H u = some o → (∀ kvs, o ≠ .dK kvs) → u ≠ a := fun u o z n e => by rw [e, h2] at z; exact n _ (Option.some.inj z).symm
      have nsc : sc ≠ a := hne _ _ h1 fun _ => by simp
      have hmR : ∀ od, Rd (upd H a (.frz od (.dK (kvT vI chs)))) m (.dK (kvT vI ms)) := fun od => by
        by_cases e : m = a
        · subst e
          rw [h2] at hm
          have : kvT vI chs = kvT vI ms := by injection hm with h; injection h
          exact .inr ⟨od, by rw [upd_same, this]⟩
        · exact .inl (by rw [upd_ne e]; exact hm)
      have lch : chs.length ≤ 100000 := by have := ok.len; omega
      dsimp only [tRet, tMake, tCons]
      refine EvD.go (kvs := mkD (fun y => vI ((getT chs y).getD 0 + (getT ms y).getD 0)) (keysT chs)) ?_ fun p H2 hp e2 hp2 => ?_
      · refine ed_lock (a := a) h2 fun od => ed_K (g := vI) (l := chs) (fun y => vI ((getT chs y).getD 0 + (getT ms y).getD 0)) ok.nd (ev_fld (ev_var rfl) (by rw [upd_ne nsc]; exact h1) T.clS T.nCh rfl) upd_same lch fun i y hy H' x => ?_
        obtain ⟨n, en⟩ := getT_key (List.mem_of_getElem? hy)
        refine ev_is (ev_op (ev_dget (f := vI) (ev_fld (ev_var rfl) (x _ _ (by rw [upd_ne nsc]; exact h1)) T.clS T.nCh rfl) (ev_var rfl) (.inr ⟨od, x _ _ upd_same⟩) en) (ev_is (ev_get2 (f := vI) (ev_var rfl) (ev_var rfl) ev_c (ex_rd x (hmR od))) (show _ = V.int ((getT ms y).getD 0) by cases getT ms y <;> rfl)) rv_I0) ?_
        rw [en]; rfl
      · rw [mkD_kvT, show ((keysT chs).map fun y => (y, (getT chs y).getD 0 + (getT ms y).getD 0)) = addM chs ms from add_keys ok.nd] at hp2
        refine ⟨_, rfl, sc, CS, dx, _, _, rfl, e2 _ _ h1, T.clS, T.nCa, rfl, ?_⟩
        intro x dx0 hx hdx _
        have s1 : Same H2 (upd (upd H2 dx0 (.own x)) x (.ins CS dx0 [])) := fun b o z => by rw [upd_ne (ne_of_none z hx), upd_ne (ne_of_none z hdx)]; exact z
        have npb : p ≠ b := fun e => by rw [e, h3] at hp; cases hp
        refine ⟨x, dx0, p, b, _, cls, rfl, npb, upd_same, s1 _ _ hp2, s1 _ _ (e2 _ _ h3), ok2, (hC.calls.same e2).same s1, fun chs' cls' H3 p1 p2 hS hXX k3 => ⟨rfl, q x chs' cls' H3 ?_ hS hXX p1 p2 ?_⟩⟩
        · exact fresh_back e2 hx
        · exact fun u o z => k3 _ _ (s1 _ _ (e2 _ _ z)) fun e => by rw [List.mem_singleton.mp e] at z; have := e2 _ _ z; rw [hx] at this; cases this
    · refine ⟨_, (pss_one (ps_ret (pe_calI c_Scene (hr.mono (by decide)) rfl (pa_cons ((pe_dc (own := [("mast", 2)]) (g := gName 2) (tt := tYes) rfl scWi.nd (pi_keys (pe_fld (pv 0) rfl)) (blkOk_by (own := [("mast", 2)]) (N := ["scene", "more", "mast"]) (sc := defScope sWith) (by decide +kernel)) (fun _ _ _ _ _ => pg_name (i := 2) scWi.nd rfl (Or.inl rfl)) (fun _ _ _ _ _ => pts_nil) (fun _ _ _ _ _ => (pv 2)) (fun _ _ _ _ _ => (pe_op op_add (pe_dget hu (pe_fldK (K := K) rfl (pv 0) rfl) (pv 2) (fun _ _ => rfl)) (pe_dget2 hu (pv 1) (pv 2) pe_int ⟨rfl, rfl, rfl, rfl⟩))))) (pa_cons (pe_fld (pv 0) rfl) pa_nil))))), ?_⟩
      have hmR : Rd H m (.dK (kvT vI ms)) := .inl hm
      have lch : chs.length ≤ 100000 := by have := ok.len; omega
      dsimp only [tRet, tMake, tCons]
      refine EvD.go (kvs := mkD (fun y => vI ((getT chs y).getD 0 + (getT ms y).getD 0)) (keysT chs)) ?_ fun p H2 hp e2 hp2 => ?_
      · refine ed_K (g := vI) (l := chs) (fun y => vI ((getT chs y).getD 0 + (getT ms y).getD 0)) ok.nd (ev_fld (ev_var rfl) h1 T.clS T.nCh rfl) h2 lch fun i y hy H' x => ?_
        obtain ⟨n, en⟩ := getT_key (List.mem_of_getElem? hy)
        refine ev_is (ev_op (ev_dget (f := vI) (ev_fld (ev_var rfl) (x _ _ h1) T.clS T.nCh rfl) (ev_var rfl) (.inr ⟨o2, x _ _ h2⟩) en) (ev_is (ev_get2 (f := vI) (ev_var rfl) (ev_var rfl) ev_c (ex_rd x hmR)) (show _ = V.int ((getT ms y).getD 0) by cases getT ms y <;> rfl)) rv_I0) ?_
        rw [en]; rfl
      · rw [mkD_kvT, show ((keysT chs).map fun y => (y, (getT chs y).getD 0 + (getT ms y).getD 0)) = addM chs ms from add_keys ok.nd] at hp2
        refine ⟨_, rfl, sc, CS, dx, _, _, rfl, e2 _ _ h1, T.clS, T.nCa, rfl, ?_⟩
        intro x dx0 hx hdx _
        have s1 : Same H2 (upd (upd H2 dx0 (.own x)) x (.ins CS dx0 [])) := fun b o z => by rw [upd_ne (ne_of_none z hx), upd_ne (ne_of_none z hdx)]; exact z
        have npb : p ≠ b := fun e => by rw [e, h3] at hp; cases hp
        refine ⟨x, dx0, p, b, _, cls, rfl, npb, upd_same, s1 _ _ hp2, s1 _ _ (e2 _ _ h3), ok2, (hC.calls.same e2).same s1, fun chs' cls' H3 p1 p2 hS hXX k3 => ⟨rfl, q x chs' cls' H3 ?_ hS hXX p1 p2 ?_⟩⟩
        · exact fresh_back e2 hx
        · exact fun u o z => k3 _ _ (s1 _ _ (e2 _ _ z)) fun e => by rw [List.mem_singleton.mp e] at z; have := e2 _ _ z; rw [hx] at this; cases this
end
end Mc
namespace Mc
open PySem L2 PySem.Spec PyProof.Rows LamX NdefX
/-! ### lambdas with parameters: made, kept as objects with a name, called -/
/-- the object at f is the lambda F with that body (F.body is not looked at) -/
def LmO (f : Addr) (F : NF) (bd : Expr) : HO := .ext fun h => ∃ (pm ctv : Value), h.get? f = some (PySem.W.kla_obj "<lambda>" F.qual F.params bd F.scope F.cl pm F.c ctv)
theorem lmO_ne {f : Addr} {F : NF} {bd : Expr} (ps : Array Value) : LmO f F bd ≠ .tbl ps := fun z => by
  unfold LmO at z
  cases z
theorem lmO_at {P : Program} {w : World} {H : Hp} {h : Heap} {f : Addr} {F : NF} {bd : Expr} (hok : HOk P w H h) (e : H f = some (LmO f F bd)) : ∃ (pm ctv : Value), h.get? f = some (PySem.W.kla_obj "<lambda>" F.qual F.params bd F.scope F.cl pm F.c ctv) := by
  obtain ⟨z, _, _⟩ := hok f _ e
  exact z
section
variable {X : Cx} {pins : List (Addr × Obj)} {σ : L2.St} {H : Hp} {s : Shared}
theorem inv_lm {F : NF} {bd : Expr} {t' : Nat} {pm ctv : Value} (I : Inv X pins σ H s) :
    Inv X pins σ (upd H s.heap.objs.size (LmO s.heap.objs.size F bd)) { s with heap := s.heap.push (PySem.W.kla_obj "<lambda>" F.qual F.params bd F.scope F.cl pm F.c ctv), toks := t' } := by
  refine I.laid (a := s.heap.objs.size) (fun b u e => Heap.get?_push_of_some _ e) (Nat.le_refl _) ?_
  have e : (s.heap.push (PySem.W.kla_obj "<lambda>" F.qual F.params bd F.scope F.cl pm F.c ctv)).get? s.heap.objs.size = some (PySem.W.kla_obj "<lambda>" F.qual F.params bd F.scope F.cl pm F.c ctv) := Heap.get?_push_size _ rfl
  exact ⟨⟨pm, ctv, e⟩, ⟨_, e⟩, fun h1 h2 ⟨p, t, z⟩ st => ⟨p, t, st _ z⟩⟩
/-- the lambda of X's def over that scope, its code object at c -/
abbrev lamF (X : Cx) (params : Arguments) (scope : Scope) (c : Addr) : NF := ⟨"<lambda>", X.env.qual ++ "<lambda>", params, [], scope, cloFrom X.env.cells scope.names [], c⟩
theorem lam_mk {T : List NTab} {nm : Nat → Nat → PySem.Str} {c P : Addr} {params : Arguments} {bd : Expr} {scope : Scope} {pos : Pos} {E : Value → Shared → Prop} {Q : Value → Shared → Prop} (I : Inv X pins σ H s) (TB : TabB X.base X.mg c P) (hcode : X.env.code = .ref c)
    (hm : (P, nm) ∈ T) (hn : nm pos.line pos.col = X.env.qual ++ "<lambda>") (hu : ∀ p ∈ T, p.1 = P → p.2 = nm) (hT : TabsN T H) (hdef : defaultsOf params X.env = ([], [])) (hfree : ∀ y ∈ scope.names, y.2 = .free → ∃ c, X.env.cells.lookup y.1 = some c)
    (h : ∀ (f c' : Addr) (H1 : Hp) (s' : Shared), Inv X pins σ H1 s' → ExtN H H1 → (∀ b, H1 b = none → H b = none) → TabsN T H1 → H f = none → H1 f = some (LmO f (lamF X params scope c') bd) → H1 c' = some (CodeO c' (X.env.qual ++ "<lambda>")) → Q (.ref f) s') :
    wpAny (model X.prog X.w) X.A (eval (.Lambda params bd scope pos) X.env) Q E s := by
  obtain ⟨ps, hP, ht, ha⟩ := (show TabN H P nm from hT _ hm)
  refine PySem.W.kla_eval hdef ?_
  have bP : s.heap.BuiltinsAt X.mg P := TB.bm.keeps I.bk
  have hP' : s.heap.get? P = some { cls := .none, data := .fields ps } := I.hok P _ hP
  cases hc : codeAmong pos ps.toList with
  | none =>
    refine PySem.W.kla_makeFunction (mg := X.mg) (c := c) (P := P) (ps := ps) (closure_ok hfree) I.ok.glob (I.mod.glob.keeps I.bk) hcode (TB.code.keeps I.bk) hP' ht hc TB.gP bP fun c' ctv h' tk hx hge hlt hrec htb => ?_
    obtain ⟨c2, oc, vs, t, e2, hoc, hd, hv⟩ := hrec
    cases e2
    have nC : H c' = none := I.hok.fresh hge
    have I1 := inv_table (t' := tk) (more := #[rawInt pos.line, rawInt pos.col, .ref c']) (h' := h') I hP (fun b o hb e => hx b o hb e) htb hge ⟨oc, vs, t, hoc, hd, hv⟩
    generalize eH1 : upd (upd H P (.tbl (ps ++ #[rawInt pos.line, rawInt pos.col, .ref c']))) c' (CodeO c' (X.env.qual ++ "<lambda>")) = H1 at I1
    have hE : ExtN H H1 := fun b o e n => by
      rw [← eH1, upd_ne (ne_of_none e nC), upd_ne (fun z => n ps (Option.some.inj (e.symm.trans (by rw [z]; exact hP))))]
      exact e
    have hcc : H1 c' = some (CodeO c' (X.env.qual ++ "<lambda>")) := by rw [← eH1]; exact upd_same
    have T1 : TabsN T H1 := fun p hp => by
      by_cases hb : p.1 = P
      · rw [hu p hp hb, hb]
        refine ⟨ps ++ #[rawInt pos.line, rawInt pos.col, .ref c'], by rw [← eH1, upd_ne (ne_of_none hP nC), upd_same], ?_, fun p' cv hcv => ?_⟩
        · rw [show (ps ++ #[rawInt pos.line, rawInt pos.col, .ref c']).toList = ps.toList ++ [rawInt pos.line, rawInt pos.col, .ref c'] by simp]
          exact PySem.TriplesOk_snoc _ _ _ _ ht
        · rw [show (ps ++ #[rawInt pos.line, rawInt pos.col, .ref c']).toList = ps.toList ++ [rawInt pos.line, rawInt pos.col, .ref c'] by simp] at hcv
          rcases among_app2 _ ht hcv with z | ⟨z, z1, z2⟩
          · obtain ⟨c0, e1, e2⟩ := ha p' cv z
            exact ⟨c0, e1, hE _ _ e2 codeO_ne⟩
          · exact ⟨c', z, by rw [← z1, ← z2, hn]; exact hcc⟩
      · obtain ⟨ps', a1, a2, a3⟩ := hT p hp
        refine ⟨ps', by rw [← eH1, upd_ne (ne_of_none a1 nC), upd_ne hb]; exact a1, a2, fun p' cv hcv => ?_⟩
        obtain ⟨c0, e1, e2⟩ := a3 p' cv hcv
        exact ⟨c0, e1, hE _ _ e2 codeO_ne⟩
    have nF : H1 h'.objs.size = none := I1.hok.fresh (Nat.le_refl _)
    have I2 := inv_lm (F := lamF X params scope c') (bd := bd) (t' := tk) (pm := (X.mg "__name__").getD .none) (ctv := ctv) I1
    refine h h'.objs.size c' _ _ I2 (fun b o e n => ?_) (fun b e => ?_) (T1.ext fun b o e => ?_) (I.hok.fresh (Nat.le_trans hge (Nat.le_of_lt hlt))) upd_same ?_
    · exact (upd_ne (ne_of_none (hE b o e n) nF)).trans (hE b o e n)
    · have e1 := upd_none e
      rw [← eH1] at e1
      exact upd_none (upd_none e1)
    · exact (upd_ne (ne_of_none e nF)).trans e
    · exact (upd_ne (Nat.ne_of_lt hlt)).trans hcc
  | some cv =>
    obtain ⟨c', e, hco⟩ := ha pos cv hc
    subst e
    rw [hn] at hco
    refine PySem.W.kla_makeFunctionHit (mg := X.mg) (c := c) (P := P) (ps := ps) (closure_ok hfree) I.ok.glob (I.mod.glob.keeps I.bk) hcode (TB.code.keeps I.bk) hP' ht hc bP fun ctv h' tk hx hsz => ?_
    have I1 : Inv X pins σ H { s with heap := h', toks := tk } := I.kept hx
    have nF : H h'.objs.size = none := I1.hok.fresh (Nat.le_refl _)
    have I2 := inv_lm (F := lamF X params scope c') (bd := bd) (t' := tk) (pm := (X.mg "__name__").getD .none) (ctv := ctv) I1
    exact h h'.objs.size c' _ _ I2 (fun b o e n => (upd_ne (ne_of_none e nF)).trans e) (fun b e => upd_none e) (hT.ext fun b o e => (upd_ne (ne_of_none e nF)).trans e) nF upd_same ((upd_ne (ne_of_none hco nF)).trans hco)
end
/-- the reading of a lambda: a new object -/
def tLamP (T : List NTab) (mk : Addr → NF) (bd : Expr) : TE := fun σ H Q => TabsN T H ∧ ∀ (f c' : Addr) (H1 : Hp), ExtN H H1 → (∀ b, H1 b = none → H b = none) → TabsN T H1 → H f = none → H1 f = some (LmO f (mk c') bd) → H1 c' = some (CodeO c' (mk c').qual) → Q (.ref f) H1
section
variable {X : Cx}
theorem pe_lam {T : List NTab} {nm : Nat → Nat → PySem.Str} {c P : Addr} {params : Arguments} {bd : Expr} {scope : Scope} {pos : Pos} (TB : TabB X.base X.mg c P) (hcode : X.env.code = .ref c)
    (hm : (P, nm) ∈ T) (hn : nm pos.line pos.col = X.env.qual ++ "<lambda>") (hu : ∀ p ∈ T, p.1 = P → p.2 = nm) (hdef : defaultsOf params X.env = ([], []))
    (hfree : ∀ y ∈ scope.names, y.2 = .free → X.env.scope.names.lookup y.1 = some .cell ∨ X.env.scope.names.lookup y.1 = some .free) : PE X (.Lambda params bd scope pos) (tLamP T (lamF X params scope) bd) := by
  refine ⟨fun pins s σ H Q I h => ?_⟩
  obtain ⟨hT, q⟩ := h
  exact lam_mk I TB hcode hm hn hu hT hdef (fun y hy e => I.ok.has _ (hfree y hy e)) fun f c' H1 s' I1 h1 h2 h3 h4 h5 h6 => ⟨.ref f, H1, I1, rfl, q f c' H1 h1 h2 h3 h4 h5 h6⟩
end
/-! ### what a lambda promises -/
structure LOk (P : Program) (w : World) (K : PySem.W.Frag) (mg : PySem.Str → Option Value) (base : Heap) (CX : CXT) (k : Nat) (f : Addr) (F : NF) (bd : Expr) (ps fr : List PySem.Str) (sp : List (Option V) → Sp) : Prop where
  len : ∀ ws vs H Q E, sp ws vs H Q E → vs.length = ps.length
  run : ∀ (A : Around) (outer : List Env) (s : Shared) (H : Hp) (us : List Value) (vs : List V) (ws : List (Option V)) (Q : VK) (E : XK), Room k A → Env0 P w K mg base A outer s H → H f = some (LmO f F bd) → H F.c = some (CodeO F.c F.qual) →
    CellsAt F.cl fr ws s.heap H → Vals vs us → sp ws vs H Q E → codeAny (model P w) A (.call (.ref f) ⟨us, []⟩) (CR CX outer P w H s Q E) s
section
variable {CX : CXT} {P : Program} {w : World} {K : PySem.W.Frag} {mg : PySem.Str → Option Value} {base : Heap} {N ps fr : List PySem.Str} {F : NF} {bd : Expr} {f : Addr} {k : Nat} {sp : List (Option V) → Sp}
theorem lok_of (S : NScope N ps fr F.scope) (hb : ∀ (pm ctv : Value) (us : List Value), us.length = ps.length → bindArgs (PySem.W.kla_fn "<lambda>" F.qual F.params bd F.scope F.cl pm (.ref F.c) ctv) ⟨us, []⟩ = pure (ps.zip us)) (len : ∀ ws vs H Q E, sp ws vs H Q E → vs.length = ps.length)
    (hbody : ∀ (A : Around) (outer : List Env) (s : Shared) (H : Hp) (vs : List V) (ws : List (Option V)) (Q : VK) (E : XK), Room k (A.deeper (envF F f s.heap.objs.size)) → H f = some (LmO f F bd) → H F.c = some (CodeO F.c F.qual) → ws.length = fr.length → sp ws vs H Q E →
      ∃ t, PE (ncx CX P w K mg base N F f A outer s H E) bd t ∧ t (startF N vs ws) H Q) : LOk P w K mg base CX (k + 1) f F bd ps fr sp := by
  refine ⟨len, fun A outer s H us vs ws Q E hr e0 hf hc C r hsp => ?_⟩
  have hl := len _ _ _ _ _ hsp
  have lim : s.heap.NoLimit := e0.mod.nolimit.keeps fun b o e => (e0.bs b o e).1
  obtain ⟨pm, ctv, ho⟩ := lmO_at e0.hok hf
  refine PySem.W.kla_callFunE hr.depth ho rfl S.co S.gen rfl (codeO_at e0.hok hc) ?_
  rw [hb pm ctv us (by rw [← r.length]; exact hl)]
  refine wpAny_pure (wpAny_newFunctionEnv S.nocell (fun ⟨n, _⟩ hy => S.par n (List.of_mem_zip hy).1) (fun h₁ hns hsb => ⟨lim.fresh _ hsb, ?_⟩) S.kind)
  show codeAny _ _ (.expr bd (envF F f s.heap.objs.size)) _ _
  have kp : ∀ b o, s.heap.get? b = some o → h₁.get? b = some o := fun b o e => hsb.extBut b o (Nat.ne_of_lt (Heap.lt_size e)) (Heap.get?_push_of_some _ e)
  obtain ⟨t, ht, hq⟩ := hbody A outer s H vs ws Q E (hr.deeper _) hf hc C.len hsp
  have I : Inv (ncx CX P w K mg base N F f A outer s H E) [] (startF N vs ws) H { s with heap := h₁, toks := s.toks + (ps.zip us).length } := inv_startN S hr.hd e0 hl r C hns kp
  refine PySem.W.kla_codeExpr (wpAny_mono (ht.run [] _ (startF N vs ws) H Q I hq) (fun v s' hs => ?_) fun e s' hs => hs)
  obtain ⟨v', H', J, rv, q⟩ := hs
  exact ⟨v', H', J.os, J.bare, J.base, J.hok, rv, q⟩
end
end Mc
namespace Mc
open PySem L2 PySem.Spec PyProof.Rows Evl LamX NdefX
theorem rd_upd' {a d : Addr} {H : Hp} {u o : HO} (h : Rd H d u) (n : d ≠ a) : Rd (upd H a o) d u := h.elim (fun z => .inl (by rw [upd_ne n]; exact z)) fun ⟨od, z⟩ => .inr ⟨od, by rw [upd_ne n]; exact z⟩
theorem tabs_updl {T : List NTab} {H : Hp} {a : Addr} {xs : List V} {o : HO} (t : TabsN T H) (h : H a = some (.lst xs)) : TabsN T (upd H a o) := fun p hp => by
  obtain ⟨ps, h1, h2, h3⟩ := t p hp
  refine ⟨ps, ?_, h2, fun pos cv hc => ?_⟩
  · rw [upd_ne fun e => by rw [e] at h1; rw [h] at h1; cases h1]; exact h1
  · obtain ⟨c, e1, e2⟩ := h3 pos cv hc
    refine ⟨c, e1, ?_⟩
    rw [upd_ne fun e => by rw [e] at e2; unfold CodeO at e2; rw [h] at e2; cases e2]; exact e2
theorem rd_lock {H : Hp} {a x : Addr} {kvs ks : List (L2.Key × V)} {od : Obj} (h : Rd H a (.dK ks)) (hx : H x = some (.dK kvs)) : Rd (upd H x (.frz od (.dK kvs))) a (.dK ks) := by
  by_cases e : a = x
  · subst e
    rcases h with h | ⟨o, h⟩
    · rw [hx] at h
      cases h
      exact .inr ⟨od, upd_same⟩
    · rw [hx] at h; cases h
  · exact rd_upd' h e
theorem rd_extN {H H' : Hp} {a : Addr} {kvs : List (L2.Key × V)} (h : Rd H a (.dK kvs)) (x : ExtN H H') : Rd H' a (.dK kvs) := h.elim (fun z => .inl (x _ _ z fun _ => by simp)) fun ⟨o, z⟩ => .inr ⟨o, x _ _ z fun _ => by simp⟩
section
variable {K : PySem.W.Frag}
theorem CallsH.extN {CC : Addr} {H H' : Hp} {cls : Cls'} (h : CallsH K CC H cls) (x : ExtN H H') : CallsH K CC H' cls := fun z hz => by
  obtain ⟨dx, q, a, b⟩ := (h z hz).here
  exact ⟨dx, q, x _ _ a (fun _ => by simp), x _ _ b (fun _ => by simp)⟩
theorem SceneH.extN {CS CC : Addr} {H H' : Hp} {sc : Addr} {chs : Chs} {cls : Cls'} (h : SceneH K CS CC H sc chs cls) (x : ExtN H H') : SceneH K CS CC H' sc chs cls := by
  obtain ⟨dx, a, b, h1, h2, h3⟩ := h.here
  exact ⟨⟨dx, a, b, x _ _ h1 (fun _ => by simp), h2.elim (fun z => .inl (x _ _ z fun _ => by simp)) (fun ⟨o, z⟩ => .inr ⟨o, x _ _ z fun _ => by simp⟩), h3.elim (fun z => .inl (x _ _ z fun _ => by simp)) fun ⟨o, z⟩ => .inr ⟨o, x _ _ z fun _ => by simp⟩⟩, h.calls.extN x⟩
end
theorem asc_sorted {β : Type} {l : List (PySem.Str × β)} (h : AscT l) : sortedS (keysT l) = true := by
  refine sorted_of_pw ?_
  unfold keysT
  exact List.pairwise_map.mpr h
/-! what stands over a table's growth -/
theorem Dr.extN {K : PySem.W.Frag} {M : List Addr} {d a : Addr} {H H' : Hp} (D : Dr K M d a H) (x : ExtN H H') : Dr K M d a H' := by
  obtain ⟨k0, m, ns, hl, hs⟩ := D
  refine ⟨?_, m, ns, hl, fun H2 k => ?_⟩
  · obtain ⟨j, h⟩ := k0
    exact ⟨j, x _ _ h fun _ => by simp⟩
  · classical
    have s := hs (fun b => if ∃ ps, H b = some (.tbl ps) then H b else H2 b) fun b o z nb => by
      by_cases e : ∃ ps, H b = some (.tbl ps)
      · show (if _ then H b else H2 b) = _
        rw [if_pos e]; exact z
      · show (if _ then H b else H2 b) = _
        rw [if_neg e]
        exact k b o (x _ _ z fun ps hp => e ⟨ps, by rw [z, hp]⟩) nb
    by_cases e : ∃ ps, H a = some (.tbl ps)
    · obtain ⟨ps, e2⟩ := e
      rcases s with (s | ⟨o, s⟩) | s
      · have s : (if (∃ ps, H a = some (.tbl ps)) then H a else H2 a) = _ := s
        rw [if_pos ⟨ps, e2⟩, e2] at s; cases s
      · have s : (if (∃ ps, H a = some (.tbl ps)) then H a else H2 a) = _ := s
        rw [if_pos ⟨ps, e2⟩, e2] at s; cases s
      · exact .inr s
    · rcases s with (s | ⟨o, s⟩) | s
      · have s : (if (∃ ps, H a = some (.tbl ps)) then H a else H2 a) = _ := s
        rw [if_neg e] at s; exact .inl (.inl s)
      · have s : (if (∃ ps, H a = some (.tbl ps)) then H a else H2 a) = _ := s
        rw [if_neg e] at s; exact .inl (.inr ⟨o, s⟩)
      · exact .inr s
theorem TabsN.kpD {T : List NTab} {K : PySem.W.Frag} {M : List Addr} {d a : Addr} {H H' : Hp} (t : TabsN T H) (D : Dr K M d a H) (k : Kp [d] H H') : TabsN T H' := fun p hp => by
  obtain ⟨j, hd⟩ := D.at_
  obtain ⟨ps, h1, h2, h3⟩ := t p hp
  refine ⟨ps, k _ _ h1 fun e => ?_, h2, fun pos cv hc => ?_⟩
  · rw [List.mem_singleton.mp e, hd] at h1; cases h1
  · obtain ⟨c, e1, e2⟩ := h3 pos cv hc
    refine ⟨c, e1, k _ _ e2 fun e => ?_⟩
    rw [List.mem_singleton.mp e, hd] at e2
    unfold CodeO at e2
    cases e2
theorem TabsN.updD {T : List NTab} {H : Hp} {a : Addr} {kvs : List (L2.Key × V)} {o : HO} (t : TabsN T H) (h : (H a = some (.dK kvs)) ∨ ∃ od, H a = some (.frz od (.dK kvs))) : TabsN T (upd H a o) := fun p hp => by
  obtain ⟨ps, h1, h2, h3⟩ := t p hp
  refine ⟨ps, ?_, h2, fun pos cv hc => ?_⟩
  · rw [upd_ne fun e => by rw [e] at h1; rcases h with h | ⟨od, h⟩ <;> rw [h] at h1 <;> cases h1]; exact h1
  · obtain ⟨c, e1, e2⟩ := h3 pos cv hc
    refine ⟨c, e1, ?_⟩
    rw [upd_ne fun e => by rw [e] at e2; unfold CodeO at e2; rcases h with h | ⟨od, h⟩ <;> rw [h] at e2 <;> cases e2]; exact e2
theorem ScnX.extN {CS : Addr} {H H' : Hp} {p : Addr} {chs : Chs} {cls : Cls'} (h : ScnX CS H p chs cls) (x : ExtN H H') : ScnX CS H' p chs cls := by
  obtain ⟨dx, a, b, h1, h2, h3⟩ := h.here
  exact ⟨⟨dx, a, b, x _ _ h1 (fun _ => by simp), x _ _ h2 (fun _ => by simp), x _ _ h3 (fun _ => by simp)⟩, h.sch, h.scl⟩
end Mc
namespace Mc
open PySem L2 PySem.Spec PyProof.Rows Gd
/-! the mathematics of buying channels -/
def wsum (w : PySem.Str → Nat) (L : List PySem.Str) : Nat := (L.map w).sum
theorem wsum_perm {w : PySem.Str → Nat} {L L' : List PySem.Str} (p : L.Perm L') : wsum w L = wsum w L' := (p.map w).sum_nat
theorem wsum_app (w : PySem.Str → Nat) (L L' : List PySem.Str) : wsum w (L ++ L') = wsum w L + wsum w L' := by unfold wsum; rw [List.map_append, List.sum_append]
/-- fewer channels by some: who must go weighs no more than these channels -/
theorem less_seatW {X : Sc PySem.Str} {w pr : PySem.Str → Nat} (hw : ∀ c m, m ∈ X.heard c → w c ≤ pr m) : ∀ (ds L : List PySem.Str), L.Nodup → Seatable (addX X ds) L → ∃ L' : List PySem.Str, L'.Nodup ∧ (∀ x ∈ L', x ∈ L) ∧ wsum w L ≤ wsum w L' + wsum pr ds ∧ Seatable X L'
  | [], L, nd, ⟨T, t1, t2⟩ => ⟨L, nd, fun _ h => h, Nat.le_refl _, T, t1, fun m => by have := t2 m; simpa [addX] using this⟩
  | d :: ds, L, nd, ⟨T, t1, t2⟩ => by
    have step : ∃ L1 : List PySem.Str, L1.Nodup ∧ (∀ x ∈ L1, x ∈ L) ∧ wsum w L ≤ wsum w L1 + pr d ∧ Seatable (addX X ds) L1 := by
      have t2' : ∀ m, (L.filter fun c => decide (T c = m)).length ≤ X.cap m + ds.count m + if d = m then 1 else 0 := fun m => by
        have := t2 m
        show _ ≤ X.cap m + ds.count m + _
        have e : (addX X (d :: ds)).cap m = X.cap m + (d :: ds).count m := rfl
        rw [e, List.count_cons] at this
        by_cases q : d = m <;> simp [q] at this ⊢ <;> omega
      by_cases hc : (L.filter fun c => decide (T c = d)).length ≤ X.cap d + ds.count d
      · refine ⟨L, nd, fun _ h => h, Nat.le_add_right _ _, T, t1, fun m => ?_⟩
        by_cases e : d = m
        · subst e; exact hc
        · have := t2' m
          rw [if_neg e] at this
          exact this
      · obtain ⟨c, hcm⟩ := List.exists_mem_of_length_pos (l := L.filter fun c => decide (T c = d)) (by omega)
        obtain ⟨cL, cT⟩ := List.mem_filter.mp hcm
        have pm := List.perm_cons_erase cL
        refine ⟨L.erase c, nd.erase _, fun x hx => List.mem_of_mem_erase hx, ?_, T, fun x hx => t1 x (List.mem_of_mem_erase hx), fun m => ?_⟩
        · have e := wsum_perm (w := w) pm
          have : w c ≤ pr d := hw c d (by have := t1 c cL; rwa [of_decide_eq_true cT] at this)
          have e2 : wsum w (c :: L.erase c) = w c + wsum w (L.erase c) := by unfold wsum; rw [List.map_cons, List.sum_cons]
          omega
        have e := (pm.filter fun c => decide (T c = m)).length_eq
        rw [List.filter_cons] at e
        have := t2' m
        show _ ≤ X.cap m + ds.count m
        by_cases q : d = m
        · subst q
          rw [if_pos cT] at e
          simp at e this
          omega
        · have n : ¬ decide (T c = m) = true := by
            have := of_decide_eq_true cT
            simp; rw [this]; exact q
          rw [if_neg n] at e
          rw [if_neg q] at this
          omega
    obtain ⟨L1, n1, s1, l1, k1⟩ := step
    obtain ⟨L2, n2, s2, l2, k2⟩ := less_seatW hw ds L1 n1 k1
    exact ⟨L2, n2, fun x hx => s1 x (s2 x hx), by show _ ≤ _ + ((d :: ds).map pr).sum; rw [List.map_cons, List.sum_cons]; show _ ≤ _ + (pr d + wsum pr ds); omega, k2⟩
theorem sum_thr (w : PySem.Str → Nat) (W : Nat) (L : List PySem.Str) (h : ∀ x ∈ L, w x ≤ W) : wsum w L = ((List.range W).map fun t => (L.filter fun x => decide (t < w x)).length).sum := by
  induction L with
  | nil =>
    show 0 = _
    have : ((List.range W).map fun t => (([] : List PySem.Str).filter fun x => decide (t < w x)).length) = (List.range W).map fun _ => 0 := List.map_congr_left fun _ _ => rfl
    rw [this]
    have z : ∀ n, ((List.range n).map fun _ => 0).sum = 0 := fun n => by
      induction n with
      | zero => rfl
      | succ n ih => rw [List.range_succ, List.map_append, List.sum_append, ih]; rfl
    exact (z W).symm
  | cons x L ih =>
    have e := ih fun y hy => h y (.tail _ hy)
    have hx := h x (.head _)
    show w x + wsum w L = _
    rw [e]
    have key : ∀ n, w x ≤ n → ((List.range n).map fun t => ((x :: L).filter fun x => decide (t < w x)).length).sum = w x + ((List.range n).map fun t => (L.filter fun x => decide (t < w x)).length).sum := by
      intro n
      have gen : ∀ n, ((List.range n).map fun t => ((x :: L).filter fun x => decide (t < w x)).length).sum = min n (w x) + ((List.range n).map fun t => (L.filter fun x => decide (t < w x)).length).sum := by
        intro n
        induction n with
        | zero => simp
        | succ n ih =>
          rw [List.range_succ, List.map_append, List.sum_append, List.map_append, List.sum_append, ih]
          simp only [List.map_cons, List.map_nil, List.sum_cons, List.sum_nil, List.filter_cons]
          by_cases q : n < w x
          · simp [q]; omega
          · simp [q]; omega
      intro hn
      rw [gen n, Nat.min_eq_right hn]
    rw [key W hx]
/-- no seatable lot weighs more than what is kept -/
theorem kept_weight {chs : Chs} {cls : Cls'} {lot J : List PySem.Str} {w : PySem.Str → Nat} (nd : (keysT cls).Nodup) (hwk : ∀ x ∈ keysT cls, wOf cls x = (w x : Nat)) (h : KeptOf chs cls lot) (nJ : J.Nodup) (sJ : ∀ x ∈ J, x ∈ keysT cls) (hJ : Seatable (ScM chs cls) J) : wsum w J ≤ wsum w lot := by
  have nl : lot.Nodup := by obtain ⟨_, _, _, nl, _⟩ := h; exact nl
  have sl := kept_sub h
  have thr : ∀ t, (J.filter fun x => decide (t < w x)).length ≤ (lot.filter fun x => decide (t < w x)).length := fun t => by
    refine Nat.le_of_not_lt fun lt => ?_
    obtain ⟨b, hb, hn, s⟩ := exch (nl.filter _) (nJ.filter _) (seat_sub (nl.filter _) (fun x hx => (List.mem_filter.mp hx).1) (kept_seat h)) (seat_sub (nJ.filter _) (fun x hx => (List.mem_filter.mp hx).1) hJ) lt
    obtain ⟨hbJ, hbw⟩ := List.mem_filter.mp hb
    have hbw := of_decide_eq_true hbw
    have hbl : b ∉ lot := fun z => hn (List.mem_filter.mpr ⟨z, decide_eq_true hbw⟩)
    have hbk := sJ b hbJ
    obtain ⟨ys, pm, pw, _, hm⟩ := h
    have ndy := pm.nodup_iff.mpr nd
    obtain ⟨P, Q, rfl⟩ := List.append_of_mem (pm.mem_iff.mpr hbk)
    have nbP : b ∉ P := fun z => (List.nodup_append.mp ndy).2.2 b z b (by simp) rfl
    have nP := (List.nodup_append.mp ndy).1
    refine hbl ((hm b).mpr ((gr_iff ndy).mpr (seat_sub (snoc_nd (gr_nd nP) fun z => nbP (gr_sub _ _ b z)) (fun y hy => ?_) s)))
    rcases List.mem_append.mp hy with z | z
    · refine List.mem_append_left _ (List.mem_filter.mpr ⟨(hm y).mpr (gr_keep _ z), decide_eq_true ?_⟩)
      have hyP := gr_sub _ _ y z
      have le := (List.pairwise_append.mp pw).2.2 y hyP b (.head _)
      have hyk := pm.mem_iff.mp (List.mem_append_left _ hyP)
      have e1 := hwk y hyk
      have e2 := hwk b hbk
      unfold rkLe rkO at le
      rw [e1, e2] at le
      rcases le with le | ⟨le, _⟩ <;> omega
    · exact List.mem_append_right _ z
  obtain ⟨W, hW⟩ : ∃ W, ∀ x, x ∈ J ∨ x ∈ lot → w x ≤ W := by
    have : ∀ L : List PySem.Str, ∃ W, ∀ x ∈ L, w x ≤ W := fun L => by
      induction L with
      | nil => exact ⟨0, fun x hx => nomatch hx⟩
      | cons y L ih =>
        obtain ⟨W, hW⟩ := ih
        exact ⟨max (w y) W, fun x hx => (List.mem_cons.mp hx).elim (fun e => by rw [e]; omega) fun z => by have := hW x z; omega⟩
    obtain ⟨W, hW⟩ := this (J ++ lot)
    exact ⟨W, fun x hx => hW x (List.mem_append.mpr hx)⟩
  rw [sum_thr w W J fun x hx => hW x (.inl hx), sum_thr w W lot fun x hx => hW x (.inr hx)]
  have : ∀ l : List Nat, (l.map fun t => (J.filter fun x => decide (t < w x)).length).sum ≤ (l.map fun t => (lot.filter fun x => decide (t < w x)).length).sum := fun l => by
    induction l with
    | nil => exact Nat.le_refl _
    | cons t l ih => rw [List.map_cons, List.sum_cons, List.map_cons, List.sum_cons]; exact Nat.add_le_add (thr t) ih
  exact this _
/-- a scene whose calls are worth their cheapest mast's price -/
structure PricedC (cls clsP : Cls') (pr mp : PySem.Str → Nat) : Prop where
  nd : (keysT clsP).Nodup
  keys : ∀ c, c ∈ keysT clsP ↔ c ∈ hearers cls
  hd : ∀ c ∈ hearers cls, ∀ m, m ∈ hdP clsP c ↔ m ∈ hdP cls c
  wt : ∀ c ∈ hearers cls, wOf clsP c = (mp c : Nat)
  ex : ∀ c ∈ hearers cls, ∃ m ∈ hdP cls c, pr m = mp c
  le : ∀ c ∈ hearers cls, ∀ m ∈ hdP cls c, mp c ≤ pr m
theorem PricedC.seat {chs : Chs} {cls clsP : Cls'} {pr mp : PySem.Str → Nat} (P : PricedC cls clsP pr mp) {L : List PySem.Str} (h : ∀ x ∈ L, x ∈ hearers cls) : Seatable (ScM chs clsP) L ↔ Seatable (ScM chs cls) L :=
  ⟨seat_mono (fun _ => rfl) fun c hc m hm => (P.hd c (h c hc) m).mp hm, seat_mono (fun _ => rfl) fun c hc m hm => (P.hd c (h c hc) m).mpr hm⟩
theorem PricedC.sub {chs : Chs} {cls clsP : Cls'} {pr mp : PySem.Str → Nat} (P : PricedC cls clsP pr mp) {lot : List PySem.Str} (k : KeptOf chs clsP lot) : ∀ x ∈ lot, x ∈ hearers cls := fun x hx => (P.keys x).mp (kept_sub k x hx)
theorem buy_ok {chs chs2 : Chs} {cls clsP cls2 : Cls'} {pr mp : PySem.Str → Nat} {lot lot2 U : List PySem.Str} {h : PySem.Str → PySem.Str} (P : PricedC cls clsP pr mp) (nd2 : (keysT cls2).Nodup) (k : KeptOf chs clsP lot) (k2 : KeptOf chs2 cls2 lot2) (hU : ∀ x, x ∈ U ↔ x ∈ hearers cls ∧ x ∉ lot) (hh : ∀ u ∈ U, h u ∈ hdP cls u)
    (M : MoreC chs chs2 cls cls2 (U.map h)) (x : PySem.Str) : x ∈ lot2 ↔ x ∈ hearers cls := by
  rw [← M.hear]
  refine kept_all nd2 k2 (M.seat.mpr (seat_sub (hear_nd nd2) (fun y hy => ?_) (add_seat ((P.seat (P.sub k)).mp (kept_seat k)) hh fun u hu => ((hU u).mp hu).2))) x
  have hy := (M.hear y).mp hy
  by_cases e : y ∈ lot
  · exact List.mem_append_left _ e
  · exact List.mem_append_right _ ((hU y).mpr ⟨hy, e⟩)
theorem buy_least {chs chs2 : Chs} {cls clsP cls2 : Cls'} {pr mp : PySem.Str → Nat} {lot lot2 U ds : List PySem.Str} (nd : (keysT cls).Nodup) (P : PricedC cls clsP pr mp) (k : KeptOf chs clsP lot) (k2 : KeptOf chs2 cls2 lot2) (nU : U.Nodup) (hU : ∀ x, x ∈ U ↔ x ∈ hearers cls ∧ x ∉ lot)
    (M : MoreC chs chs2 cls cls2 ds) (all : ∀ x, x ∈ hearers cls → x ∈ lot2) : wsum mp U ≤ wsum pr ds := by
  have nh := hear_nd nd
  have nl : lot.Nodup := by obtain ⟨_, _, _, nl, _⟩ := k; exact nl
  have hw : ∀ c m, m ∈ (ScM chs cls).heard c → (if c ∈ hearers cls then mp c else 0) ≤ pr m := fun c m hm => by
    by_cases e : c ∈ hearers cls
    · rw [if_pos e]; exact P.le c e m hm
    · rw [if_neg e]; exact Nat.zero_le _
  obtain ⟨L, nL, sL, lL, kL⟩ := less_seatW (w := fun c => if c ∈ hearers cls then mp c else 0) hw ds (hearers cls) nh (M.seat.mp (seat_sub nh (fun x hx => all x hx) (kept_seat k2)))
  have ew : ∀ L : List PySem.Str, (∀ x ∈ L, x ∈ hearers cls) → wsum (fun c => if c ∈ hearers cls then mp c else 0) L = wsum mp L := fun L h => by
    unfold wsum
    rw [List.map_congr_left fun x hx => if_pos (h x hx)]
  rw [ew _ fun _ h => h, ew _ sL] at lL
  have a := kept_weight (w := mp) P.nd (fun x hx => P.wt x ((P.keys x).mp hx)) k nL (fun x hx => (P.keys x).mpr (sL x hx)) ((P.seat sL).mpr kL)
  have pm : (lot ++ U).Perm (hearers cls) := perm_nd (List.nodup_append.mpr ⟨nl, nU, fun x hx y hy e => ((hU y).mp hy).2 (e ▸ hx)⟩) nh fun x => by
    rw [List.mem_append, hU]
    constructor
    · rintro (z | z)
      · exact P.sub k x z
      · exact z.1
    · intro z
      by_cases e : x ∈ lot
      · exact .inl e
      · exact .inr ⟨z, e⟩
  have e := wsum_perm (w := mp) pm
  rw [wsum_app] at e
  omega
end Mc
namespace Mc
open PySem L2 PySem.Spec PyProof.Rows FbM LamX NdefX
/-! ### sorted(d, key=lambda x: ..), d a dict with text keys, the lambda gives an int and the key -/
/-- what is asked of the callable at each key -/
def CallsKey (X : Cx) (A : Around) (pins : List (Addr × Obj)) (σ : L2.St) (q : Addr) (kf : PySem.Str → Int) (ks : List PySem.Str) (H : Hp) : Prop :=
  ∀ (s' : Shared) (H' : Hp) (y : PySem.Str) (t : Tok), y ∈ ks → Inv X pins σ H' s' → Same H H' → codeAny (model X.prog X.w) A (.call (.ref q) ⟨[.str y t], []⟩) (CR CX0 X.stack X.prog X.w H' s' (fun v H2 => ∃ p, v = .ref p ∧ H' p = none ∧ H2 = upd H' p (.tup [.int (kf y), .str y])) E0) s'
section
variable {X : Cx} {pins : List (Addr × Obj)} {σ : L2.St} {H : Hp} {s : Shared} {k : Nat} {q a kS : Addr} {kf : PySem.Str → Int} {ks : List PySem.Str} {vs : List Value} {A : Around} {E : Value → Shared → Prop} {e1 : Nat} {P : PySem.Fin → Shared → Prop}
theorem kl_rest (hr : Room k A) (hcall : CallsKey X A pins σ q kf ks H) (I : Inv X pins σ H s) (ra : Rec X pins a) (rk : Rec X pins kS) (na : H a = none) (nk : H kS = none)
    (hka : kS ≠ a) (ek : s.heap.get? kS = some (seqObj "list" #[] 0)) (ea : s.heap.get? a = some (seqObj "list" #[] e1)) (hv : StrsAre vs ks) (h64 : ks.length < 64)
    (done : ∀ s' H' out c, Inv X pins σ H' s' → Same H H' → H' a = none → s'.heap.get? a = some (seqObj "list" (List.toArray out) c) → PySem.W.KeyedOut false (ks.map (kdM kf)) vs out → P (.done (.ret .none)) s') :
    wpAny (model X.prog X.w) A (ksk_rest a (.ref q) false vs.toArray e1 (.ref kS)) P E s := by
  have hlen : vs.length = ks.length := hv.len_eq
  have h16 : vs.length ≤ sizeLine := by rw [hlen, sizeLine_eq]; omega
  unfold ksk_rest
  refine wpAny_bind (wpAny_rule ?_)
  rw [List.forIn_toArray]
  refine wpAny_bind (ksk_fold (fun i s' => ∃ H' kA e, Inv X pins σ H' s' ∧ Same H H' ∧ H' a = none ∧ H' kS = none ∧ s'.heap.get? kS = some (seqObj "list" kA e) ∧ s'.heap.get? a = some (seqObj "list" #[] e1) ∧
    PySem.W.EachIs (fun v x => ∃ p, v = Value.ref p ∧ H' p = some (.tup [.int (kf x), .str x])) kA.toList (ks.take i)) vs 0 s ⟨H, #[], 0, I, fun _ _ h => h, na, nk, ek, ea, by rw [List.take_zero]; exact PySem.W.EachIs.nil⟩ ?step ?done)
  case step =>
    rintro j x s' hx ⟨H', kA, e, I', sm, na', nk', ek', ea', hk⟩
    rw [Nat.zero_add] at hk ⊢
    obtain ⟨y, t, rfl, hy⟩ := hv.item j x hx
    have hz : kA.size ≤ ks.length := by
      have h1 := hk.length
      rw [Array.length_toList, List.length_take] at h1
      omega
    have h64' : kA.size < 64 := by omega
    refine wpAny_bind (wpAny_attempt ?_)
    refine wpAny_call (codeAny_mono (hcall s' H' y t (List.mem_of_getElem? hy) I' sm) fun rr s2 hrr => ?_)
    cases rr with
    | error er => exact False.elim hrr
    | ok fl =>
      cases fl with
      | next => exact False.elim hrr
      | brk => exact False.elim hrr
      | cont => exact False.elim hrr
      | ret v =>
        obtain ⟨v', H2, os, bare, un, hok, rv', p, ev, hp, eH⟩ := (show CE X.stack X.prog X.w H' s' _ v s2 from hrr)
        subst ev
        cases rv'
        have I2 : Inv X pins σ H2 s2 := I'.call' os un hok bare (fun b z => absurd z List.not_mem_nil)
        have sm2 : Same H' H2 := fun b u e => by
          rw [eH, upd_ne (ne_of_none e hp)]
          exact e
        have keep : ∀ {b : Addr} {ob : Obj}, Rec X pins b → H' b = none → s'.heap.get? b = some ob → s2.heap.get? b = some ob := fun rb ub eb => un.keep _ _ eb ub rb.fr List.not_mem_nil
        have fr2 : ∀ {b : Addr} {ob : Obj}, H' b = none → s'.heap.get? b = some ob → H2 b = none := fun ub eb => un.free _ _ eb ub List.not_mem_nil
        have nk2 := keep rk nk' ek'
        have na2 := keep ra na' ea'
        have uk2 := fr2 nk' ek'
        have ua2 := fr2 na' ea'
        try dsimp only
        obtain ⟨h2, g2, d2, t2, o2⟩ := s2
        obtain ⟨c2, hc2⟩ : ∃ c2, (h2.update kS (Obj.mapSeq (·.push (.ref p)))).get? kS = some (seqObj "list" (kA.push (.ref p)) c2) := ⟨_, get?_update_seq nk2 (·.push (.ref p))⟩
        have sb : Heap.SameBut kS h2 (h2.update kS (Obj.mapSeq (·.push (.ref p)))) := Heap.SameBut.update ..
        refine wpAny_bind (listUpdate_at nk2 rfl ?_ (by rw [sizeLine_eq]; omega) (by rw [Array.size_push, sizeLine_eq]; omega))
        refine wpAny_pure ⟨rfl, H2, kA.push (.ref p), c2, rk.turn (t' := t2) I2 uk2 fun c ob hc e => sb.extBut c ob hc e, fun b u e => sm2 b u (sm b u e), ua2, uk2, hc2, sb.extBut _ _ hka.symm na2, ?_⟩
        have ek3 : ks.take (j + 1) = ks.take j ++ [y] := by rw [List.take_add_one, hy]; rfl
        have ea3 : (kA.push (Value.ref p)).toList = kA.toList ++ [.ref p] := by simp
        rw [ek3, ea3]
        refine PySem.W.each_snoc ⟨p, rfl, by rw [eH, upd_same]⟩ (hk.mono fun u d z => ?_)
        obtain ⟨p', ep, z⟩ := z
        exact ⟨p', ep, sm2 _ _ z⟩
  case done =>
    rintro s' ⟨H', kA, e, I', sm, na', nk', ek', ea', hk⟩
    have hk' : PySem.W.EachIs (fun v k => ∃ as, Reads s'.heap v k as) kA.toList (ks.map (kdM kf)) := by
      have e3 : ks.take (0 + vs.length) = ks := List.take_of_length_le (by omega)
      rw [e3] at hk
      refine PySem.W.each_map (kdM kf) (hk.mono fun v x z => ?_)
      obtain ⟨p, rfl, z⟩ := z
      exact ⟨[], tup_reads I'.hok z⟩
    have hsz : kA.size = vs.length := by
      have h1 := hk'.length
      rw [Array.length_toList, List.length_map] at h1
      omega
    refine wpAny_bind (listItems_at ek' rfl ?_)
    have hal : PySem.W.AllAlike (ks.map (kdM kf)) := PySem.W.AllAlike.of fun _ _ => by simp [kdM, PySem.W.alike, PySem.W.alikeAll]
    refine PySem.W.keyH_end (κ := PySem.W.dataKind s'.heap (ks.map (kdM kf))) (h₁ := rid s'.heap kS) (b := false) (fun b ob hb z => ?_) rid_none ek' ea' hka (PySem.W.SortsAt.data hk' hal (PySem.W.Sortable.tuples fun _ => ⟨_, _, rfl⟩) ?_) hsz h16 fun h' tk c kp hD => ?_
    · by_cases hbk : b = kS
      · subst hbk
        rw [rid_none] at z
        cases z
      · exact (rid_ne hbk).symm.trans z
    · intro d hd
      obtain ⟨x, _, rfl⟩ := List.mem_map.mp hd
      have h2 : (kdM kf x).depth = 1 := by simp [kdM, PyData.depth, PyData.depthAll]
      have := hr.units
      omega
    · have keep : ∀ b ob, b ≠ a → b ≠ kS → s'.heap.get? b = some ob → h'.get? b = some ob := fun b ob ha hk z => kp b ob ha ((rid_ne hk).trans z)
      have nb : ∀ {b u}, H' b = some u → b ≠ a ∧ b ≠ kS := fun {b u} z => ⟨fun e => (by rw [e, na'] at z; cases z), fun e => (by rw [e, nk'] at z; cases z)⟩
      refine done _ H' (PySem.W.sortVals (PySem.W.dataKind s'.heap (ks.map (kdM kf))) false kA.toList vs) c ?_ sm na' hD ⟨s'.heap, kA.toList, hal, rfl, hk'⟩
      obtain ⟨h1, g1, d1, t1, o1⟩ := s'
      refine I'.call' (ch := [a, kS]) rfl ⟨fun b ob z n _ hx => ?_, fun b ob z n _ hx => ⟨ob.slots, ?_⟩, fun b ob z n hx => n, fun b ob z hx => ⟨ob, ?_⟩, fun b xs z => z, fun b ob u z => z, fun b pz z => ⟨#[], by rw [z]; simp⟩⟩ (fun b u z => ?_) I'.bare fun b hb => ?_
      · exact keep b ob (fun e => hx (by simp [e])) (fun e => hx (by simp [e])) z
      · exact keep b ob (fun e => hx (by simp [e])) (fun e => hx (by simp [e])) z
      · exact keep b ob (fun e => hx (by simp [e])) (fun e => hx (by simp [e])) z
      · refine (I'.hok b u z).stay (fun cc v hc q => ?_) (fun _ q => q) fun _ _ q => q
        rcases hc with e | e
        · rw [e] at q ⊢
          exact keep b v (nb z).1 (nb z).2 q
        · exact keep cc v (nb e).1 (nb e).2 q
      · rcases List.mem_cons.mp hb with e | e
        · subst e
          exact ⟨.inr ra.ge, ra.nl, ra.ce, ra.pn⟩
        · obtain rfl := List.mem_singleton.mp e
          exact ⟨.inr rk.ge, rk.nl, rk.ce, rk.pn⟩
theorem sortedKL (hcalm : X.calm = true) (hr : Room k X.A.in1.in1) (hcall : CallsKey X X.A.in1.in1 pins σ q kf ks H) {d : Addr} {kvs : List (Key × V)} {Q : VK} (I : Inv X pins σ H s) (hd : Rd H d (.dK kvs)) (hks : kvs.map (·.1) = ks.map Sum.inr) (h64 : ks.length < 64)
    (fin : ∀ (ys : List PySem.Str) p H', Same H H' → ys.Perm ks → ys.Pairwise (rkLe kf) → H' p = none → Q (.ref p) (upd H' p (.lst (ys.map V.str)))) :
    wpAny (model X.prog X.w) X.A (call (.builtin "sorted") [.ref d] [(PySem.Str.ofString "key", .ref q)]) (EP X pins σ Q) X.xe s := by
  obtain ⟨z, lo, vs, rel, dd⟩ := dk_rd I.hok hd
  obtain ⟨ep, hat⟩ := dd.dictAt
  have hkeys : vs.map (·.1) = ks.map Sum.inr := rel.keys.symm.trans hks
  have hl : vs.length = ks.length := by
    have e := congrArg List.length hkeys
    rw [List.length_map, List.length_map] at e
    exact e
  have h16 : vs.length ≤ sizeLine := by rw [hl, sizeLine_eq]; omega
  refine call_function_entry_kw kind_sorted plain_sorted entry_sorted (ksk_s1 _ _) ?_
  unfold Builtin.«sorted»
  refine wpAny_bind (m := checkCount "sorted" 1 1 _) (wpAny_pure ?_)
  refine wpAny_bind (PySem.W.kdu_collect (A := X.A.in1) (PySem.W.kdl_dict (knd := mixKind X.prog X.w) (kvs := vs) (ep := ep) lo) (I.ok.hd hcalm) hat h16 fun h1 tk acc hk hacc => ?_)
  have hal : acc.toList.length = ks.length := by rw [Array.length_toList, hacc.1, hl]
  have hS : StrsAre acc.toList ks := strs_at hal fun j v e => by
    obtain ⟨kx, x, w1, w2⟩ := hacc.2 j v (by rw [← Array.getElem?_toList]; exact e)
    have w3 : (vs.map (·.1))[j]? = some kx := by rw [List.getElem?_map, w1]; all_goals rfl
    rw [hkeys, List.getElem?_map] at w3
    cases w4 : ks[j]? with
    | none => rw [w4] at w3; cases w3
    | some y =>
      rw [w4] at w3
      obtain rfl : Sum.inr y = kx := Option.some.inj w3
      obtain ⟨t, ev⟩ := Value.isStrOf_shape (x := y) (v := v) w2
      exact ⟨y, t, rfl, ev⟩
  have I1 : Inv X pins σ H { s with heap := h1, toks := tk } := I.kept hk
  refine wpAny_bind (wpAny_newList ?_ (by rw [hal, sizeLine_eq]; omega))
  have hoL : (h1.push (seqObj "list" acc.toList.toArray 0)).get? h1.objs.size = some (seqObj "list" acc.toList.toArray 0) := Heap.get?_push_size _ rfl
  have I2 : Inv X pins σ H { s with heap := h1.push (seqObj "list" acc.toList.toArray 0), toks := tk } := I1.kept (t' := tk) fun b u e => Heap.get?_push_of_some _ e
  have ra : Rec X pins h1.objs.size := rec_new I1 (Nat.le_refl _)
  have na : H h1.objs.size = none := I1.hok.fresh (Nat.le_refl _)
  show wpAny _ _ _ _ _ { s with heap := h1.push (seqObj "list" acc.toList.toArray 0), toks := tk }
  refine wpAny_bind (wpAny_holding (wpAny_call_entry_kw slot_list_sort ⟨_, hoL, rfl⟩ entry_list_sort ?body (ksk_l1 _ _)))
  case body =>
    rw [ksk_t1]
    unfold ksk_tree
    refine wpAny_bind (listItems_at hoL rfl ?_)
    have hz : acc.toList.toArray.size ≤ sizeLine := by rw [List.size_toArray, hal, sizeLine_eq]; omega
    refine wpAny_bind (listUpdate_at hoL rfl ?_ hz (Nat.zero_le _))
    obtain ⟨e1, ho1⟩ : ∃ e1, ((h1.push (seqObj "list" acc.toList.toArray 0)).update h1.objs.size (Obj.mapSeq fun _ => (#[] : Array Value))).get? h1.objs.size = some (seqObj "list" #[] e1) := ⟨_, get?_update_seq hoL fun _ => #[]⟩
    refine wpAny_bind (seqEpoch_at ho1 rfl ?_)
    refine wpAny_bind (wpAny_newTuple ?_ (by show acc.toList.length ≤ _; rw [hal, sizeLine_eq]; omega))
    refine wpAny_bind (wpAny_newList ?_ (Nat.zero_le _))
    refine wpAny_holding ?_
    have sb : Heap.SameBut h1.objs.size (h1.push (seqObj "list" acc.toList.toArray 0)) ((h1.push (seqObj "list" acc.toList.toArray 0)).update h1.objs.size (Obj.mapSeq fun _ => (#[] : Array Value))) := Heap.SameBut.update ..
    have I3 := ra.turn (t' := tk) I2 na fun c ob hc e => sb.extBut c ob hc e
    have I4 := I3.kept (t' := tk) fun b u e => Heap.get?_push_of_some (seqObj "tuple" acc.toList.toArray 0) e
    have I5 := I4.kept (t' := tk) fun b u e => Heap.get?_push_of_some (seqObj "list" #[] 0) e
    have lt1 : h1.objs.size < (((h1.push (seqObj "list" acc.toList.toArray 0)).update h1.objs.size (Obj.mapSeq fun _ => (#[] : Array Value))).push (seqObj "tuple" acc.toList.toArray 0)).objs.size := by
      rw [size_push', Heap.size_update, size_push']
      omega
    refine kl_rest (k := k) (kf := kf) (ks := ks) hr hcall I5 ra (rec_new I4 (Nat.le_refl _)) na (I4.hok.fresh (Nat.le_refl _)) (Nat.ne_of_gt lt1) (Heap.get?_push_size _ rfl)
      (Heap.get?_push_of_some _ (Heap.get?_push_of_some _ ho1)) hS h64 fun s' H' out c J sm na' hD ko => ?_
    have eo := PySem.W.keyedOut_each (kdM kf) ko (each_strs hS)
    have pm := List.mergeSort_perm ks (PySem.W.dataLe false (kdM kf))
    have hlo : (ks.mergeSort (PySem.W.dataLe false (kdM kf))).length ≤ sizeLine := by rw [pm.length_eq, sizeLine_eq]; omega
    refine ⟨_, rfl, wpAny_pure ⟨_, rfl, .ref h1.objs.size, upd H' h1.objs.size (.lst ((ks.mergeSort (PySem.W.dataLe false (kdM kf))).map V.str)), adopt J ra na' ⟨?_, out, c, each_vals eo, hD⟩, rfl, fin _ _ H' sm pm (kdM_sorted ks) na'⟩⟩
    rw [List.length_map]
    exact hlo
/-- sorted(e, key=lambda x: ..) -/
def tSrtL (T : List NTab) (mk : Addr → NF) (bd : Expr) (js : List Nat) (sp : Addr → Addr → List (Option V) → Sp) (ta : TE) : TE := fun σ H Q => ta σ H fun x H1 => TabsN T H1 ∧ ∀ (f c' : Addr) (H2 : Hp), ExtN H1 H2 → (∀ b, H2 b = none → H1 b = none) → TabsN T H2 → H1 f = none → H2 f = some (LmO f (mk c') bd) → H2 c' = some (CodeO c' (mk c').qual) →
  ∃ (d : Addr) (kvs : List (Key × V)) (ks : List PySem.Str) (kf : PySem.Str → Int), x = .ref d ∧ Rd H2 d (.dK kvs) ∧ kvs.map (·.1) = ks.map Sum.inr ∧ ks.length < 64 ∧
  (∀ y ∈ ks, ∀ H', Same H2 H' → sp f c' (js.map (slotAt σ)) [.str y] H' (fun v H3 => ∃ p, v = .ref p ∧ H' p = none ∧ H3 = upd H' p (.tup [.int (kf y), .str y])) E0) ∧
  ∀ (ys : List PySem.Str) p H', Same H2 H' → ys.Perm ks → ys.Pairwise (rkLe kf) → H' p = none → Q (.ref p) (upd H' p (.lst (ys.map V.str)))
variable {fr : List PySem.Str} {js : List Nat} {sp : Addr → Addr → List (Option V) → Sp} {e : Expr} {ta : TE} {p pos kpos lpos : Pos} {T : List NTab} {nm : Nat → Nat → PySem.Str} {c P' : Addr} {params : Arguments} {bd : Expr} {scope : Scope} {x0 : PySem.Str}
theorem pe_srtL (hcalm : X.calm = true) (TB : TabB X.base X.mg c P') (hcode : X.env.code = .ref c) (hm' : (P', nm) ∈ T) (hn : nm lpos.line lpos.col = X.env.qual ++ "<lambda>") (hu' : ∀ p ∈ T, p.1 = P' → p.2 = nm) (hdef : defaultsOf params X.env = ([], []))
    (hfree : ∀ y ∈ scope.names, y.2 = .free → X.env.scope.names.lookup y.1 = some .cell ∨ X.env.scope.names.lookup y.1 = some .free)
    (L : ∀ f c', LOk X.prog X.w X.K X.mg X.base CX0 k f (lamF X params scope c') bd [x0] fr (sp f c')) (cp : X.Ok → Caps X (cloFrom X.env.cells scope.names []) fr js) (hr : Room (k + 2) X.A) (hg : Gl X "sorted") (hm : X.mg "sorted" = none) (he : PE X e ta)
    (hs1 : starEach [e] X.env = (false, eval e X.env) :: starEach [] X.env := by rfl)
    (hst : backTo pos (starEach [e] X.env) = (false, eval e X.env) :: backTo pos (starEach [] X.env) := by rfl) (hpl : (backTo pos (starEach [e] X.env)).any (·.1) = false := by rfl)
    (hall : (backToKw pos (keywordEach [⟨some "key", .Lambda params bd scope lpos, kpos⟩] X.env)).all (·.1.isSome) = true := by rfl) (hno : (backToKw pos (keywordEach [⟨some "key", .Lambda params bd scope lpos, kpos⟩] X.env)).any (·.1.isNone) = false := by rfl)
    (hks : (backToKw pos (keywordEach [⟨some "key", .Lambda params bd scope lpos, kpos⟩] X.env)).filterMap (·.1) = [PySem.Str.ofString "key"] := by rfl) :
    PE X (.Call (.Name "sorted" p) [e] [⟨some "key", .Lambda params bd scope lpos, kpos⟩] pos) (tSrtL T (lamF X params scope) bd js sp ta) := by
  refine ⟨fun pins s σ H Q I h => ?_⟩
  refine wpAny_Call_Name_kw (ld_blt I hg hm rfl ?_ (by decide) (by decide))
  show wpAny _ _ (callWith pos (.builtin "sorted") [] _ _) _ _ _
  refine callWith_kw (thn ((pa_cons he pa_nil hs1).run pos pins s σ H (fun vs H1 => match vs with
    | [x] => TabsN T H1 ∧ ∀ (f c' : Addr) (H2 : Hp), ExtN H1 H2 → (∀ b, H2 b = none → H1 b = none) → TabsN T H2 → H1 f = none → H2 f = some (LmO f (lamF X params scope c') bd) → H2 c' = some (CodeO c' (lamF X params scope c').qual) →
        ∃ (d : Addr) (kvs : List (Key × V)) (ks : List PySem.Str) (kf : PySem.Str → Int), x = .ref d ∧ Rd H2 d (.dK kvs) ∧ kvs.map (·.1) = ks.map Sum.inr ∧ ks.length < 64 ∧
        (∀ y ∈ ks, ∀ H', Same H2 H' → sp f c' (js.map (slotAt σ)) [.str y] H' (fun v H3 => ∃ p, v = .ref p ∧ H' p = none ∧ H3 = upd H' p (.tup [.int (kf y), .str y])) E0) ∧
        ∀ (ys : List PySem.Str) p H', Same H2 H' → ys.Perm ks → ys.Pairwise (rkLe kf) → H' p = none → Q (.ref p) (upd H' p (.lst (ys.map V.str)))
    | _ => False) I h) fun us s1 hu => ?_) hst hpl hall hno
  obtain ⟨vs, H1, I1, r1, q1⟩ := hu
  match vs, q1 with
  | [x], q1 =>
    obtain ⟨hT, q1⟩ := q1
    refine wpAny_evalAll_cons (wpAny_bind (lam_mk I1 TB hcode hm' hn hu' hT hdef (fun y hy e => I1.ok.has _ (hfree y hy e)) fun f c' H2 s2 I2 x1 x2 T2 n1 hf hc => ?_))
    obtain ⟨d, kvs, ks, kf, rfl, hd, hk, h64, tu, fin⟩ := q1 f c' H2 x1 x2 T2 n1 hf hc
    refine wpAny_bind (wpAny_standAt (wpAny_pure ?_))
    refine wpAny_evalAll_nil ?_
    rw [hks]
    obtain rfl := Vals.ref1 r1
    have I3 := I2.tok s2.toks
    refine sortedKL hcalm hr.in1.in1 (q := f) (kf := kf) (ks := ks) (fun s' H' y t hy I' sm => ?_) I2 hd hk h64 fin
    have e0 := I'.env0
    have e1' : Env0 X.prog X.w X.K X.mg X.base X.A.in1.in1 X.stack s' H' := ⟨I2.ok.frames, e0.mod, e0.bs, e0.bsz, e0.funs, e0.frf, e0.hok, e0.bare⟩
    exact (L f c').run X.A.in1.in1 X.stack s' H' _ [.str y] _ _ E0 hr.in1.in1 e1' (sm _ _ hf) (sm _ _ hc) (cells_of I' (cp I'.ok)) (.cons ⟨t, rfl⟩ .nil) (tu y hy H' sm)
end
end Mc
namespace Mc
open PySem L2 PySem.Spec PyProof.Rows FbM LamX NdefX
/-! ### min(xs, key=lambda x: ..), max(..): xs a list or a tuple -/
structure Feed (X : Cx) (xs : List V) (it : Addr) (G : Hp → Prop) (tn : Nat → Heap → Prop) : Prop where
  same : ∀ H H', G H → Same H H' → G H'
  keep : ∀ i h h', tn i h → (∀ o, h.get? it = some o → h'.get? it = some o) → tn i h'
  obj : ∀ i h, tn i h → ∃ o, h.get? it = some o
  item : ∀ (A : Around) (pins : List (Addr × Obj)) (s : Shared) (σ : L2.St) (H : Hp) (Q : Option Value → Shared → Prop) (E : Value → Shared → Prop) (i : Nat) (x : V), Inv X pins σ H s → tn i s.heap → G H → xs[i]? = some x →
    (∀ u h', RelV x u → tn (i + 1) h' → Heap.SameBut it s.heap h' → Q (some u) { s with heap := h' }) → wpAny (model X.prog X.w) A (pyNext (.ref it)) Q E s
  done : ∀ (A : Around) (pins : List (Addr × Obj)) (s : Shared) (σ : L2.St) (H : Hp) (Q : Option Value → Shared → Prop) (E : Value → Shared → Prop) (i : Nat), A.handled = none → Inv X pins σ H s → tn i s.heap → G H → xs.length ≤ i →
    (∀ h', Heap.ExtBut it s.heap h' → Q none { s with heap := h' }) → wpAny (model X.prog X.w) A (pyNext (.ref it)) Q E s
theorem rd_sm {H H' : Hp} {a : Addr} {u : HO} (h : Rd H a u) (s : Same H H') : Rd H' a u := h.elim (fun z => .inl (s _ _ z)) fun ⟨o, z⟩ => .inr ⟨o, s _ _ z⟩
theorem feed_list {X : Cx} {xs : List V} (a it : Addr) : Feed X xs it (fun H => SqL X.K H a xs) (fun i h => h.IsListIter it a i) where
  same := fun H H' g s => g.elim (fun z => .inl (rd_sm z s)) .inr
  keep := fun i h h' st k => st.at fun o e => k o e
  obj := fun i h ⟨o, e, _, _⟩ => ⟨o, e⟩
  item := fun A pins s σ H Q E i x I st hq hx k => by
    obtain ⟨its, rv, p, hz⟩ := I.list hq
    obtain ⟨u, hu, ru⟩ := rv.get hx
    exact wpAny_pyNext_list_item st p.isList (x := u) (by simpa using hu) fun h' st' sb => k u h' ru st' sb
  done := fun A pins s σ H Q E i hh I st hq hi k => by
    obtain ⟨its, rv, p, hz⟩ := I.list hq
    have hl := rv.length
    exact wpAny_pyNext_list_end hh st p.isList (by simp; omega) k
theorem feed_tup {X : Cx} {xs : List V} (a it : Addr) : Feed X xs it (fun H => SqT X.K H a xs) (fun i h => h.IsTupleIter it a i) where
  same := fun H H' g s => g.elim (fun z => .inl (rd_sm z s)) .inr
  keep := fun i h h' st k => st.at fun o e => k o e
  obj := fun i h ⟨o, e, _, _⟩ => ⟨o, e⟩
  item := fun A pins s σ H Q E i x I st hq hx k => by
    obtain ⟨its, rv, p, hz⟩ := I.tuple hq
    obtain ⟨u, hu, ru⟩ := rv.get hx
    exact wpAny_pyNext_tuple_item st (show s.heap.IsTuple a its.toArray from p) (x := u) (by simpa using hu) fun h' st' sb => k u h' ru st' sb
  done := fun A pins s σ H Q E i hh I st hq hi k => by
    obtain ⟨its, rv, p, hz⟩ := I.tuple hq
    have hl := rv.length
    exact wpAny_pyNext_tuple_end hh st (show s.heap.IsTuple a its.toArray from p) (by simp; omega) k
/-- what is asked of the callable at each item -/
def CallsV (X : Cx) (A : Around) (pins : List (Addr × Obj)) (σ : L2.St) (q : Addr) (xs : List V) (KV : Nat → V → Hp → Prop) (H : Hp) : Prop :=
  ∀ (s' : Shared) (H' : Hp) (i : Nat) (x : V) (u : Value), xs[i]? = some x → RelV x u → Inv X pins σ H' s' → Same H H' → codeAny (model X.prog X.w) A (.call (.ref q) ⟨[u], []⟩) (CR CX0 X.stack X.prog X.w H' s' (fun v H2 => Same H' H2 ∧ KV i v H2) E0) s'
/-- keys are compared -/
def CmpV (X : Cx) (A : Around) (op : CmpOp) (KV : Nat → V → Hp → Prop) (bt : Nat → Nat → Bool) : Prop :=
  ∀ (pins : List (Addr × Obj)) (σ : L2.St) (H : Hp) (s : Shared) (i j : Nat) (x y : V) (u v : Value) (Q : Value → Shared → Prop) (E : Value → Shared → Prop), Inv X pins σ H s → KV i x H → RelV x u → KV j y H → RelV y v → Q (.bool (bt i j)) s → wpAny (model X.prog X.w) A (richCompare op u v) Q E s
/-- the first best -/
structure FstBest (bt : Nat → Nat → Bool) (n i : Nat) : Prop where
  no : ∀ j, j < n → bt j i = false
  yes : ∀ j, j < i → bt i j = true
section
variable {X : Cx} {pins : List (Addr × Obj)} {σ : L2.St} {H : Hp} {s : Shared} {k : Nat} {q it S : Addr} {xs : List V} {KV : Nat → V → Hp → Prop} {bt : Nat → Nat → Bool} {G : Hp → Prop} {tn : Nat → Heap → Prop} {A : Around} {E : Value → Shared → Prop} {R : Result → Shared → Prop}
theorem seq_keep {h h' : Heap} {a : Addr} {o : Obj} (e : h.get? a = some o) (sb : Heap.SameBut it h h') (ne : a ≠ it) : h'.get? a = some o := (sb.2 a ne).trans e

theorem min_loop (hh : A.in1.handled = none) (F : Feed X xs it G tn) (ri : Rec X pins it) (rs : Rec X pins S) (hSI : S ≠ it) (hcall : CallsV X A.in1 pins σ q xs KV H) (hcmp : CmpV X A.in1 .Lt KV bt) (hKV : ∀ i v H1 H2, KV i v H1 → Same H1 H2 → KV i v H2)
    (hT : ∀ i j l, bt i j = true → bt l j = false → bt i l = true) (hA : ∀ i j, bt i j = true → bt j i = false) (hI : ∀ i, bt i i = false)
    (hR : ∀ i x u s' H', Inv X pins σ H' s' → Same H H' → xs[i]? = some x → RelV x u → FstBest bt xs.length i → R (.ok (.ret u)) s') :
    ∀ (r j i : Nat) (s' : Shared) (H' : Hp) (vb kb : Value) (xb yb : V) (c : Nat), xs.length - (j + 1) = r → j + 1 ≤ xs.length → Inv X pins σ H' s' → Same H H' → G H' → H' it = none → H' S = none → tn (j + 1) s'.heap →
      s'.heap.get? S = some (seqObj "list" #[vb, kb] c) → xs[i]? = some xb → RelV xb vb → KV i yb H' → RelV yb kb → i ≤ j → FstBest bt (j + 1) i →
      codeAny (model X.prog X.w) A (.builtin "min.loop" ⟨[.ref it, .ref q, .ref S], []⟩) R s' := by
  have hname : (toString "min" ++ toString ".loop" : String) = "min.loop" := by decide
  intro r
  induction r with
  | zero =>
    intro j i s' H' vb kb xb yb c hr hj I sm g ni nS st hS hxb rvb hk rkb hij hbest
    have hin : xs.length = j + 1 := by omega
    refine codeAny_builtin PySem.F.entry_min_loop ?_
    rw [Around.under_plainId PySem.F.plain_min_loop _]
    show wpAny _ A.in1 (seqItems? (.ref S) >>= _) _ _ _
    refine wpAny_bind (wpAny_seqItems hS rfl ?_)
    show wpAny _ A.in1 (tryCatch (pyNext (.ref it)) _ >>= _) _ _ _
    refine wpAny_bind (wpAny_tryCatch (F.done A.in1 pins s' σ H' _ _ (j + 1) hh I st g (by omega) fun h' eb => ?_))
    have I1 : Inv X pins σ H' { s' with heap := h' } := ri.turn (t' := s'.toks) I ni fun c o hc e => eb c o hc e
    have hS' : h'.get? S = some (seqObj "list" #[vb, kb] c) := eb S _ hSI hS
    show wpAny _ A.in1 (updateSeq S (fun _ => #[]) >>= _) _ _ _
    refine wpAny_bind ?_
    refine wpAny_updateSeq hS' rfl (wpAny_bind (wpAny_letGo (wpAny_pure ?_)))
    have sb : Heap.SameBut S h' (h'.update S (Obj.mapSeq fun _ => (#[] : Array Value))) := Heap.SameBut.update ..
    exact hR i xb vb _ H' (rs.turn (t' := s'.toks) I1 nS fun c o hc e => sb.extBut c o hc e) sm hxb rvb (by rw [hin]; exact hbest)
  | succ r ih =>
    intro j i s' H' vb kb xb yb c hr hj I sm g ni nS st hS hxb rvb hk rkb hij hbest
    have hlt : j + 1 < xs.length := by omega
    refine codeAny_builtin PySem.F.entry_min_loop ?_
    rw [Around.under_plainId PySem.F.plain_min_loop _]
    show wpAny _ A.in1 (seqItems? (.ref S) >>= _) _ _ _
    refine wpAny_bind (wpAny_seqItems hS rfl ?_)
    show wpAny _ A.in1 (tryCatch (pyNext (.ref it)) _ >>= _) _ _ _
    refine wpAny_bind (wpAny_tryCatch (F.item A.in1 pins s' σ H' _ _ (j + 1) _ I st g (List.getElem?_eq_getElem hlt) fun u h' ru st' sb => ?_))
    have hx := List.getElem?_eq_getElem hlt
    generalize xs[j + 1] = x at ru hx
    have I1 : Inv X pins σ H' { s' with heap := h' } := ri.turn (t' := s'.toks) I ni fun c o hc e => sb.extBut c o hc e
    have hS' : h'.get? S = some (seqObj "list" #[vb, kb] c) := sb.extBut S _ hSI hS
    show wpAny _ A.in1 (tryCatch (holding [u] (call (.ref q) [u])) _ >>= _) _ _ _
    refine wpAny_bind (wpAny_tryCatch (wpAny_holding (wpAny_call (codeAny_mono (hcall _ H' (j + 1) x u hx ru I1 sm) fun rr s2 hrr => ?_))))
    cases rr with
    | error er => exact False.elim hrr
    | ok fl =>
      cases fl with
      | next => exact False.elim hrr
      | brk => exact False.elim hrr
      | cont => exact False.elim hrr
      | ret v =>
        obtain ⟨v', H2, os, bare, un, hok, rv', sm2, hk2⟩ := (show CE X.stack X.prog X.w H' { s' with heap := h' } _ v s2 from hrr)
        have I2 : Inv X pins σ H2 s2 := I1.call' os un hok bare (fun b z => absurd z List.not_mem_nil)
        have keep : ∀ {b : Addr} {ob : Obj}, Rec X pins b → H' b = none → h'.get? b = some ob → s2.heap.get? b = some ob := fun rb ub eb => un.keep _ _ eb ub rb.fr List.not_mem_nil
        have fr2 : ∀ {b : Addr} {ob : Obj}, H' b = none → h'.get? b = some ob → H2 b = none := fun ub eb => un.free _ _ eb ub List.not_mem_nil
        have st2 : tn (j + 1 + 1) s2.heap := F.keep _ _ _ st' fun o e => keep ri ni e
        obtain ⟨oi, hoi⟩ := F.obj _ _ st'
        have ni2 := fr2 ni hoi
        have nS2 := fr2 nS hS'
        have hS2 := keep rs nS hS'
        have sm12 : Same H H2 := sm.trans sm2
        have hkb2 := hKV _ _ _ _ hk sm2
        have g2 := F.same _ _ g sm2
        try dsimp only
        show wpAny _ A.in1 (tryCatch (holding [u, v] (richCompare .Lt v kb >>= _)) _ >>= _) _ _ _
        refine wpAny_bind (wpAny_tryCatch (wpAny_holding (wpAny_bind (hcmp pins σ H2 s2 (j + 1) i v' yb v kb _ _ I2 hk2 rv' hkb2 rkb ?_))))
        refine wpAny_bind (wpAny_holding (wpAny_truthy_bool ?_))
        refine wpAny_bind (wpAny_letGo (wpAny_pure ?_))
        by_cases hb' : bt (j + 1) i = true
        · simp only [hb', if_true]
          obtain ⟨h2, g2', d2, t2, o2⟩ := s2
          have sb2 : Heap.SameBut S h2 (h2.update S (Obj.mapSeq fun _ => #[u, v])) := Heap.SameBut.update ..
          obtain ⟨c2, hc2⟩ : ∃ c2, (h2.update S (Obj.mapSeq fun _ => #[u, v])).get? S = some (seqObj "list" #[u, v] c2) := ⟨_, get?_update_seq hS2 fun _ => #[u, v]⟩
          refine wpAny_bind ?_
          refine wpAny_updateSeq hS2 rfl (wpAny_bind (wpAny_letGo ?_))
          rw [hname]
          have I3 : Inv X pins σ H2 (⟨h2.update S (Obj.mapSeq fun _ => #[u, v]), g2', d2, t2, o2⟩ : Shared) := rs.turn (t' := t2) I2 nS2 fun c o hc e => sb2.extBut c o hc e
          refine wpAny_pure ⟨plainId_quiet PySem.F.plain_min_loop _, ih (j + 1) (j + 1) _ H2 u v x v' c2 (by omega) hlt I3 sm12 g2 ni2 nS2 (F.keep _ _ _ st2 fun o e => sb2.extBut it o hSI.symm e) hc2 hx ru hk2 rv' (Nat.le_refl _) ⟨fun j' hj' => ?_, fun j' hj' => ?_⟩⟩
          · by_cases e : j' = j + 1
            · rw [e]; exact hI _
            · exact hA _ _ (hT _ _ _ hb' (hbest.no j' (by omega)))
          · exact hT _ _ _ hb' (hbest.no j' (by omega))
        · have hb'' : bt (j + 1) i = false := by simpa using hb'
          simp only [hb'', Bool.false_eq_true, if_false]
          refine wpAny_bind (wpAny_letGo ?_)
          rw [hname]
          refine wpAny_pure ⟨plainId_quiet PySem.F.plain_min_loop _, ih (j + 1) i s2 H2 vb kb xb yb c (by omega) hlt I2 sm12 g2 ni2 nS2 st2 hS2 hxb rvb hkb2 rkb (by omega) ⟨fun j' hj' => ?_, hbest.yes⟩⟩
          by_cases e : j' = j + 1
          · rw [e]; exact hb''
          · exact hbest.no j' (by omega)
theorem min_key {tf : Addr → Nat → Heap → Prop} (hh : A.in1.handled = none) (mk : ∀ l' : Addr, H l' = none → Feed X xs l' G (tf l')) (nx : xs ≠ []) (hcall : CallsV X A.in1 pins σ q xs KV H) (hcmp : CmpV X A.in1 .Lt KV bt) (hKV : ∀ i v H1 H2, KV i v H1 → Same H1 H2 → KV i v H2)
    (hT : ∀ i j l, bt i j = true → bt l j = false → bt i l = true) (hA : ∀ i j, bt i j = true → bt j i = false) (hI : ∀ i, bt i i = false) (g : G H) (I : Inv X pins σ H s) {Q : Value → Shared → Prop} {u0 : Value}
    (iter : ∀ (Q' : Value → Shared → Prop), (∀ (o : Obj), tf s.heap.objs.size 0 (s.heap.push o) → Q' (.ref s.heap.objs.size) { s with heap := s.heap.push o }) → wpAny (model X.prog X.w) A.in1 (pyIter u0) Q' E s)
    (hR : ∀ i x u s' H', Inv X pins σ H' s' → Same H H' → xs[i]? = some x → RelV x u → FstBest bt xs.length i → Q u s') :
    wpAny (model X.prog X.w) A (call (.builtin "min") [u0] [(PySem.Str.ofString "key", .ref q)]) Q E s := by
  have hname : (toString "min" ++ toString ".loop" : String) = "min.loop" := by decide
  refine kmk_tree PySem.F.kind_min PySem.F.plain_min PySem.F.entry_min (kmk_min_key _ _) ?_
  show wpAny _ A.in1 (Builtin.Builtins.bindParams "min" ["key", "default"] 0 ⟨[], [(PySem.Str.ofString "key", .ref q)]⟩ >>= _) _ _ s
  refine wpAny_bind (wpAny_of_eq (show Builtin.Builtins.bindParams "min" ["key", "default"] 0 ⟨[], [(PySem.Str.ofString "key", .ref q)]⟩ = pure [some (.ref q), none] from rfl) ?_)
  refine wpAny_bind (wpAny_pure ?_)
  refine wpAny_bind (iter _ fun oI st => ?_)
  have hni : H s.heap.objs.size = none := I.hok.fresh (Nat.le_refl _)
  have F := mk s.heap.objs.size hni
  have ri : Rec X pins s.heap.objs.size := rec_new I (Nat.le_refl _)
  have I1 : Inv X pins σ H { s with heap := s.heap.push oI } := I.kept (t' := s.toks) fun b u e => Heap.get?_push_of_some _ e
  have hSn : (s.heap.push oI).objs.size ≠ s.heap.objs.size := by rw [size_push']; omega
  refine wpAny_bind (wpAny_newList ?_ (Nat.zero_le _))
  rw [hname]
  have nS : H (s.heap.push oI).objs.size = none := I1.hok.fresh (Nat.le_refl _)
  have rs : Rec X pins (s.heap.push oI).objs.size := rec_new I1 (Nat.le_refl _)
  have I2 : Inv X pins σ H { s with heap := (s.heap.push oI).push (seqObj "list" #[] 0) } := I1.kept (t' := s.toks) fun b u e => Heap.get?_push_of_some _ e
  have gS : ((s.heap.push oI).push (seqObj "list" #[] 0)).get? (s.heap.push oI).objs.size = some (seqObj "list" #[] 0) := Heap.get?_push_size _ rfl
  have st1 : tf s.heap.objs.size 0 ((s.heap.push oI).push (seqObj "list" #[] 0)) := F.keep _ _ _ st fun o e => Heap.get?_push_of_some _ e
  refine wpAny_pure ⟨plainId_quiet PySem.F.plain_min_loop _, ?_⟩
  generalize (s.heap.push oI).objs.size = S at hSn nS rs gS
  generalize hh2 : (s.heap.push oI).push (seqObj "list" #[] 0) = hp at I2 gS st1
  obtain ⟨x0, xs', e⟩ := List.exists_cons_of_ne_nil nx
  have hx : xs[0]? = some x0 := by rw [e]; rfl
  refine codeAny_builtin PySem.F.entry_min_loop ?_
  rw [Around.under_plainId PySem.F.plain_min_loop _]
  show wpAny _ A.in1 (seqItems? (.ref _) >>= _) _ _ _
  refine wpAny_bind (wpAny_seqItems gS rfl ?_)
  show wpAny _ A.in1 (tryCatch (pyNext (.ref s.heap.objs.size)) _ >>= _) _ _ _
  refine wpAny_bind (wpAny_tryCatch (F.item A.in1 pins _ σ H _ _ 0 x0 I2 st1 g hx fun u h' ru st' sb => ?_))
  have I3 : Inv X pins σ H { s with heap := h' } := Rec.turn (s := { s with heap := hp }) (t' := s.toks) ri I2 hni fun c o hc e => sb.extBut c o hc e
  have hS' : h'.get? S = some (seqObj "list" #[] 0) := sb.extBut S _ hSn gS
  show wpAny _ A.in1 (tryCatch (holding [u] (call (.ref q) [u])) _ >>= _) _ _ _
  refine wpAny_bind (wpAny_tryCatch (wpAny_holding (wpAny_call (codeAny_mono (hcall _ H 0 x0 u hx ru I3 fun _ _ z => z) fun rr s2 hrr => ?_))))
  cases rr with
  | error er => exact False.elim hrr
  | ok fl =>
    cases fl with
    | next => exact False.elim hrr
    | brk => exact False.elim hrr
    | cont => exact False.elim hrr
    | ret v =>
      obtain ⟨v', H2, os, bare, un, hok, rv', sm2, hk2⟩ := (show CE X.stack X.prog X.w H { s with heap := h' } _ v s2 from hrr)
      have I4 : Inv X pins σ H2 s2 := I3.call' os un hok bare (fun b z => absurd z List.not_mem_nil)
      have keep : ∀ {b : Addr} {ob : Obj}, Rec X pins b → H b = none → h'.get? b = some ob → s2.heap.get? b = some ob := fun rb ub eb => un.keep _ _ eb ub rb.fr List.not_mem_nil
      have fr2 : ∀ {b : Addr} {ob : Obj}, H b = none → h'.get? b = some ob → H2 b = none := fun ub eb => un.free _ _ eb ub List.not_mem_nil
      have st2 : tf s.heap.objs.size (0 + 1) s2.heap := F.keep _ _ _ st' fun o e => keep ri hni e
      obtain ⟨oi, hoi⟩ := F.obj _ _ st'
      have ni2 := fr2 hni hoi
      have nS2 := fr2 nS hS'
      have hS2 := keep rs nS hS'
      have g2 := F.same _ _ g sm2
      try dsimp only
      obtain ⟨h2, g2', d2, t2, o2⟩ := s2
      have sb2 : Heap.SameBut S h2 (h2.update S (Obj.mapSeq fun _ => #[u, v])) := Heap.SameBut.update ..
      obtain ⟨c2, hc2⟩ : ∃ c2, (h2.update S (Obj.mapSeq fun _ => #[u, v])).get? S = some (seqObj "list" #[u, v] c2) := ⟨_, get?_update_seq hS2 fun _ => #[u, v]⟩
      show wpAny _ A.in1 (updateSeq S (fun _ => #[u, v]) >>= _) _ _ _
      refine wpAny_bind ?_
      refine wpAny_updateSeq hS2 rfl ?_
      rw [hname]
      have I5 : Inv X pins σ H2 (⟨h2.update S (Obj.mapSeq fun _ => #[u, v]), g2', d2, t2, o2⟩ : Shared) := rs.turn (t' := t2) I4 nS2 fun c o hc e => sb2.extBut c o hc e
      refine wpAny_pure ⟨plainId_quiet PySem.F.plain_min_loop _, min_loop hh F ri rs hSn hcall hcmp hKV hT hA hI ?_ _ 0 0 _ H2 u v x0 v' c2 rfl (by rw [e]; simp) I5 sm2 g2 ni2 nS2 (F.keep _ _ _ st2 fun o e => sb2.extBut _ o hSn.symm e) hc2 hx ru hk2 rv' (Nat.le_refl _) ⟨fun j' hj' => ?_, fun j' hj' => absurd hj' (Nat.not_lt_zero _)⟩⟩
      · exact fun i x u s' H' J sm hx hr hb => hR i x u s' H' J sm hx hr hb
      · rw [show j' = 0 by omega]; exact hI _

theorem max_loop (hh : A.in1.handled = none) (F : Feed X xs it G tn) (ri : Rec X pins it) (rs : Rec X pins S) (hSI : S ≠ it) (hcall : CallsV X A.in1 pins σ q xs KV H) (hcmp : CmpV X A.in1 .Gt KV bt) (hKV : ∀ i v H1 H2, KV i v H1 → Same H1 H2 → KV i v H2)
    (hT : ∀ i j l, bt i j = true → bt l j = false → bt i l = true) (hA : ∀ i j, bt i j = true → bt j i = false) (hI : ∀ i, bt i i = false)
    (hR : ∀ i x u s' H', Inv X pins σ H' s' → Same H H' → xs[i]? = some x → RelV x u → FstBest bt xs.length i → R (.ok (.ret u)) s') :
    ∀ (r j i : Nat) (s' : Shared) (H' : Hp) (vb kb : Value) (xb yb : V) (c : Nat), xs.length - (j + 1) = r → j + 1 ≤ xs.length → Inv X pins σ H' s' → Same H H' → G H' → H' it = none → H' S = none → tn (j + 1) s'.heap →
      s'.heap.get? S = some (seqObj "list" #[vb, kb] c) → xs[i]? = some xb → RelV xb vb → KV i yb H' → RelV yb kb → i ≤ j → FstBest bt (j + 1) i →
      codeAny (model X.prog X.w) A (.builtin "max.loop" ⟨[.ref it, .ref q, .ref S], []⟩) R s' := by
  have hname : (toString "max" ++ toString ".loop" : String) = "max.loop" := by decide
  intro r
  induction r with
  | zero =>
    intro j i s' H' vb kb xb yb c hr hj I sm g ni nS st hS hxb rvb hk rkb hij hbest
    have hin : xs.length = j + 1 := by omega
    refine codeAny_builtin PySem.F.entry_max_loop ?_
    rw [Around.under_plainId PySem.F.plain_max_loop _]
    show wpAny _ A.in1 (seqItems? (.ref S) >>= _) _ _ _
    refine wpAny_bind (wpAny_seqItems hS rfl ?_)
    show wpAny _ A.in1 (tryCatch (pyNext (.ref it)) _ >>= _) _ _ _
    refine wpAny_bind (wpAny_tryCatch (F.done A.in1 pins s' σ H' _ _ (j + 1) hh I st g (by omega) fun h' eb => ?_))
    have I1 : Inv X pins σ H' { s' with heap := h' } := ri.turn (t' := s'.toks) I ni fun c o hc e => eb c o hc e
    have hS' : h'.get? S = some (seqObj "list" #[vb, kb] c) := eb S _ hSI hS
    show wpAny _ A.in1 (updateSeq S (fun _ => #[]) >>= _) _ _ _
    refine wpAny_bind ?_
    refine wpAny_updateSeq hS' rfl (wpAny_bind (wpAny_letGo (wpAny_pure ?_)))
    have sb : Heap.SameBut S h' (h'.update S (Obj.mapSeq fun _ => (#[] : Array Value))) := Heap.SameBut.update ..
    exact hR i xb vb _ H' (rs.turn (t' := s'.toks) I1 nS fun c o hc e => sb.extBut c o hc e) sm hxb rvb (by rw [hin]; exact hbest)
  | succ r ih =>
    intro j i s' H' vb kb xb yb c hr hj I sm g ni nS st hS hxb rvb hk rkb hij hbest
    have hlt : j + 1 < xs.length := by omega
    refine codeAny_builtin PySem.F.entry_max_loop ?_
    rw [Around.under_plainId PySem.F.plain_max_loop _]
    show wpAny _ A.in1 (seqItems? (.ref S) >>= _) _ _ _
    refine wpAny_bind (wpAny_seqItems hS rfl ?_)
    show wpAny _ A.in1 (tryCatch (pyNext (.ref it)) _ >>= _) _ _ _
    refine wpAny_bind (wpAny_tryCatch (F.item A.in1 pins s' σ H' _ _ (j + 1) _ I st g (List.getElem?_eq_getElem hlt) fun u h' ru st' sb => ?_))
    have hx := List.getElem?_eq_getElem hlt
    generalize xs[j + 1] = x at ru hx
    have I1 : Inv X pins σ H' { s' with heap := h' } := ri.turn (t' := s'.toks) I ni fun c o hc e => sb.extBut c o hc e
    have hS' : h'.get? S = some (seqObj "list" #[vb, kb] c) := sb.extBut S _ hSI hS
    show wpAny _ A.in1 (tryCatch (holding [u] (call (.ref q) [u])) _ >>= _) _ _ _
    refine wpAny_bind (wpAny_tryCatch (wpAny_holding (wpAny_call (codeAny_mono (hcall _ H' (j + 1) x u hx ru I1 sm) fun rr s2 hrr => ?_))))
    cases rr with
    | error er => exact False.elim hrr
    | ok fl =>
      cases fl with
      | next => exact False.elim hrr
      | brk => exact False.elim hrr
      | cont => exact False.elim hrr
      | ret v =>
        obtain ⟨v', H2, os, bare, un, hok, rv', sm2, hk2⟩ := (show CE X.stack X.prog X.w H' { s' with heap := h' } _ v s2 from hrr)
        have I2 : Inv X pins σ H2 s2 := I1.call' os un hok bare (fun b z => absurd z List.not_mem_nil)
        have keep : ∀ {b : Addr} {ob : Obj}, Rec X pins b → H' b = none → h'.get? b = some ob → s2.heap.get? b = some ob := fun rb ub eb => un.keep _ _ eb ub rb.fr List.not_mem_nil
        have fr2 : ∀ {b : Addr} {ob : Obj}, H' b = none → h'.get? b = some ob → H2 b = none := fun ub eb => un.free _ _ eb ub List.not_mem_nil
        have st2 : tn (j + 1 + 1) s2.heap := F.keep _ _ _ st' fun o e => keep ri ni e
        obtain ⟨oi, hoi⟩ := F.obj _ _ st'
        have ni2 := fr2 ni hoi
        have nS2 := fr2 nS hS'
        have hS2 := keep rs nS hS'
        have sm12 : Same H H2 := sm.trans sm2
        have hkb2 := hKV _ _ _ _ hk sm2
        have g2 := F.same _ _ g sm2
        try dsimp only
        show wpAny _ A.in1 (tryCatch (holding [u, v] (richCompare .Gt v kb >>= _)) _ >>= _) _ _ _
        refine wpAny_bind (wpAny_tryCatch (wpAny_holding (wpAny_bind (hcmp pins σ H2 s2 (j + 1) i v' yb v kb _ _ I2 hk2 rv' hkb2 rkb ?_))))
        refine wpAny_bind (wpAny_holding (wpAny_truthy_bool ?_))
        refine wpAny_bind (wpAny_letGo (wpAny_pure ?_))
        by_cases hb' : bt (j + 1) i = true
        · simp only [hb', if_true]
          obtain ⟨h2, g2', d2, t2, o2⟩ := s2
          have sb2 : Heap.SameBut S h2 (h2.update S (Obj.mapSeq fun _ => #[u, v])) := Heap.SameBut.update ..
          obtain ⟨c2, hc2⟩ : ∃ c2, (h2.update S (Obj.mapSeq fun _ => #[u, v])).get? S = some (seqObj "list" #[u, v] c2) := ⟨_, get?_update_seq hS2 fun _ => #[u, v]⟩
          refine wpAny_bind ?_
          refine wpAny_updateSeq hS2 rfl (wpAny_bind (wpAny_letGo ?_))
          rw [hname]
          have I3 : Inv X pins σ H2 (⟨h2.update S (Obj.mapSeq fun _ => #[u, v]), g2', d2, t2, o2⟩ : Shared) := rs.turn (t' := t2) I2 nS2 fun c o hc e => sb2.extBut c o hc e
          refine wpAny_pure ⟨plainId_quiet PySem.F.plain_max_loop _, ih (j + 1) (j + 1) _ H2 u v x v' c2 (by omega) hlt I3 sm12 g2 ni2 nS2 (F.keep _ _ _ st2 fun o e => sb2.extBut it o hSI.symm e) hc2 hx ru hk2 rv' (Nat.le_refl _) ⟨fun j' hj' => ?_, fun j' hj' => ?_⟩⟩
          · by_cases e : j' = j + 1
            · rw [e]; exact hI _
            · exact hA _ _ (hT _ _ _ hb' (hbest.no j' (by omega)))
          · exact hT _ _ _ hb' (hbest.no j' (by omega))
        · have hb'' : bt (j + 1) i = false := by simpa using hb'
          simp only [hb'', Bool.false_eq_true, if_false]
          refine wpAny_bind (wpAny_letGo ?_)
          rw [hname]
          refine wpAny_pure ⟨plainId_quiet PySem.F.plain_max_loop _, ih (j + 1) i s2 H2 vb kb xb yb c (by omega) hlt I2 sm12 g2 ni2 nS2 st2 hS2 hxb rvb hkb2 rkb (by omega) ⟨fun j' hj' => ?_, hbest.yes⟩⟩
          by_cases e : j' = j + 1
          · rw [e]; exact hb''
          · exact hbest.no j' (by omega)
theorem max_key {tf : Addr → Nat → Heap → Prop} (hh : A.in1.handled = none) (mk : ∀ l' : Addr, H l' = none → Feed X xs l' G (tf l')) (nx : xs ≠ []) (hcall : CallsV X A.in1 pins σ q xs KV H) (hcmp : CmpV X A.in1 .Gt KV bt) (hKV : ∀ i v H1 H2, KV i v H1 → Same H1 H2 → KV i v H2)
    (hT : ∀ i j l, bt i j = true → bt l j = false → bt i l = true) (hA : ∀ i j, bt i j = true → bt j i = false) (hI : ∀ i, bt i i = false) (g : G H) (I : Inv X pins σ H s) {Q : Value → Shared → Prop} {u0 : Value}
    (iter : ∀ (Q' : Value → Shared → Prop), (∀ (o : Obj), tf s.heap.objs.size 0 (s.heap.push o) → Q' (.ref s.heap.objs.size) { s with heap := s.heap.push o }) → wpAny (model X.prog X.w) A.in1 (pyIter u0) Q' E s)
    (hR : ∀ i x u s' H', Inv X pins σ H' s' → Same H H' → xs[i]? = some x → RelV x u → FstBest bt xs.length i → Q u s') :
    wpAny (model X.prog X.w) A (call (.builtin "max") [u0] [(PySem.Str.ofString "key", .ref q)]) Q E s := by
  have hname : (toString "max" ++ toString ".loop" : String) = "max.loop" := by decide
  refine kmk_tree PySem.F.kind_max PySem.F.plain_max PySem.F.entry_max (kmk_max_key _ _) ?_
  show wpAny _ A.in1 (Builtin.Builtins.bindParams "max" ["key", "default"] 0 ⟨[], [(PySem.Str.ofString "key", .ref q)]⟩ >>= _) _ _ s
  refine wpAny_bind (wpAny_of_eq (show Builtin.Builtins.bindParams "max" ["key", "default"] 0 ⟨[], [(PySem.Str.ofString "key", .ref q)]⟩ = pure [some (.ref q), none] from rfl) ?_)
  refine wpAny_bind (wpAny_pure ?_)
  refine wpAny_bind (iter _ fun oI st => ?_)
  have hni : H s.heap.objs.size = none := I.hok.fresh (Nat.le_refl _)
  have F := mk s.heap.objs.size hni
  have ri : Rec X pins s.heap.objs.size := rec_new I (Nat.le_refl _)
  have I1 : Inv X pins σ H { s with heap := s.heap.push oI } := I.kept (t' := s.toks) fun b u e => Heap.get?_push_of_some _ e
  have hSn : (s.heap.push oI).objs.size ≠ s.heap.objs.size := by rw [size_push']; omega
  refine wpAny_bind (wpAny_newList ?_ (Nat.zero_le _))
  rw [hname]
  have nS : H (s.heap.push oI).objs.size = none := I1.hok.fresh (Nat.le_refl _)
  have rs : Rec X pins (s.heap.push oI).objs.size := rec_new I1 (Nat.le_refl _)
  have I2 : Inv X pins σ H { s with heap := (s.heap.push oI).push (seqObj "list" #[] 0) } := I1.kept (t' := s.toks) fun b u e => Heap.get?_push_of_some _ e
  have gS : ((s.heap.push oI).push (seqObj "list" #[] 0)).get? (s.heap.push oI).objs.size = some (seqObj "list" #[] 0) := Heap.get?_push_size _ rfl
  have st1 : tf s.heap.objs.size 0 ((s.heap.push oI).push (seqObj "list" #[] 0)) := F.keep _ _ _ st fun o e => Heap.get?_push_of_some _ e
  refine wpAny_pure ⟨plainId_quiet PySem.F.plain_max_loop _, ?_⟩
  generalize (s.heap.push oI).objs.size = S at hSn nS rs gS
  generalize hh2 : (s.heap.push oI).push (seqObj "list" #[] 0) = hp at I2 gS st1
  obtain ⟨x0, xs', e⟩ := List.exists_cons_of_ne_nil nx
  have hx : xs[0]? = some x0 := by rw [e]; rfl
  refine codeAny_builtin PySem.F.entry_max_loop ?_
  rw [Around.under_plainId PySem.F.plain_max_loop _]
  show wpAny _ A.in1 (seqItems? (.ref _) >>= _) _ _ _
  refine wpAny_bind (wpAny_seqItems gS rfl ?_)
  show wpAny _ A.in1 (tryCatch (pyNext (.ref s.heap.objs.size)) _ >>= _) _ _ _
  refine wpAny_bind (wpAny_tryCatch (F.item A.in1 pins _ σ H _ _ 0 x0 I2 st1 g hx fun u h' ru st' sb => ?_))
  have I3 : Inv X pins σ H { s with heap := h' } := Rec.turn (s := { s with heap := hp }) (t' := s.toks) ri I2 hni fun c o hc e => sb.extBut c o hc e
  have hS' : h'.get? S = some (seqObj "list" #[] 0) := sb.extBut S _ hSn gS
  show wpAny _ A.in1 (tryCatch (holding [u] (call (.ref q) [u])) _ >>= _) _ _ _
  refine wpAny_bind (wpAny_tryCatch (wpAny_holding (wpAny_call (codeAny_mono (hcall _ H 0 x0 u hx ru I3 fun _ _ z => z) fun rr s2 hrr => ?_))))
  cases rr with
  | error er => exact False.elim hrr
  | ok fl =>
    cases fl with
    | next => exact False.elim hrr
    | brk => exact False.elim hrr
    | cont => exact False.elim hrr
    | ret v =>
      obtain ⟨v', H2, os, bare, un, hok, rv', sm2, hk2⟩ := (show CE X.stack X.prog X.w H { s with heap := h' } _ v s2 from hrr)
      have I4 : Inv X pins σ H2 s2 := I3.call' os un hok bare (fun b z => absurd z List.not_mem_nil)
      have keep : ∀ {b : Addr} {ob : Obj}, Rec X pins b → H b = none → h'.get? b = some ob → s2.heap.get? b = some ob := fun rb ub eb => un.keep _ _ eb ub rb.fr List.not_mem_nil
      have fr2 : ∀ {b : Addr} {ob : Obj}, H b = none → h'.get? b = some ob → H2 b = none := fun ub eb => un.free _ _ eb ub List.not_mem_nil
      have st2 : tf s.heap.objs.size (0 + 1) s2.heap := F.keep _ _ _ st' fun o e => keep ri hni e
      obtain ⟨oi, hoi⟩ := F.obj _ _ st'
      have ni2 := fr2 hni hoi
      have nS2 := fr2 nS hS'
      have hS2 := keep rs nS hS'
      have g2 := F.same _ _ g sm2
      try dsimp only
      obtain ⟨h2, g2', d2, t2, o2⟩ := s2
      have sb2 : Heap.SameBut S h2 (h2.update S (Obj.mapSeq fun _ => #[u, v])) := Heap.SameBut.update ..
      obtain ⟨c2, hc2⟩ : ∃ c2, (h2.update S (Obj.mapSeq fun _ => #[u, v])).get? S = some (seqObj "list" #[u, v] c2) := ⟨_, get?_update_seq hS2 fun _ => #[u, v]⟩
      show wpAny _ A.in1 (updateSeq S (fun _ => #[u, v]) >>= _) _ _ _
      refine wpAny_bind ?_
      refine wpAny_updateSeq hS2 rfl ?_
      rw [hname]
      have I5 : Inv X pins σ H2 (⟨h2.update S (Obj.mapSeq fun _ => #[u, v]), g2', d2, t2, o2⟩ : Shared) := rs.turn (t' := t2) I4 nS2 fun c o hc e => sb2.extBut c o hc e
      refine wpAny_pure ⟨plainId_quiet PySem.F.plain_max_loop _, max_loop hh F ri rs hSn hcall hcmp hKV hT hA hI ?_ _ 0 0 _ H2 u v x0 v' c2 rfl (by rw [e]; simp) I5 sm2 g2 ni2 nS2 (F.keep _ _ _ st2 fun o e => sb2.extBut _ o hSn.symm e) hc2 hx ru hk2 rv' (Nat.le_refl _) ⟨fun j' hj' => ?_, fun j' hj' => absurd hj' (Nat.not_lt_zero _)⟩⟩
      · exact fun i x u s' H' J sm hx hr hb => hR i x u s' H' J sm hx hr hb
      · rw [show j' = 0 by omega]; exact hI _
end
end Mc
namespace Mc
open PySem L2 PySem.Spec PyProof.Rows FbM LamX NdefX
/-! min(e, key=lambda x: ..), max(..) as expressions -/
/-- a kind of keys: what stands for the i-th key, and when it is before another one -/
structure KKey (κ : Type) where
  KV : κ → Nat → V → Hp → Prop
  bt : κ → Nat → Nat → Bool
  per : ∀ k i v H1 H2, KV k i v H1 → Same H1 H2 → KV k i v H2
  tr : ∀ k i j l, bt k i j = true → bt k l j = false → bt k i l = true
  as : ∀ k i j, bt k i j = true → bt k j i = false
  ir : ∀ k i, bt k i i = false
/-- ints, the least first -/
def kLo : KKey (Nat → Int) where
  KV := fun kf i v _ => v = .int (kf i)
  bt := fun kf i j => decide (kf i < kf j)
  per := fun _ _ _ _ _ h _ => h
  tr := fun k i j l h1 h2 => by simp at *; omega
  as := fun k i j h => by simp at *; omega
  ir := fun k i => by simp
/-- ints, the greatest first -/
def kHi : KKey (Nat → Int) where
  KV := fun kf i v _ => v = .int (kf i)
  bt := fun kf i j => decide (kf i > kf j)
  per := fun _ _ _ _ _ h _ => h
  tr := fun k i j l h1 h2 => by simp at *; omega
  as := fun k i j h => by simp at *; omega
  ir := fun k i => by simp
theorem rkLe_tot (kf : PySem.Str → Int) (x y : PySem.Str) : rkLe kf x y ∨ rkLe kf y x := by
  unfold rkLe
  rcases Int.lt_trichotomy (kf x) (kf y) with h | h | h
  · exact .inl (.inl h)
  · by_cases z : ltN y x
    · exact .inr (.inr ⟨h.symm, fun q => ltN_irr _ (ltN_trans q z)⟩)
    · exact .inl (.inr ⟨h, z⟩)
  · exact .inr (.inl h)
theorem rkLe_tr (kf : PySem.Str → Int) {x y z : PySem.Str} (h1 : rkLe kf x y) (h2 : rkLe kf y z) : rkLe kf x z := by
  have hx : PySem.W.dataLe false (kdM kf) x y = true := kdM_le.mpr h1
  unfold rkLe at *
  rcases h1 with h1 | ⟨h1, n1⟩ <;> rcases h2 with h2 | ⟨h2, n2⟩
  · exact .inl (by omega)
  · exact .inl (by omega)
  · exact .inl (by omega)
  · refine .inr ⟨by omega, fun q => ?_⟩
    by_cases a : x = y
    · rw [a] at q; exact n2 q
    · by_cases b : ltN x y
      · exact n2 (ltN_trans q b)
      · exact n1 (ltN_tri b a)
open Classical in
/-- pairs (an int, a text), the least first -/
noncomputable def kPr : KKey ((PySem.Str → Int) × (Nat → PySem.Str)) where
  KV := fun k i v H => ∃ p, v = .ref p ∧ H p = some (.tup [.int (k.1 (k.2 i)), .str (k.2 i)])
  bt := fun k i j => decide (¬ rkLe k.1 (k.2 j) (k.2 i))
  per := fun _ _ _ _ _ ⟨p, e, h⟩ s => ⟨p, e, s _ _ h⟩
  tr := fun k i j l h1 h2 => by
    rw [decide_eq_true_eq] at *
    rw [decide_eq_false_iff_not, Classical.not_not] at h2
    exact fun z => h1 (rkLe_tr _ h2 z)
  as := fun k i j h => by
    rw [decide_eq_true_eq] at h
    rw [decide_eq_false_iff_not, Classical.not_not]
    exact (rkLe_tot k.1 _ _).resolve_right h
  ir := fun k i => by
    rw [decide_eq_false_iff_not, Classical.not_not]
    exact (rkLe_tot k.1 _ _).elim id id
section
variable {X : Cx} {A : Around}
theorem cmp_lo (kf : Nat → Int) : CmpV X A .Lt (kLo.KV kf) (kLo.bt kf) := fun pins σ H s i j x y u v Q E I hx rx hy ry h => by
  obtain rfl : x = .int (kf i) := hx
  obtain rfl : y = .int (kf j) := hy
  obtain ⟨t, rfl⟩ := rx
  obtain ⟨t', rfl⟩ := ry
  exact CmpOf.ints_lt (prog := X.prog) (w := X.w) (A := A) (P := fun i v => ∃ t, v = .int (kf i) t) kf (fun i v h => h) i j _ _ _ _ _ ⟨t, rfl⟩ ⟨t', rfl⟩ h
theorem cmp_hi (kf : Nat → Int) : CmpV X A .Gt (kHi.KV kf) (kHi.bt kf) := fun pins σ H s i j x y u v Q E I hx rx hy ry h => by
  obtain rfl : x = .int (kf i) := hx
  obtain rfl : y = .int (kf j) := hy
  obtain ⟨t, rfl⟩ := rx
  obtain ⟨t', rfl⟩ := ry
  exact CmpOf.ints_gt (prog := X.prog) (w := X.w) (A := A) (P := fun i v => ∃ t, v = .int (kf i) t) kf (fun i v h => h) i j _ _ _ _ _ ⟨t, rfl⟩ ⟨t', rfl⟩ h
theorem cmp_pr (hu : A.units + 1 < cLine) (k : (PySem.Str → Int) × (Nat → PySem.Str)) : CmpV X A .Lt (kPr.KV k) (kPr.bt k) := fun pins σ H s i j x y u v Q E I hx rx hy ry h => by
  obtain ⟨p, rfl, hp⟩ := hx
  obtain ⟨q, rfl, hq⟩ := hy
  cases rx
  cases ry
  refine PySem.W.lt_data (tup_reads I.hok hp) (tup_reads I.hok hq) (kdM_alike k.1 _ _) (by intro e; cases e) (by rw [show PyData.depth (.tuple [.int (k.1 (k.2 i)), .str (k.2 i)]) = 1 from kdM_depth k.1 _, show PyData.depth (.tuple [.int (k.1 (k.2 j)), .str (k.2 j)]) = 1 from kdM_depth k.1 _]; exact hu) ?_
  have e : (!PySem.W.dataLt (kdM k.1 (k.2 i)) (kdM k.1 (k.2 j))) = true ↔ rkLe k.1 (k.2 j) (k.2 i) := kdM_le
  have e2 : PySem.W.dataLt (.tuple [.int (k.1 (k.2 i)), .str (k.2 i)]) (.tuple [.int (k.1 (k.2 j)), .str (k.2 j)]) = kPr.bt k i j := by
    show PySem.W.dataLt (kdM k.1 (k.2 i)) (kdM k.1 (k.2 j)) = @decide (¬ rkLe k.1 (k.2 j) (k.2 i)) _
    by_cases z : rkLe k.1 (k.2 j) (k.2 i)
    · rw [@decide_eq_false _ _ (by simpa using z)]
      have := e.mpr z
      simpa using this
    · rw [@decide_eq_true _ _ z]
      cases w : PySem.W.dataLt (kdM k.1 (k.2 i)) (kdM k.1 (k.2 j)) with
      | true => rfl
      | false => rw [w] at e; exact absurd (e.mp rfl) z
  rw [e2]
  exact h
end
def SqB (K : PySem.W.Frag) (b : Bool) (H : Hp) (a : Addr) (xs : List V) : Prop := if b then SqL K H a xs else SqT K H a xs
/-- the reading: the item whose key is the first best -/
def tExL {κ : Type} (KK : KKey κ) (K : PySem.W.Frag) (b : Bool) (T : List NTab) (mk : Addr → NF) (bd : Expr) (js : List Nat) (sp : Addr → Addr → List (Option V) → Sp) (ta : TE) : TE := fun σ H Q => ta σ H fun x H1 => TabsN T H1 ∧ ∀ (f c' : Addr) (H2 : Hp), ExtN H1 H2 → (∀ b, H2 b = none → H1 b = none) → TabsN T H2 → H1 f = none → H2 f = some (LmO f (mk c') bd) → H2 c' = some (CodeO c' (mk c').qual) →
  ∃ (a : Addr) (xs : List V) (k : κ), x = .ref a ∧ SqB K b H2 a xs ∧ xs ≠ [] ∧
  (∀ i y, xs[i]? = some y → ∀ H', Same H2 H' → sp f c' (js.map (slotAt σ)) [y] H' (fun v H3 => Same H' H3 ∧ KK.KV k i v H3) E0) ∧
  ∀ i y H', Same H2 H' → xs[i]? = some y → FstBest (KK.bt k) xs.length i → Q y H'

section
variable {X : Cx} {k : Nat} {fr : List PySem.Str} {js : List Nat} {sp : Addr → Addr → List (Option V) → Sp} {e : Expr} {ta : TE} {p pos kpos lpos : Pos} {T : List NTab} {nm : Nat → Nat → PySem.Str} {c P' : Addr} {params : Arguments} {bd : Expr} {scope : Scope} {x0 : PySem.Str} {κ : Type}
theorem pe_minL (KK : KKey κ) (b : Bool) (hcmp : ∀ k, CmpV X X.A.in1 .Lt (KK.KV k) (KK.bt k)) (hcalm : X.calm = true) (TB : TabB X.base X.mg c P') (hcode : X.env.code = .ref c) (hm' : (P', nm) ∈ T) (hn : nm lpos.line lpos.col = X.env.qual ++ "<lambda>") (hu' : ∀ p ∈ T, p.1 = P' → p.2 = nm) (hdef : defaultsOf params X.env = ([], []))
    (hfree : ∀ y ∈ scope.names, y.2 = .free → X.env.scope.names.lookup y.1 = some .cell ∨ X.env.scope.names.lookup y.1 = some .free)
    (L : ∀ f c', LOk X.prog X.w X.K X.mg X.base CX0 k f (lamF X params scope c') bd [x0] fr (sp f c')) (cp : X.Ok → Caps X (cloFrom X.env.cells scope.names []) fr js) (hr : Room (k + 1) X.A) (hg : Gl X "min") (hm : X.mg "min" = none) (he : PE X e ta)
    (hs1 : starEach [e] X.env = (false, eval e X.env) :: starEach [] X.env := by rfl)
    (hst : backTo pos (starEach [e] X.env) = (false, eval e X.env) :: backTo pos (starEach [] X.env) := by rfl) (hpl : (backTo pos (starEach [e] X.env)).any (·.1) = false := by rfl)
    (hall : (backToKw pos (keywordEach [⟨some "key", .Lambda params bd scope lpos, kpos⟩] X.env)).all (·.1.isSome) = true := by rfl) (hno : (backToKw pos (keywordEach [⟨some "key", .Lambda params bd scope lpos, kpos⟩] X.env)).any (·.1.isNone) = false := by rfl)
    (hks : (backToKw pos (keywordEach [⟨some "key", .Lambda params bd scope lpos, kpos⟩] X.env)).filterMap (·.1) = [PySem.Str.ofString "key"] := by rfl) :
    PE X (.Call (.Name "min" p) [e] [⟨some "key", .Lambda params bd scope lpos, kpos⟩] pos) (tExL KK X.K b T (lamF X params scope) bd js sp ta) := by
  refine ⟨fun pins s σ H Q I h => ?_⟩
  refine wpAny_Call_Name_kw (ld_blt I hg hm rfl ?_ (by decide) (by decide))
  show wpAny _ _ (callWith pos (.builtin "min") [] _ _) _ _ _
  refine callWith_kw (thn ((pa_cons he pa_nil hs1).run pos pins s σ H (fun vs H1 => match vs with
    | [x] => TabsN T H1 ∧ ∀ (f c' : Addr) (H2 : Hp), ExtN H1 H2 → (∀ b, H2 b = none → H1 b = none) → TabsN T H2 → H1 f = none → H2 f = some (LmO f (lamF X params scope c') bd) → H2 c' = some (CodeO c' (lamF X params scope c').qual) →
        ∃ (a : Addr) (xs : List V) (k : κ), x = .ref a ∧ SqB X.K b H2 a xs ∧ xs ≠ [] ∧
        (∀ i y, xs[i]? = some y → ∀ H', Same H2 H' → sp f c' (js.map (slotAt σ)) [y] H' (fun v H3 => Same H' H3 ∧ KK.KV k i v H3) E0) ∧
        ∀ i y H', Same H2 H' → xs[i]? = some y → FstBest (KK.bt k) xs.length i → Q y H'
    | _ => False) I h) fun us s1 hu => ?_) hst hpl hall hno
  obtain ⟨vs, H1, I1, r1, q1⟩ := hu
  match vs, q1 with
  | [x], q1 =>
    obtain ⟨hT, q1⟩ := q1
    refine wpAny_evalAll_cons (wpAny_bind (lam_mk I1 TB hcode hm' hn hu' hT hdef (fun y hy e => I1.ok.has _ (hfree y hy e)) fun f c' H2 s2 I2 x1 x2 T2 n1 hf hc => ?_))
    obtain ⟨a, xs, kk, rfl, hx, nx, tu, fin⟩ := q1 f c' H2 x1 x2 T2 n1 hf hc
    refine wpAny_bind (wpAny_standAt (wpAny_pure ?_))
    refine wpAny_evalAll_nil ?_
    rw [hks]
    obtain rfl := Vals.ref1 r1
    have hcall : CallsV X X.A.in1 pins σ f xs (KK.KV kk) H2 := fun s' H' i y u hy ru I' sm => by
      have e0 := I'.env0
      have e1' : Env0 X.prog X.w X.K X.mg X.base X.A.in1 X.stack s' H' := ⟨I2.ok.frames, e0.mod, e0.bs, e0.bsz, e0.funs, e0.frf, e0.hok, e0.bare⟩
      exact (L f c').run X.A.in1 X.stack s' H' _ [y] _ _ E0 hr.in1 e1' (sm _ _ hf) (sm _ _ hc) (cells_of I' (cp I'.ok)) (.cons ru .nil) (tu i y hy H' sm)
    cases b with
    | true =>
      obtain ⟨its, rv, pl, hz⟩ := I2.list hx
      refine min_key (A := X.A) (xs := xs) (u0 := .ref a) (I2.ok.hd hcalm) (G := fun H => SqL X.K H a xs) (tf := fun l' i h => h.IsListIter l' a i) (fun l' _ => feed_list a l') nx hcall ?_ (KK.per kk) (KK.tr kk) (KK.as kk) (KK.ir kk) hx I2 (fun Q' q' => wpAny_pyIter_list pl.isList (q' _ ⟨_, Heap.get?_push_size _ rfl, rfl, rfl⟩)) fun i y u s' H' J sm hy ru hb => ?_
      · exact hcmp kk
      · exact ⟨y, H', J, ru, fin i y H' sm hy hb⟩
    | false =>
      obtain ⟨its, rv, pl, hz⟩ := I2.tuple hx
      refine min_key (A := X.A) (xs := xs) (u0 := .ref a) (I2.ok.hd hcalm) (G := fun H => SqT X.K H a xs) (tf := fun l' i h => h.IsTupleIter l' a i) (fun l' _ => feed_tup a l') nx hcall ?_ (KK.per kk) (KK.tr kk) (KK.as kk) (KK.ir kk) hx I2 (fun Q' q' => wpAny_pyIter_tuple (show s2.heap.IsTuple a its.toArray from pl) (q' _ ⟨_, Heap.get?_push_size _ rfl, rfl, rfl⟩)) fun i y u s' H' J sm hy ru hb => ?_
      · exact hcmp kk
      · exact ⟨y, H', J, ru, fin i y H' sm hy hb⟩
end

section
variable {X : Cx} {k : Nat} {fr : List PySem.Str} {js : List Nat} {sp : Addr → Addr → List (Option V) → Sp} {e : Expr} {ta : TE} {p pos kpos lpos : Pos} {T : List NTab} {nm : Nat → Nat → PySem.Str} {c P' : Addr} {params : Arguments} {bd : Expr} {scope : Scope} {x0 : PySem.Str} {κ : Type}
theorem pe_maxL (KK : KKey κ) (b : Bool) (hcmp : ∀ k, CmpV X X.A.in1 .Gt (KK.KV k) (KK.bt k)) (hcalm : X.calm = true) (TB : TabB X.base X.mg c P') (hcode : X.env.code = .ref c) (hm' : (P', nm) ∈ T) (hn : nm lpos.line lpos.col = X.env.qual ++ "<lambda>") (hu' : ∀ p ∈ T, p.1 = P' → p.2 = nm) (hdef : defaultsOf params X.env = ([], []))
    (hfree : ∀ y ∈ scope.names, y.2 = .free → X.env.scope.names.lookup y.1 = some .cell ∨ X.env.scope.names.lookup y.1 = some .free)
    (L : ∀ f c', LOk X.prog X.w X.K X.mg X.base CX0 k f (lamF X params scope c') bd [x0] fr (sp f c')) (cp : X.Ok → Caps X (cloFrom X.env.cells scope.names []) fr js) (hr : Room (k + 1) X.A) (hg : Gl X "max") (hm : X.mg "max" = none) (he : PE X e ta)
    (hs1 : starEach [e] X.env = (false, eval e X.env) :: starEach [] X.env := by rfl)
    (hst : backTo pos (starEach [e] X.env) = (false, eval e X.env) :: backTo pos (starEach [] X.env) := by rfl) (hpl : (backTo pos (starEach [e] X.env)).any (·.1) = false := by rfl)
    (hall : (backToKw pos (keywordEach [⟨some "key", .Lambda params bd scope lpos, kpos⟩] X.env)).all (·.1.isSome) = true := by rfl) (hno : (backToKw pos (keywordEach [⟨some "key", .Lambda params bd scope lpos, kpos⟩] X.env)).any (·.1.isNone) = false := by rfl)
    (hks : (backToKw pos (keywordEach [⟨some "key", .Lambda params bd scope lpos, kpos⟩] X.env)).filterMap (·.1) = [PySem.Str.ofString "key"] := by rfl) :
    PE X (.Call (.Name "max" p) [e] [⟨some "key", .Lambda params bd scope lpos, kpos⟩] pos) (tExL KK X.K b T (lamF X params scope) bd js sp ta) := by
  refine ⟨fun pins s σ H Q I h => ?_⟩
  refine wpAny_Call_Name_kw (ld_blt I hg hm rfl ?_ (by decide) (by decide))
  show wpAny _ _ (callWith pos (.builtin "max") [] _ _) _ _ _
  refine callWith_kw (thn ((pa_cons he pa_nil hs1).run pos pins s σ H (fun vs H1 => match vs with
    | [x] => TabsN T H1 ∧ ∀ (f c' : Addr) (H2 : Hp), ExtN H1 H2 → (∀ b, H2 b = none → H1 b = none) → TabsN T H2 → H1 f = none → H2 f = some (LmO f (lamF X params scope c') bd) → H2 c' = some (CodeO c' (lamF X params scope c').qual) →
        ∃ (a : Addr) (xs : List V) (k : κ), x = .ref a ∧ SqB X.K b H2 a xs ∧ xs ≠ [] ∧
        (∀ i y, xs[i]? = some y → ∀ H', Same H2 H' → sp f c' (js.map (slotAt σ)) [y] H' (fun v H3 => Same H' H3 ∧ KK.KV k i v H3) E0) ∧
        ∀ i y H', Same H2 H' → xs[i]? = some y → FstBest (KK.bt k) xs.length i → Q y H'
    | _ => False) I h) fun us s1 hu => ?_) hst hpl hall hno
  obtain ⟨vs, H1, I1, r1, q1⟩ := hu
  match vs, q1 with
  | [x], q1 =>
    obtain ⟨hT, q1⟩ := q1
    refine wpAny_evalAll_cons (wpAny_bind (lam_mk I1 TB hcode hm' hn hu' hT hdef (fun y hy e => I1.ok.has _ (hfree y hy e)) fun f c' H2 s2 I2 x1 x2 T2 n1 hf hc => ?_))
    obtain ⟨a, xs, kk, rfl, hx, nx, tu, fin⟩ := q1 f c' H2 x1 x2 T2 n1 hf hc
    refine wpAny_bind (wpAny_standAt (wpAny_pure ?_))
    refine wpAny_evalAll_nil ?_
    rw [hks]
    obtain rfl := Vals.ref1 r1
    have hcall : CallsV X X.A.in1 pins σ f xs (KK.KV kk) H2 := fun s' H' i y u hy ru I' sm => by
      have e0 := I'.env0
      have e1' : Env0 X.prog X.w X.K X.mg X.base X.A.in1 X.stack s' H' := ⟨I2.ok.frames, e0.mod, e0.bs, e0.bsz, e0.funs, e0.frf, e0.hok, e0.bare⟩
      exact (L f c').run X.A.in1 X.stack s' H' _ [y] _ _ E0 hr.in1 e1' (sm _ _ hf) (sm _ _ hc) (cells_of I' (cp I'.ok)) (.cons ru .nil) (tu i y hy H' sm)
    cases b with
    | true =>
      obtain ⟨its, rv, pl, hz⟩ := I2.list hx
      refine max_key (A := X.A) (xs := xs) (u0 := .ref a) (I2.ok.hd hcalm) (G := fun H => SqL X.K H a xs) (tf := fun l' i h => h.IsListIter l' a i) (fun l' _ => feed_list a l') nx hcall ?_ (KK.per kk) (KK.tr kk) (KK.as kk) (KK.ir kk) hx I2 (fun Q' q' => wpAny_pyIter_list pl.isList (q' _ ⟨_, Heap.get?_push_size _ rfl, rfl, rfl⟩)) fun i y u s' H' J sm hy ru hb => ?_
      · exact hcmp kk
      · exact ⟨y, H', J, ru, fin i y H' sm hy hb⟩
    | false =>
      obtain ⟨its, rv, pl, hz⟩ := I2.tuple hx
      refine max_key (A := X.A) (xs := xs) (u0 := .ref a) (I2.ok.hd hcalm) (G := fun H => SqT X.K H a xs) (tf := fun l' i h => h.IsTupleIter l' a i) (fun l' _ => feed_tup a l') nx hcall ?_ (KK.per kk) (KK.tr kk) (KK.as kk) (KK.ir kk) hx I2 (fun Q' q' => wpAny_pyIter_tuple (show s2.heap.IsTuple a its.toArray from pl) (q' _ ⟨_, Heap.get?_push_size _ rfl, rfl, rfl⟩)) fun i y u s' H' J sm hy ru hb => ?_
      · exact hcmp kk
      · exact ⟨y, H', J, ru, fin i y H' sm hy hb⟩
end
end Mc
namespace Mc
open PySem L2 PySem.Spec PyProof.Rows
/-! ### own classes of error over Exception, with an __init__ that stores its arguments -/
def exT : List Value := [.type "Exception", .type "BaseException", .type "object"]
structure OexB (K : PySem.W.Frag) (C : Addr) : Prop where
  ini : PySem.W.excInitIn K C exT "Exception.__new__" = true
  ovr : PySem.W.excOver K C exT = true
  hd : PySem.W.hasDictIn K C = true
  sa : PySem.W.findIn K (.ref C) "__setattr__" = some (some (.builtin "object.__setattr__"))
  exC : PySem.W.subIn K (.ref C) (.type "BaseException") = some true
  tyC : PySem.W.typeIn K (.ref C) = some (.type "type")
  kC : PySem.W.keepIn K (.ref C) = true
theorem OexB.cd {K : PySem.W.Frag} {C : Addr} (T : OexB K C) : ∃ c, PySem.W.clsIn K C = some c ∧ c.hasDict = true := by
  have h := T.hd
  unfold PySem.W.hasDictIn at h
  cases e : PySem.W.clsIn K C with
  | none => rw [e] at h; cases h
  | some c => rw [e] at h; exact ⟨c, rfl, h⟩
section
open Builtin Builtin.ObjectAttr
variable {prog : Program} {w : World} {A : Around} {R : Result → Shared → Prop} {hp : Heap} {g : Array GenState} {dr : Drawn} {t : Nat} {os : OsState} {K : PySem.W.Frag} {C x : Addr} {y : PySem.Str} {tk : Tok} {u : Value} {fv : Array Value}
theorem taker_none (h : PySem.W.findIn K (.ref C) y = some none) : PySem.W.takerIn K C y = some none := by
  unfold PySem.W.takerIn
  rw [h]
  rfl
theorem sto_first (T : OexB K C) (hK : K.In hp) (ho : hp.get? x = some { cls := .ref C, data := .fields fv }) (hno : PySem.W.findIn K (.ref C) y = some none)
    (q : ∀ h' tk' dx, (∀ b o, b ≠ x → hp.get? b = some o → h'.get? b = some o) → hp.objs.size ≤ dx → dx ≠ x → h'.get? x = some { cls := .ref C, dict := some dx, data := .fields fv } → h'.Ns1 dx (fun z => if z = y then some u else none) →
      R (.ok (.ret .none)) ⟨h', g, dr, tk', os⟩) : codeAny (model prog w) A (.call (.builtin "object.__setattr__") ⟨[.ref x, .str y tk, u], []⟩) R ⟨hp, g, dr, t, os⟩ := by
  obtain ⟨c, hc, hh⟩ := T.cd
  refine PySem.W.osa_openX (od := none) (r := none) PySem.F.store_Exception hK ⟨ho, rfl, rfl, trivial⟩ T.ovr (taker_none hno) fun b => ?_
  have hcl : PySem.W.Looks (model prog w) hp (classData C) c := PySem.W.looks_clsIn hK hc
  have ne : x ≠ hp.objs.size := Nat.ne_of_lt (Heap.lt_size ho)
  obtain ⟨c1, c2, c3, c4, c5, c6, c7, c8, c9, c10, c11⟩ := c
  dsimp only at hh
  subst hh
  show wpAny _ _ (storeInOwnDict (.ref x) (.ref C) (.str y tk) y u b) _ _ _
  unfold storeInOwnDict ownDictForStores
  repeat (first | with_reducible refine PySem.PX.store_in_new ?_ ?_ | with_reducible refine wpAny_loadPart_at ho ?_ | with_reducible refine hcl.at ?_ | wp_step)
  · exact ⟨_, #[], _, (Heap.get?_update_ne _ _ _ _ ne.symm).trans (Heap.get?_push_at rfl rfl), rfl, fun e he => absurd he (by simp), fun _ => rfl⟩
  · intro h' tk' hn' hs
    exact q h' tk' hp.objs.size (fun b o hb hbo => (hs.2 b (Nat.ne_of_lt (Heap.lt_size hbo))).trans ((Heap.get?_update_ne _ _ _ _ hb).trans (Heap.get?_push_of_some _ hbo))) (Nat.le_refl _) ne.symm
      ((hs.2 x ne).trans (Heap.get?_update_self _ (Heap.get?_push_of_some _ ho) rfl)) hn'
theorem sto_more {dx : Addr} {m0 : PySem.Str → Option Value} {nl : List PySem.Str} (T : OexB K C) (hK : K.In hp) (ho : hp.get? x = some { cls := .ref C, dict := some dx, data := .fields fv }) (hno : PySem.W.findIn K (.ref C) y = some none)
    (hns : hp.Ns1 dx m0) (hw : Within m0 nl) (hz : nl.length ≤ 1000)
    (q : ∀ h' tk', (∀ b o, b ≠ dx → hp.get? b = some o → h'.get? b = some o) → h'.Ns1 dx (fun z => if z = y then some u else m0 z) → R (.ok (.ret .none)) ⟨h', g, dr, tk', os⟩) :
    codeAny (model prog w) A (.call (.builtin "object.__setattr__") ⟨[.ref x, .str y tk, u], []⟩) R ⟨hp, g, dr, t, os⟩ := by
  obtain ⟨c, hc, hh⟩ := T.cd
  obtain ⟨oD, _, _, hoD, _, _⟩ := hns.count hw
  refine PySem.W.osa_openX (od := some oD) (r := none) PySem.F.store_Exception hK ⟨ho, rfl, rfl, hoD⟩ T.ovr (taker_none hno) fun b => ?_
  have hcl : PySem.W.Looks (model prog w) hp (classData C) c := PySem.W.looks_clsIn hK hc
  obtain ⟨c1, c2, c3, c4, c5, c6, c7, c8, c9, c10, c11⟩ := c
  dsimp only at hh
  subst hh
  show wpAny _ _ (storeInOwnDict (.ref x) (.ref C) (.str y tk) y u b) _ _ _
  unfold storeInOwnDict ownDictForStores
  repeat (first | with_reducible refine PySem.OEX.store_in_old hns hw hz ?_ | with_reducible refine wpAny_loadPart_at ho ?_ | with_reducible refine hcl.at ?_ | wp_step)
  intro h' tk' hn' hs
  exact q h' tk' (fun b o hb hbo => (hs.2 b hb).trans hbo) hn'
end
section
variable {X : Cx} {pins : List (Addr × Obj)} {σ : L2.St} {H : Hp} {s : Shared} {a C dx : Addr} {f : PySem.Str} {y : V} {u : Value} {fs : List (PySem.Str × V)} {Q : Unit → Shared → Prop} {E : Value → Shared → Prop} {A : Around}
theorem fld_first (T : OexB X.K C) (I : Inv X pins σ H s) (e : H a = some (exo a C none)) (hno : PySem.W.findIn X.K (.ref C) f = some none) (ry : RelV y u)
    (q : ∀ dx s', H dx = none → dx ≠ a → Inv X pins σ (upd (upd H dx (exd dx [(f, y)])) a (exo a C (some dx))) s' → Q () s') : wpAny (model X.prog X.w) A (setAttr (.ref a) f u) Q E s := by
  obtain ⟨t1, ho⟩ := exo_at I.hok e
  obtain ⟨hp, g, d, t, os⟩ := s
  refine PySem.W.set_plain I.kIn (od := none) ⟨ho, rfl, rfl, trivial⟩ T.sa (sto_first T I.kIn ho hno fun h' tk' dx k dn dne hx hn => ?_)
  have hnd : H dx = none := I.hok.fresh dn
  have hb' : ∀ b, b ≠ a → (h'.update a fun _ => { cls := .ref C, data := .fields #[.ref t1, .none, .none, .none, .bool false, .none] }).get? b = h'.get? b := fun b hb => Heap.get?_update_ne _ _ _ _ hb
  have I1 : Inv X pins σ (upd H dx (exd dx [(f, y)])) ⟨h'.update a fun _ => { cls := .ref C, data := .fields #[.ref t1, .none, .none, .none, .bool false, .none] }, g, d, tk', os⟩ :=
    I.laid (t' := tk') (fun b o z => by
      by_cases hb : b = a
      · subst hb
        rw [show hp.get? b = _ from ho] at z
        cases z
        exact Heap.get?_update_self _ hx rfl
      · rw [hb' b hb]
        exact k b o hb z) dn (exd_ok (hn.at fun o z => (hb' dx dne).trans z) (relO_put (fs := []) ry fun g => True.intro))
  have ea : upd H dx (exd dx [(f, y)]) a = some (exo a C none) := by rw [upd_ne (Ne.symm dne)]; exact e
  exact q dx _ hnd dne (I1.write (t' := tk') (x := a) (e := a) (o := exo a C (some dx)) (by rw [ea]; exact True.intro) (.inl rfl) (fun b o hb z => (hb' b hb).symm.trans z) ⟨_, hx⟩ (exo_ok hx))
theorem fld_more (T : OexB X.K C) (I : Inv X pins σ H s) (e : H a = some (exo a C (some dx))) (ed : H dx = some (exd dx fs)) (hl : fs.length ≤ 900) (hno : PySem.W.findIn X.K (.ref C) f = some none) (ry : RelV y u)
    (q : ∀ s', Inv X pins σ (upd H dx (exd dx ((f, y) :: fs))) s' → Q () s') : wpAny (model X.prog X.w) A (setAttr (.ref a) f u) Q E s := by
  obtain ⟨t1, ho⟩ := exo_at I.hok e
  obtain ⟨mA, hns, rel⟩ := exd_at I.hok ed
  have hw := within_of rel
  obtain ⟨hp, g, d, t, os⟩ := s
  obtain ⟨oD, _, _, hoD, _, _⟩ := hns.count hw
  refine PySem.W.set_plain I.kIn (od := some oD) ⟨ho, rfl, rfl, hoD⟩ T.sa (sto_more T I.kIn ho hno hns hw (by rw [List.length_map]; omega) fun h' tk' k hn => ?_)
  obtain ⟨o, _, _, e', _⟩ := id hn
  exact q _ (I.write (t' := tk') (x := dx) (e := dx) (o := exd dx ((f, y) :: fs)) (by rw [ed]; exact True.intro) (.inl rfl) k ⟨o, e'⟩ (exd_ok hn (relO_put ry rel)))
end
section
variable {X : Cx} {o e : Expr} {es : List Expr} {to te : TE} {ta : TA} {p' p pos : Pos} {f x : PySem.Str}
def tOstB (K : PySem.W.Frag) (f : PySem.Str) (to te : TE) : TS := fun D σ H => te σ H fun y H1 => to σ H1 fun x H2 => ∃ a C : Addr, x = .ref a ∧ OexB K C ∧ PySem.W.findIn K (.ref C) f = some none ∧
  ((H2 a = some (exo a C none) ∧ ∀ dx, H2 dx = none → dx ≠ a → D.nx σ (upd (upd H2 dx (exd dx [(f, y)])) a (exo a C (some dx)))) ∨
    ∃ (dx : Addr) (fs : List (PySem.Str × V)), H2 a = some (exo a C (some dx)) ∧ H2 dx = some (exd dx fs) ∧ fs.length ≤ 900 ∧ D.nx σ (upd H2 dx (exd dx ((f, y) :: fs))))
theorem ps_ostB (ho : PE X o to) (he : PE X e te) (hs : swapsWith e (some (.Attribute o f p')) pos.line X.env = pure false := by rfl) : PS X (.Assign [.Attribute o f p'] e pos) (tOstB X.K f to te) := by
  constructor
  intro pins s σ H D I h
  refine plainObj_wpAny_Assign_Attribute (thn (he.run pins s σ H _ I h) fun v s1 hv => ?_) hs
  obtain ⟨y, H1, I1, r1, q1⟩ := hv
  refine thn (ho.run pins s1 σ H1 _ I1 q1) fun u s2 hu => ?_
  obtain ⟨x, H2, I2, r2, a, C, rfl, T, hno, q⟩ := hu
  cases r2
  rcases q with ⟨ea, q⟩ | ⟨dx, fs, ea, ed, hl, q⟩
  · exact fld_first T I2 ea hno r1 fun dx s' n1 n2 J => ⟨σ, _, J, q dx n1 n2⟩
  · exact fld_more T I2 ea ed hl hno r1 fun s' J => ⟨σ, _, J, q⟩
/-- C(e, ..) -/
def tMkB (C : Addr) (sp : Sp) (ta : TA) : L2.St → Hp → XK → Prop := fun σ H Q => ta σ H fun vs H1 => vs.length ≤ 1000 ∧ ∀ a, H1 a = none → sp (.ref a :: vs) (upd H1 a (exo a C none)) (fun v H2 => v = .non ∧
  ∃ (d : Addr) (fs : List (PySem.Str × V)), H2 a = some (exo a C (some d)) ∧ H2 d = some (exd d fs) ∧ H1 d = none ∧ Q (.ref C) (some d) (upd (del H2 a) d (.xd fs))) E0
theorem pmk_B {C fI : Addr} {k : Nat} {fd : FuncData} {ps : List PySem.Str} {sp : Sp} (T : OexB X.K C) (iC : PySem.W.findIn X.K (.ref C) "__init__" = some (some (.ref fI))) (tI : PySem.W.isFn X.K (.ref fI) = true)
    (F1 : FnOk X.prog X.w X.K X.mg X.base CX0 k fI fd ps sp) (hr : Room (k + 1) X.A) (hb : Binds X.K fd ps []) (hg : Gl X x) (hm : X.mg x = some (.ref C)) (ha : PA X (e :: es) ta)
    (hdb : (x == ("__debug__" : PySem.Str)) = false := by decide) (he : starEach (e :: es) X.env = (false, eval e X.env) :: starEach es X.env := by rfl) (hpl : (backTo pos (starEach es X.env)).any (·.1) = false := by rfl) :
    PMk X (.Call (.Name x p) (e :: es) [] pos) (tMkB C sp ta) := by
  intro pins s σ H Q I h
  refine wpAny_Call_Name_kw (ld_glob I hg hm ?_ hdb)
  refine PySem.W.callWith_K (h₀ := X.base) I.ok.mod.kin T.kC (thn (ha.run pos pins s σ H _ I h) fun us s1 hu => ?_) he hpl
  obtain ⟨vs, H1, I1, r1, hz, q1⟩ := hu
  refine ⟨I1.kIn, ?_⟩
  show wpAny _ _ (call (.ref C) us) _ _ _
  obtain ⟨nm, N, qn, bs, bm, hdct, sn, sub, ab, col, dd, k0, k1, k2, k3, k5, hC, hT⟩ := PySem.W.excInit_of I1.kIn T.ini
  obtain ⟨oI, hoI, hcI⟩ : ∃ oI, s1.heap.get? fI = some oI ∧ oI.cls = .type "function" := by
    obtain ⟨o, z1, z2⟩ := Option.map_eq_some_iff.mp (show (X.K.lookup fI).map (·.cls) = some (.type "function") from beq_iff_eq.mp tI)
    exact ⟨o, I1.kIn _ _ z1, z2⟩
  obtain ⟨hp, g, dr, tk, os⟩ := s1
  have le1 : hp.objs.size ≤ hp.objs.size + 1 := Nat.le_succ _
  have q2 := q1 (hp.objs.size + 1) (I1.hok.fresh le1)
  have grow : ∀ b o, hp.get? b = some o → ((hp.push (PySem.W.kdv_tup us)).push (PySem.PX.excO C hp.objs.size)).get? b = some o := fun b o z => Heap.get?_push_of_some _ (Heap.get?_push_of_some _ z)
  have here : ((hp.push (PySem.W.kdv_tup us)).push (PySem.PX.excO C hp.objs.size)).get? (hp.objs.size + 1) = some (PySem.PX.excO C hp.objs.size) := by heap_get
  have I2 : Inv X pins σ (upd H1 (hp.objs.size + 1) (exo (hp.objs.size + 1) C none)) ⟨(hp.push (PySem.W.kdv_tup us)).push (PySem.PX.excO C hp.objs.size), g, dr, tk, os⟩ := I1.laid (t' := tk) grow le1 (exo_ok here)
  have hv : Vals (V.ref (hp.objs.size + 1) :: vs) (Value.ref (hp.objs.size + 1) :: us) := .cons rfl r1
  have hln : (Value.ref (hp.objs.size + 1) :: us ++ []).length = ps.length := by
    rw [List.append_nil, ← hv.length]
    exact F1.len _ _ _ _ q2
  have hus : us.length ≤ sizeLine := by
    rw [← Paired.length r1, sizeLine_eq]
    omega
  have bt := hb ⟨(hp.push (PySem.W.kdv_tup us)).push (PySem.PX.excO C hp.objs.size), g, dr, tk, os⟩ (Value.ref (hp.objs.size + 1) :: us) I2.kIn hln
  rw [List.append_nil] at bt
  refine wpAny_call (PySem.PX.call_own PySem.F.excBase_Exception hT hC (PySem.W.looks_findIn I1.kIn iC) (fun self => PySem.W.exc_bind hoI hcI self) hus
    (codeAny_mono (F1.run _ X.stack _ _ ⟨Value.ref (hp.objs.size + 1) :: us, []⟩ _ _ _ E0 (hr.make C us []) (I2.env0.make C us []) bt hv q2) fun r s' z => ?_))
  cases r with
  | error er => exact pass0 pins σ _ _ er s' I2 z
  | ok fl =>
    cases fl with
    | ret u =>
      obtain ⟨v, H2, z1, z2, z3, z4, rv, rfl, d, fs, ea, ed, hd1, q3⟩ := z
      obtain ⟨h2, g2, d2, t2, os'⟩ := s'
      exact ⟨rv, mk_end (raises_own T.exC T.tyC) I1 le1 grow z3 z4 z1 z2 ea ed hd1 q3⟩
    | next => exact False.elim z
    | brk => exact False.elim z
    | cont => exact False.elim z
end
end Mc
namespace Mc
open PySem L2 PySem.Spec PyProof.Rows
/-! ### calls that may raise -/
def CalX (P : Program) (w : World) (K : PySem.W.Frag) (mg : PySem.Str → Option Value) (base : Heap) (k : Nat) (x : PySem.Str) (ps : List PySem.Str) (sp : Sp) : Prop :=
  ∃ (f : Addr) (fd : FuncData), mg x = some (.ref f) ∧ PySem.W.keepIn K (.ref f) = true ∧ Binds K fd ps [] ∧ FnOk P w K mg base (L2.CX P w) k f fd ps sp
def CalMX (P : Program) (w : World) (K : PySem.W.Frag) (mg : PySem.Str → Option Value) (base : Heap) (C : Addr) (k : Nat) (m : PySem.Str) (ps : List PySem.Str) (sp : Sp) : Prop :=
  ∃ (f : Addr) (fd : FuncData), Meth K C m f ∧ Binds K fd ps [] ∧ FnOk P w K mg base (L2.CX P w) k f fd ps sp
def CalIX (P : Program) (w : World) (K : PySem.W.Frag) (mg : PySem.Str → Option Value) (base : Heap) (C : Addr) (k : Nat) (x : PySem.Str) (ps : List PySem.Str) (sp : Sp) : Prop :=
  ∃ (f : Addr) (fd : FuncData), mg x = some (.ref C) ∧ Mk K C f ∧ Binds K fd ps [] ∧ FnOk P w K mg base (L2.CX P w) k f fd ps sp
/-- o.m(..) where E σ is wished of what it raises -/
def tMethE (C : Addr) (m : PySem.Str) (sp : Sp) (E : L2.St → XK) (ta : TE) (t : TA) : TE := fun σ H Q => ta σ H fun x H1 => ∃ a dx fs, x = .ref a ∧ H1 a = some (.ins C dx fs) ∧ fs.lookup m = none ∧ t σ H1 fun vs H2 => sp (x :: vs) H2 Q (E σ)
section
variable {X : Cx} {k : Nat} {x m : PySem.Str} {ps : List PySem.Str} {sp : Sp} {C : Addr} {p pos apos : Pos} {e o : Expr} {es : List Expr} {t : TA} {ta : TE} {E : L2.St → XK}
theorem pe_calX (c : CalX X.prog X.w X.K X.mg X.base k x ps sp) (hr : Room k X.A) (hg : Gl X x) (hx : ∀ σ, PassesAt (L2.CX X.prog X.w) X σ (E σ)) (ha : PA X (e :: es) t) (hdb : (x == ("__debug__" : PySem.Str)) = false := by decide)
    (he : starEach (e :: es) X.env = (false, eval e X.env) :: starEach es X.env := by rfl) (hpl : (backTo pos (starEach es X.env)).any (·.1) = false := by rfl) : PE X (.Call (.Name x p) (e :: es) [] pos) (tCallS sp E t) := by
  obtain ⟨f, fd, hm, hk, hb, F⟩ := c
  exact pe_callS F hr hg hm hk hb hx ha hdb he hpl
theorem pe_calMX {pl : Sem Bool} (ho : PE X o ta) (cl : Cls X.K C) (c : CalMX X.prog X.w X.K X.mg X.base C k m ps sp) (hr : Room k X.A) (hx : ∀ σ, PassesAt (L2.CX X.prog X.w) X σ (E σ)) (ha : PA X (e :: es) t)
    (hst : starEach (e :: es) X.env = (false, eval e X.env) :: starEach es X.env := by rfl) (hpl : (backTo pos (starEach es X.env)).any (·.1) = false := by rfl)
    (ht : eval (.Call (.Attribute o m apos) (e :: es) [] pos) X.env = (do
      let ov ← eval o X.env
      standAt apos.atName
      let (f, first) ← holding [ov] (getMethod ov m pl)
      callWith pos f first (backTo pos (starEach (e :: es) X.env)) (backToKw pos (keywordEach [] X.env))) := by rfl) :
    PE X (.Call (.Attribute o m apos) (e :: es) [] pos) (tMethE C m sp E ta t) := by
  obtain ⟨f, fd, hm, hb, F⟩ := c
  constructor
  intro pins s σ H Q I h
  refine PySem.W.methodCall_KW (pl := pl) (thn (ho.run pins s σ H _ I h) fun u s1 z1 => ?_) ht
  obtain ⟨x, H1, I1, rx, a, dx, fs, rfl, ea, l, q⟩ := z1
  cases rx
  refine getmeth_ok I1 ea cl hm l (PySem.W.callWith_K (first := [.ref a]) (h₀ := X.base) I.ok.mod.kin hm.kp (thn (ha.run pos pins s1 σ H1 _ I1 q) fun us s2 z2 => ?_) hst hpl)
  obtain ⟨vs, H2, I2, r, q2⟩ := z2
  exact ⟨I2.kIn, run_fnS (us := .ref a :: us) (vs := .ref a :: vs) F hr hb (hx σ) I2 (.cons rfl r) q2⟩
/-- nothing is raised at this call -/
theorem noE {X : Cx} : ∀ σ : L2.St, PassesAt (L2.CX X.prog X.w) X σ ((fun _ => E0) σ) := fun σ pins H s e s' I h => passL pins σ H s e s' I h
end
/-! ### C(..) whose __init__ may raise -/
def tMakeE (C : Addr) (sp : Sp) (E : L2.St → XK) (t : TA) : TE := fun σ H Q => t σ H fun vs H1 => ∀ x dx, H1 x = none → H1 dx = none → dx ≠ x → sp (.ref x :: vs) (upd (upd H1 dx (.own x)) x (.ins C dx [])) (fun v H2 => v = .non ∧ Q (.ref x) H2) (E σ)
theorem run_makeE {X : Cx} {k : Nat} {f C : Addr} {fd : FuncData} {ps : List PySem.Str} {sp : Sp} {E : XK} {pins : List (Addr × Obj)} {σ : L2.St} {H : Hp} {s : Shared} {Q : VK} {us : List Value} {vs : List V} (M : Mk X.K C f) (F : FnOk X.prog X.w X.K X.mg X.base (L2.CX X.prog X.w) k f fd ps sp) (hr : Room (k + 1) X.A) (hb : Binds X.K fd ps [])
    (hx : PassesAt (L2.CX X.prog X.w) X σ E) (I : Inv X pins σ H s) (r : Vals vs us)
    (h : ∀ x dx, H x = none → H dx = none → dx ≠ x → sp (.ref x :: vs) (upd (upd H dx (.own x)) x (.ins C dx [])) (fun v H2 => v = .non ∧ Q (.ref x) H2) E) :
    wpAny (model X.prog X.w) X.A (call (.ref C) us) (EP X pins σ Q) X.xe s := by
  have hq := h (s.heap.objs.size + 1) s.heap.objs.size (I.hok.fresh (Nat.le_succ _)) (I.hok.fresh (Nat.le_refl _)) (Nat.ne_of_lt (Nat.lt_succ_self _))
  have I2 := Inv.made (C := C) I
  have r2 : Vals (V.ref (s.heap.objs.size + 1) :: vs) (Value.ref (s.heap.objs.size + 1) :: us) := .cons rfl r
  have hl : (Value.ref (s.heap.objs.size + 1) :: us ++ []).length = ps.length := by
    have e := r2.length
    rw [F.len _ _ _ _ hq] at e
    rw [List.append_nil]
    exact e.symm
  have bt := hb _ (Value.ref (s.heap.objs.size + 1) :: us) I2.kIn hl
  rw [List.append_nil] at bt
  refine wpAny_call (make_map (f := f) I.kIn M.makes M.init (beq_iff_eq.mp M.fn) (codeAny_mono (F.run _ X.stack _ _ ⟨Value.ref (s.heap.objs.size + 1) :: us, []⟩ (Value.ref (s.heap.objs.size + 1) :: us) _ _ E (hr.make C us [])
    (I2.env0.make C us []) bt r2 hq) fun r s' hq' => ?_))
  cases r with
  | error e => exact hx pins _ _ e s' I2 hq'
  | ok fl =>
    cases fl with
    | ret u =>
      obtain ⟨v, H', I3, rv, ev, q3⟩ := I2.after hq'
      subst ev
      exact ⟨rv, ⟨V.ref (s.heap.objs.size + 1), H', I3, rfl, q3⟩⟩
    | next => exact False.elim hq'
    | brk => exact False.elim hq'
    | cont => exact False.elim hq'
section
variable {X : Cx} {k : Nat} {x : PySem.Str} {ps : List PySem.Str} {sp : Sp} {C : Addr} {p pos : Pos} {e : Expr} {es : List Expr} {t : TA} {E : L2.St → XK}
theorem pe_calIX (c : CalIX X.prog X.w X.K X.mg X.base C k x ps sp) (hr : Room (k + 1) X.A) (hg : Gl X x) (hx : ∀ σ, PassesAt (L2.CX X.prog X.w) X σ (E σ)) (ha : PA X (e :: es) t) (hdb : (x == ("__debug__" : PySem.Str)) = false := by decide)
    (he : starEach (e :: es) X.env = (false, eval e X.env) :: starEach es X.env := by rfl) (hpl : (backTo pos (starEach es X.env)).any (·.1) = false := by rfl) : PE X (.Call (.Name x p) (e :: es) [] pos) (tMakeE C sp E t) := by
  obtain ⟨f, fd, hm, M, hb, F⟩ := c
  refine ⟨fun pins s σ H Q I h => ?_⟩
  refine wpAny_Call_Name_kw (ld_glob I hg hm ?_ hdb)
  refine PySem.W.callWith_K (h₀ := X.base) I.ok.mod.kin M.kp (thn (ha.run pos pins s σ H _ I h) fun us s1 ⟨vs, H1, I1, r, q⟩ => ⟨I1.kIn, ?_⟩) he hpl
  exact run_makeE M F hr hb (hx σ) I1 r q
end
/-! ### an own error of one field -/
def spBadI (C : Addr) (f : PySem.Str) : Sp := fun vs H Q _ => ∃ (a : Addr) (v : V), vs = [.ref a, v] ∧ H a = some (exo a C none) ∧ ∀ d, H d = none → d ≠ a → Q .non (upd (upd H d (exd d [(f, v)])) a (exo a C (some d)))
theorem ok_badI {P : Program} {w : World} {K : PySem.W.Frag} {mg : PySem.Str → Option Value} {base : Heap} {st : Stmt} {f C : Addr} {fd : FuncData} {n q : PySem.Str} (F : Fun K "__init__" q st f fd) (T : OexB K C) (hno : PySem.W.findIn K (.ref C) n = some none)
    (sc : FnScope ["self", n] ["self", n] (defScope st))
    (bd : ∀ (cdv : Value) (A : Around) (outer : List Env) (s : Shared) (H : Hp) (Q : VK) (E : XK), PSs (cxOf CX0 P w K mg base ["self", n] q (defScope st) f cdv A outer s H E).nox (defBody st) (tOstB K n (tVar 0) (tVar 1))) : FnOk P w K mg base CX0 1 f fd ["self", n] (spBadI C n) := by
  refine F.ok sc (fun vs H Q E h => ?_) (fun cdv A outer s H vs Q E hr h => ?_)
  · obtain ⟨a, v, rfl, _⟩ := h
    rfl
  · obtain ⟨a, v, rfl, ha, k⟩ := h
    refine ⟨_, bd cdv A outer s H Q E, ?_⟩
    exact ⟨_, rfl, _, rfl, a, C, rfl, T, hno, .inl ⟨ha, k⟩⟩
theorem bad_heap {H : Hp} {a d : Addr} {o1 o2 o3 x : HO} (ha : H a = none) (ne : d ≠ a) : upd (del (upd (upd (upd H a o1) d o2) a o3) a) d x = upd H d x := by
  funext b
  by_cases h1 : b = d
  · rw [h1, upd_same, upd_same]
  · rw [upd_ne h1, upd_ne h1]
    by_cases h2 : b = a
    · rw [h2, del_same, ha]
    · rw [del_ne h2, upd_ne h2, upd_ne h1, upd_ne h2]
/-- C(v) -/
theorem mkB_one {C : Addr} {f : PySem.Str} {v : V} {H : Hp} {Q : XK} (q : ∀ d, H d = none → Q (.ref C) (some d) (upd H d (.xd [(f, v)]))) : [v].length ≤ 1000 ∧ ∀ a, H a = none → spBadI C f (.ref a :: [v]) (upd H a (exo a C none)) (fun v' H2 => v' = .non ∧
    ∃ (d : Addr) (fs : List (PySem.Str × V)), H2 a = some (exo a C (some d)) ∧ H2 d = some (exd d fs) ∧ H d = none ∧ Q (.ref C) (some d) (upd (del H2 a) d (.xd fs))) E0 := by
  refine ⟨by show 1 ≤ 1000; decide, fun a ha => ⟨a, v, rfl, upd_same, fun d hd ne => ⟨rfl, d, [(f, v)], upd_same, by rw [upd_ne ne, upd_same], by rw [upd_ne ne] at hd; exact hd, ?_⟩⟩⟩
  have hd0 : H d = none := by rw [upd_ne ne] at hd; exact hd
  rw [bad_heap ha ne]
  exact q d hd0
end Mc
namespace Mc
open PySem L2 PySem.Spec PyProof.Rows Evl
/-! comprehensions over any source; items that are new objects, told by a relation -/
section
variable {α : Type} {c : α → V} {ys : List α} {J : It} {n : Nat} {G : Hp → Prop} {te : TE} {vs : List Nat} {σ : L2.St} {H1 : Hp} {D : Addr} {Qd : Hp → Prop} {j : Nat} {tt : TT}
theorem prd_imp {α β : Type} {F G : α → β → Prop} (hFG : ∀ a b, F a b → G a b) : ∀ {xs : List α} {ys : List β}, Paired F xs ys → Paired G xs ys
  | _, _, .nil => .nil
  | _, _, .cons r t => .cons (hFG _ _ r) (prd_imp hFG t)
theorem prd_snoc {α β : Type} {F : α → β → Prop} : ∀ {xs : List α} {ys : List β} {x : α} {y : β}, Paired F xs ys → F x y → Paired F (xs ++ [x]) (ys ++ [y])
  | _, _, _, _, .nil, h => .cons h .nil
  | _, _, _, _, .cons r t, h => .cons r (prd_snoc t h)
theorem prd_get {α β : Type} {F : α → β → Prop} : ∀ {xs : List α} {ys : List β}, Paired F xs ys → ∀ {i : Nat} {x : α}, xs[i]? = some x → ∃ y, ys[i]? = some y ∧ F x y
  | _, _, .cons r t, 0, x, h => ⟨_, rfl, by cases Option.some.inj h; exact r⟩
  | _, _, .cons r t, i + 1, x, h => prd_get t (by simpa using h)
theorem prd_mem {α β : Type} {F : α → β → Prop} : ∀ {xs : List α} {ys : List β}, Paired F xs ys → ∀ {y : β}, y ∈ ys → ∃ x ∈ xs, F x y
  | _, _, .cons r t, y, h => (List.mem_cons.mp h).elim (fun e => ⟨_, .head _, e ▸ r⟩) fun h => by
    obtain ⟨x, hx, q⟩ := prd_mem t h
    exact ⟨x, .tail _ hx, q⟩
theorem lc_R (w : Walk J n G (YAt (ys.map c))) (p : α → Bool) (R : α → V → Hp → Prop) (per : ∀ y v H H', R y v H → Same H H' → R y v H') (hn : n = ys.length) (hD : H1 D = none) (hG : ∀ H', Same H1 H' → G H') (hz : ys.length ≤ sizeLine)
    (test : ∀ (i : Nat) (y : α) (H' : Hp) (k : Bool → Hp → Prop), ys[i]? = some y → Same H1 H' → (∀ H4, Same H' H4 → k (p y) H4) → tt ((wipe σ vs).set j (some (c y))) H' k)
    (turn : ∀ (i : Nat) (y : α) (H' : Hp) (k : VK), ys[i]? = some y → p y = true → Same H1 H' → (∀ v H4, Same H' H4 → R y v H4 → k v H4) → te ((wipe σ vs).set j (some (c y))) H' k)
    (hd : ∀ us H', Same H1 H' → H' D = some (.lst us) → Paired (fun y v => R y v H') (ys.filter p) us → Qd H') (hw : ∀ v, wipe ((wipe σ vs).set j (some v)) vs = wipe σ vs := by intro _; rfl)
    (perD : ∀ y v H u, R y v H → H D = some (.lst u) → ∀ u', R y v (upd H D (.lst u'))) :
    ∃ W : Nat → Nat → Hp → Prop, (∃ m, W 0 m (upd H1 D (.lst []))) ∧ ∀ i m H, W i m H →
      (J.stop i H ∧ Qd H) ∨ (J.go i H ∧ ∃ Nx : Hp → Prop, (∀ H', Nx H' → ∃ m', m' < m ∧ W (i + 1) m' H') ∧ ∀ x H', J.yld i H x H' → gName j x (wipe σ vs) H' fun σ2 H2 => wipe σ2 vs = wipe σ vs ∧ tt σ2 H2 fun b H3 =>
        if b = true then te σ2 H3 fun y H4 => ∃ acc, H4 D = some (.lst acc) ∧ acc.length < sizeLine ∧ Nx (upd H4 D (.lst (acc ++ [y]))) else Nx H3) := by
  refine lc_it w (fun i H' => Same H1 H' ∧ ∃ us, H' D = some (.lst us) ∧ Paired (fun y v => R y v H') ((ys.take i).filter p) us) ⟨Same.new hD, [], upd_same, .nil⟩ (fun i H' _ z => hG H' z.1) ?_ ?_
  · rintro i x H H' hi ⟨s1, us, d1, pr⟩ ⟨rfl, hx⟩
    rw [List.getElem?_map] at hx
    cases e : ys[i]? with
    | none => rw [e] at hx; cases hx
    | some y =>
      rw [e] at hx
      obtain rfl := Option.some.inj hx
      have et : (ys.take (i + 1)).filter p = (ys.take i).filter p ++ (if p y = true then [y] else []) := by
        rw [List.take_add_one, e, List.filter_append]
        show _ ++ [y].filter p = _
        rw [List.filter_cons]
        split <;> rfl
      refine ⟨hw _, test i y _ _ e s1 fun H3 s3 => ?_⟩
      by_cases hp : p y = true
      · rw [if_pos hp]
        refine turn i y _ _ e hp (s1.trans s3) fun v H4 s4 hv => ⟨us, s4 _ _ (s3 _ _ d1), ?_, ?_, us ++ [v], upd_same, ?_⟩
        · have h1 := List.length_filter_le p (ys.take i)
          have h3 : (ys.take i).length < ys.length := by
            have := (List.getElem?_eq_some_iff.mp e).1
            rw [List.length_take]; omega
          have := Paired.length pr
          omega
        · exact fun b o z => by
            have nb : b ≠ D := ne_of_none z hD
            rw [upd_ne nb]
            exact s4 _ _ (s3 _ _ (s1 _ _ z))
        · rw [et, if_pos hp]
          exact prd_snoc (prd_imp (fun y v h => perD _ _ _ _ (per _ _ _ _ (per _ _ _ _ h s3) s4) (s4 _ _ (s3 _ _ d1)) _) pr) (perD _ _ _ _ hv (s4 _ _ (s3 _ _ d1)) _)
      · rw [if_neg hp]
        refine ⟨s1.trans s3, us, s3 _ _ d1, ?_⟩
        rw [et, if_neg hp, List.append_nil]
        exact prd_imp (fun y v h => per _ _ _ _ h s3) pr
  · rintro H ⟨s1, us, d1, pr⟩
    subst hn
    rw [List.take_length] at pr
    exact hd us H s1 d1 pr
end
/-! ### sources -/
/-- what is walked: these values, and it stands while the heap grows -/
def EvI (wi : TI) (σ : L2.St) (H : Hp) (vals : List V) : Prop := ∀ H1, Ex H H1 → ∀ R : It → Hp → Prop, (∀ J G H2, Ex H1 H2 → Walk J vals.length G (YAt vals) → (∀ H', Ex H2 H' → G H') → R J H2) → wi σ H1 R
section
variable {K : PySem.W.Frag} {σ : L2.St} {H : Hp} {tl te : TE} {t : TT} {a : Addr} {vals : List V} {wi : TI} {Q : VK} {ta : TA}
theorem EvI.mono {H' : Hp} (e : Ex H H') (h : EvI wi σ H vals) : EvI wi σ H' vals := fun H1 a R r => h H1 (e.trans a) R r
theorem ei_L (hl : Ev tl σ H (.ref a)) (h : SqL K H a vals) : EvI (iList K tl) σ H vals := fun H1 e R r => hl H1 e _ fun H2 e2 => ⟨a, rfl, ⟨_, ex_l (e.trans e2) h⟩, r _ _ H2 e2 walk_list fun H' e3 => ex_l ((e.trans e2).trans e3) h⟩
theorem ei_T (hl : Ev tl σ H (.ref a)) (h : SqT K H a vals) : EvI (iTup K tl) σ H vals := fun H1 e R r => hl H1 e _ fun H2 e2 => ⟨a, rfl, ⟨_, ex_t (e.trans e2) h⟩, r _ _ H2 e2 walk_tup fun H' e3 => ex_t ((e.trans e2).trans e3) h⟩
/-- over a new list, a new tuple -/
theorem ei_N (hl : EvL tl σ H vals) : EvI (iList K tl) σ H vals := fun H1 e R r => hl H1 e _ fun p H2 _ e2 h2 => ⟨p, rfl, ⟨_, sq_of h2⟩, r _ _ H2 e2 walk_list fun H' e3 => sq_of (e3 _ _ h2)⟩
theorem ei_U (hl : EvU tl σ H vals) : EvI (iTup K tl) σ H vals := fun H1 e R r => hl H1 e _ fun p H2 _ e2 h2 => ⟨p, rfl, ⟨_, st_of h2⟩, r _ _ H2 e2 walk_tup fun H' e3 => st_of (e3 _ _ h2)⟩
theorem ei_K {β : Type} {g : β → V} {l : List (PySem.Str × β)} {o : Obj} (hl : Ev tl σ H (.ref a)) (h : H a = some (.frz o (.dK (kvT g l)))) : EvI (iKeys tl) σ H ((keysT l).map V.str) := fun H1 e R r => hl H1 e _ fun H2 e2 => ⟨a, o, rfl, .inl ⟨_, e2 _ _ (e _ _ h), r _ (fun H => H a = some (.frz o (.dK (kvT g l)))) H2 e2 (by rw [List.length_map]; unfold keysT; rw [List.length_map]; exact (show Walk _ _ _ _ from by have := walk_kT (g := g) (l := l) (d := a) (o := o); unfold keysT at this; rwa [List.length_map] at this)) fun H' e3 => e3 _ _ (e2 _ _ (e _ _ h))⟩⟩
theorem ei_r1 {n : Int} (h : EvA ta σ H [.int n]) (h0 : -(2 ^ 62) ≤ n) (h1 : n < 2 ^ 62) : EvI (iRng1 ta) σ H ((List.range n.toNat).map fun i => V.int (i : Nat)) := fun H1 e R r => h H1 e _ fun H2 e2 => ⟨n, rfl, h0, h1, r _ _ H2 e2 (by
  have := walk_rng (lo := 0) (n := n.toNat)
  simp only [Int.zero_add] at this
  rw [List.length_map, List.length_range]
  exact this) fun _ _ => trivial⟩
theorem ei_r2 {lo hi : Int} (h : EvA ta σ H [.int lo, .int hi]) (b : -(2 ^ 62) ≤ lo ∧ lo < 2 ^ 62 ∧ -(2 ^ 62) ≤ hi ∧ hi < 2 ^ 62) : EvI (iRng2 ta) σ H ((List.range (hi - lo).toNat).map fun i => V.int (lo + (i : Nat))) := fun H1 e R r => h H1 e _ fun H2 e2 => ⟨lo, hi, rfl, b, r _ _ H2 e2 (by rw [List.length_map, List.length_range]; exact walk_rng) fun _ _ => trivial⟩
variable {α : Type} {ys : List α} {j : Nat} {vs : List Nat} {c : α → V}
theorem el_mI (f : α → V) (hi : EvI wi σ H (ys.map c)) (hz : ys.length ≤ 100000) (turn : ∀ (i : Nat) y, ys[i]? = some y → ∀ H', Ex H H' → Ev te ((wipe σ vs).set j (some (c y))) H' (f y)) (hw : ∀ v, wipe ((wipe σ vs).set j (some v)) vs = wipe σ vs := by intro _; rfl) :
    EvL (tLc wi (gName j) tYes te vs) σ H (ys.map f) := fun H1 e Q q => hi H1 e _ fun J G H2 e2 w hG D hD =>
  lc_m (j := j) (c := c) (ys := ys) w f (by rw [List.length_map]) hD hG (sz_of hz) (fun i y H' k hy s hk => turn i y hy H' ((e.trans e2).trans s) H' (Ex.refl _) k hk) (fun H' s hD' => q D H' (fresh_back e2 hD) (e2.trans s) hD') hw
theorem el_fI (p : α → Bool) (f : α → V) (hi : EvI wi σ H (ys.map c)) (hz : ys.length ≤ 100000) (test : ∀ (i : Nat) y, ys[i]? = some y → ∀ H', Ex H H' → EvT t ((wipe σ vs).set j (some (c y))) H' (p y))
    (turn : ∀ (i : Nat) y, ys[i]? = some y → p y = true → ∀ H', Ex H H' → Ev te ((wipe σ vs).set j (some (c y))) H' (f y)) (hw : ∀ v, wipe ((wipe σ vs).set j (some v)) vs = wipe σ vs := by intro _; rfl) :
    EvL (tLc wi (gName j) t te vs) σ H ((ys.filter p).map f) := fun H1 e Q q => hi H1 e _ fun J G H2 e2 w hG D hD =>
  lc_f (j := j) (c := c) (ys := ys) w p f (by rw [List.length_map]) hD hG (sz_of hz) (fun i y H' k hy s hk => test i y hy H' ((e.trans e2).trans s) H' (Ex.refl _) k hk) (fun i y H' k hy hp s hk => turn i y hy hp H' ((e.trans e2).trans s) H' (Ex.refl _) k hk) (fun H' s hD' => q D H' (fresh_back e2 hD) (e2.trans s) hD') hw
/-- a value that has some property behind it -/
def EvP (te : TE) (σ : L2.St) (H : Hp) (P : V → Hp → Prop) : Prop := ∀ H1, Ex H H1 → ∀ Q : VK, (∀ v H2, Ex H1 H2 → P v H2 → Q v H2) → te σ H1 Q
theorem EvU.p {xs : List V} (h : EvU te σ H xs) : EvP te σ H fun v H' => ∃ p, v = .ref p ∧ H' p = some (.tup xs) := fun H1 e Q q => h H1 e _ fun p H2 _ e2 h2 => q _ H2 e2 ⟨p, rfl, h2⟩
theorem EvL.p {xs : List V} (h : EvL te σ H xs) : EvP te σ H fun v H' => ∃ p, v = .ref p ∧ H' p = some (.lst xs) := fun H1 e Q q => h H1 e _ fun p H2 _ e2 h2 => q _ H2 e2 ⟨p, rfl, h2⟩
/-- a new list whose items are told by a relation -/
theorem el_RI (p : α → Bool) (R : α → V → Hp → Prop) (per : ∀ y v H H', R y v H → Same H H' → R y v H') (perD : ∀ y v H D u, R y v H → H D = some (.lst u) → (∀ y' v', R y' v' H → True) → ∀ u', R y v (upd H D (.lst u')))
    (hi : EvI wi σ H (ys.map c)) (hz : ys.length ≤ 100000) (test : ∀ (i : Nat) y, ys[i]? = some y → ∀ H', Ex H H' → EvT t ((wipe σ vs).set j (some (c y))) H' (p y))
    (turn : ∀ (i : Nat) y, ys[i]? = some y → p y = true → ∀ H', Ex H H' → EvP te ((wipe σ vs).set j (some (c y))) H' (R y)) (hw : ∀ v, wipe ((wipe σ vs).set j (some v)) vs = wipe σ vs := by intro _; rfl) :
    ∀ H1, Ex H H1 → ∀ Q : VK, (∀ D us H2, H1 D = none → Ex H1 H2 → H2 D = some (.lst us) → Paired (fun y v => R y v H2) (ys.filter p) us → Q (.ref D) H2) → tLc wi (gName j) t te vs σ H1 Q := fun H1 e Q q => hi H1 e _ fun J G H2 e2 w hG D hD =>
  lc_R (j := j) (c := c) (ys := ys) w p R per (by rw [List.length_map]) hD hG (sz_of hz) (fun i y H' k hy s hk => test i y hy H' ((e.trans e2).trans s) H' (Ex.refl _) k hk) (fun i y H' k hy hp s hk => turn i y hy hp H' ((e.trans e2).trans s) H' (Ex.refl _) k fun v H4 e4 hr => hk v H4 e4 hr)
    (fun us H' s hD' pr => q D us H' (fresh_back e2 hD) (e2.trans s) hD' pr) hw fun y v H u hr hu u' => perD y v H D u hr hu (fun _ _ _ => trivial) u'
/-- new tuples of values -/
def NewTup {α : Type} (f : α → List V) : α → V → Hp → Prop := fun y v H => ∃ p, v = .ref p ∧ H p = some (.tup (f y))
theorem el_uI (p : α → Bool) (f : α → List V) (hi : EvI wi σ H (ys.map c)) (hz : ys.length ≤ 100000) (test : ∀ (i : Nat) y, ys[i]? = some y → ∀ H', Ex H H' → EvT t ((wipe σ vs).set j (some (c y))) H' (p y))
    (turn : ∀ (i : Nat) y, ys[i]? = some y → p y = true → ∀ H', Ex H H' → EvU te ((wipe σ vs).set j (some (c y))) H' (f y)) (hw : ∀ v, wipe ((wipe σ vs).set j (some v)) vs = wipe σ vs := by intro _; rfl) :
    ∀ H1, Ex H H1 → ∀ Q : VK, (∀ D us H2, H1 D = none → Ex H1 H2 → H2 D = some (.lst us) → Paired (fun y v => NewTup f y v H2) (ys.filter p) us → Q (.ref D) H2) → tLc wi (gName j) t te vs σ H1 Q :=
  el_RI p (NewTup f) (fun y v H H' ⟨q, e, h⟩ s => ⟨q, e, s _ _ h⟩) (fun y v H D u ⟨q, e, h⟩ hu _ u' => ⟨q, e, by rw [upd_ne fun z => by rw [z, hu] at h; cases h]; exact h⟩) hi hz test (fun i y hy hp H' e => EvU.p (turn i y hy hp H' e)) hw
theorem et_yes : EvT tYes σ H true := fun H1 _ Q q => q H1 (Ex.refl _)
end
end Mc
namespace Mc
open PySem L2 PySem.Spec PyProof.Rows Evl
/-! dicts made of rows of pairs -/
def rDictP (K : PySem.W.Frag) : List V → Hp → VK → Prop := fun xs H Q => ∃ (a : Addr) (ps : List Addr) (kvs : List (L2.Key × V)), xs = [.ref a] ∧ SqL K H a (ps.map V.ref) ∧ Paired (fun p kv => SqT K H p [kV kv.1, kv.2]) ps kvs ∧ ∀ p, H p = none → Q (.ref p) (upd H p (.dK (mergeK [] kvs)))
theorem call_dictPK {X : Cx} {K : PySem.W.Frag} (h : X.K = K) (hc : X.calm = true) : CallR X (.type "dict") (rDictP K) := by
  subst h
  exact call_dictP hc
theorem tups_of {α : Type} {K : PySem.W.Frag} {H : Hp} {f : α → List V} {g : α → L2.Key × V} (e : ∀ y, f y = [kV (g y).1, (g y).2]) : ∀ {ys : List α} {us : List V}, Paired (fun y v => NewTup f y v H) ys us → ∃ ps : List Addr, us = ps.map V.ref ∧ Paired (fun p kv => SqT K H p [kV kv.1, kv.2]) ps (ys.map g)
  | _, _, .nil => ⟨[], rfl, .nil⟩
  | _, _, .cons ⟨p, ep, hp⟩ t => by
    obtain ⟨ps, e1, e2⟩ := tups_of e t
    exact ⟨p :: ps, by rw [ep, e1]; rfl, .cons (SqT.of (by rw [← e]; exact hp)) e2⟩
/-- a new list of new tuples -/
def EvUs {α : Type} (te : TE) (σ : L2.St) (H : Hp) (f : α → List V) (ys : List α) : Prop := ∀ H1, Ex H H1 → ∀ Q : VK, (∀ D us H2, H1 D = none → Ex H1 H2 → H2 D = some (.lst us) → Paired (fun y v => NewTup f y v H2) ys us → Q (.ref D) H2) → te σ H1 Q
section
variable {K : PySem.W.Frag} {σ : L2.St} {H : Hp} {te : TE} {a : Addr} {α : Type} {f : α → List V} {ys : List α}
theorem us_lock {kvs : List (L2.Key × V)} (h : H a = some (.dK kvs)) (k : ∀ od, EvUs te σ (upd H a (.frz od (.dK kvs))) f ys) : EvUs (tLockE te) σ H f ys := fun H1 e Q q => by
  have h1 := e _ _ h
  refine ⟨a, _, h1, trivial, fun od => ?_⟩
  have e1 : Ex (upd H a (.frz od (.dK kvs))) (upd H1 a (.frz od (.dK kvs))) := fun b o z => by
    by_cases nb : b = a
    · rw [nb, upd_same] at z ⊢; exact z
    · rw [upd_ne nb] at z ⊢; exact e _ _ z
  refine k od _ e1 _ fun p us H2 hp e2 h2 pr => ?_
  have na : p ≠ a := fun z => by rw [z, upd_same] at hp; cases hp
  have fa : H2 a = some (.frz od (.dK kvs)) := e2 _ _ upd_same
  refine ⟨fa, q p us _ (by rw [upd_ne na] at hp; exact hp) (fun b o z => ?_) (by rw [upd_ne na]; exact h2) (prd_imp (fun y v ⟨g, eg, hg⟩ => ⟨g, eg, by rw [upd_ne fun z => by rw [z, fa] at hg; cases hg]; exact hg⟩) pr)⟩
  by_cases nb : b = a
  · rw [nb, h1] at z; rw [nb, upd_same]; exact z
  · rw [upd_ne nb]; exact e2 _ _ (by rw [upd_ne nb]; exact z)
theorem ed_pairs {g : α → L2.Key × V} (e : ∀ y, f y = [kV (g y).1, (g y).2]) (h : EvUs te σ H f ys) {kvs : List (L2.Key × V)} (hk : mergeK [] (ys.map g) = kvs) : EvD (tCB (rDictP K) (tCons te tNil)) σ H kvs := fun H1 e1 Q q =>
  h H1 e1 _ fun D us H2 hD e2 h2 pr => by
    obtain ⟨ps, rfl, pp⟩ := tups_of (K := K) e pr
    refine ⟨D, ps, _, rfl, SqL.of h2, pp, fun p hp => ?_⟩
    rw [hk]
    exact q p _ (fresh_back e2 hp) (e2.trans (Ex.new hp)) upd_same
theorem EvD.go1 {kvs : List (L2.Key × V)} {Q : VK} (h : EvD te σ H kvs) (k : ∀ p H2, H p = none → Ex H H2 → H2 p = some (.dK kvs) → Q (.ref p) H2) : te σ H Q := h H (Ex.refl H) Q k
theorem q_asgD {tz : TS} {D : Ends} {i : Nat} {kvs : List (L2.Key × V)} (h : EvD te σ H kvs) (k : ∀ p H1, H p = none → Ex H H1 → H1 p = some (.dK kvs) → tz D (σ.set i (some (.ref p))) H1) : tSeq (tAsg te (gName i)) tz D σ H := h H (Ex.refl H) _ fun p H1 hp e h1 => k p H1 hp e h1
theorem q_asgP {te : TE} {tz : TS} {D : Ends} {σ : L2.St} {H : Hp} {i : Nat} {P : V → Hp → Prop} (h : EvP te σ H P) (k : ∀ v H1, Ex H H1 → P v H1 → tz D (σ.set i (some v)) H1) : tSeq (tAsg te (gName i)) tz D σ H := h H (Ex.refl H) _ k
/-- a copy of a dict -/
theorem ed_copy {r : List V → Hp → VK → Prop} {kvs : List (L2.Key × V)} (hr : r = fun xs H Q => ∃ (a : Addr) (kvs : List (L2.Key × V)), xs = [.ref a] ∧ Rd H a (.dK kvs) ∧ ∀ p, H p = none → Q (.ref p) (upd H p (.dK kvs))) (h : Ev te σ H (.ref a)) (hd : Rd H a (.dK kvs)) : EvD (tCB r (tCons te tNil)) σ H kvs := by
  subst hr
  exact fun H1 e1 Q q => h H1 e1 _ fun H2 e2 => ⟨a, kvs, rfl, ex_rd (e1.trans e2) hd, fun p hp => q p _ (fresh_back e2 hp) (e2.trans (Ex.new hp)) upd_same⟩
end
theorem prd_len {α β : Type} {F : α → β → Prop} : ∀ {xs : List α} {ys : List β}, Paired F xs ys → ys.length = xs.length
  | _, _, .nil => rfl
  | _, _, .cons _ t => by rw [List.length_cons, List.length_cons, prd_len t]
theorem us_items {β : Type} {K : PySem.W.Frag} {σ : L2.St} {H : Hp} {te : TE} {a : Addr} {g : β → V} {l : List (PySem.Str × β)} {o : Obj} {f : PySem.Str × β → List V} {i j : Nat} {vs : List Nat} {tl : TE} (hl : Ev tl σ H (.ref a)) (h : H a = some (.frz o (.dK (kvT g l)))) (hz : l.length < 100000)
    (turn : ∀ (k : Nat) y, l[k]? = some y → ∀ H', Ex H H' → EvU te (((wipe σ vs).set i (some (.str y.1))).set j (some (g y.2))) H' (f y)) (hw : ∀ u v, wipe (((wipe σ vs).set i (some u)).set j (some v)) vs = wipe σ vs := by intro _ _; rfl) :
    EvUs (tLc (iItems tl) (gTup K 2 (gCons (gName i) (gCons (gName j) gNil))) tYes te vs) σ H f l := fun H1 e Q q => hl H1 e _ fun H2 e2 => ⟨a, o, _, rfl, e2 _ _ (e _ _ h), fun D hD => by
  refine lc_it walk_items (fun n H' => ∃ us, Ex H2 H' ∧ H' D = some (.lst us) ∧ Paired (fun y v => NewTup f y v H') (l.take n) us) ⟨[], Ex.new hD, upd_same, .nil⟩ (fun n H' _ p => by obtain ⟨us, s, _⟩ := p; exact s _ _ (e2 _ _ (e _ _ h))) ?_ ?_
  · rintro n x H5 H6 hn ⟨us, s5, hD5, pr⟩ ⟨T5, x1, x2, rfl, hT5, rfl, ex, ey⟩
    obtain ⟨z, hz', rfl, rfl⟩ : ∃ z, l[n]? = some z ∧ x1 = V.str z.1 ∧ x2 = g z.2 := by
      replace ex : ((kvT g l)[n]?.map fun kv => kV kv.1) = some x1 := ex
      replace ey : ((kvT g l)[n]?.map Prod.snd) = some x2 := ey
      unfold kvT at ex ey
      rw [List.getElem?_map] at ex ey
      cases e : l[n]? with
      | none => rw [e] at ex; cases ex
      | some z => rw [e] at ex ey; exact ⟨z, rfl, (Option.some.inj ex).symm, (Option.some.inj ey).symm⟩
    have s6 := Ex.new (o := .tup [.str z.1, g z.2]) hT5
    refine ⟨T5, [.str z.1, g z.2], rfl, SqT.of upd_same, rfl, _, _, rfl, _, _, rfl, rfl, hw _ _, yes_ite ?_⟩
    refine turn n z hz' _ (((e.trans e2).trans s5).trans s6) _ (Ex.refl _) _ fun p H7 hp x7 h7 => ?_
    have hD7 := x7 _ _ (s6 _ _ hD5)
    have ext : ∀ b o, H5 b = some o → b ≠ D → (upd H7 D (.lst (us ++ [.ref p]))) b = some o := fun b o z n => by rw [upd_ne n]; exact x7 _ _ (s6 _ _ z)
    refine ⟨us, hD7, ?_, us ++ [.ref p], fun b o z => ext b o (s5 _ _ z) (ne_of_none z hD), upd_same, ?_⟩
    · rw [prd_len pr, List.length_take]
      exact sz_lt (by omega)
    · rw [List.take_add_one, hz']
      refine prd_snoc (prd_imp (fun y v ⟨r, er, hr⟩ => ⟨r, er, ext _ _ hr fun z => by rw [z, hD5] at hr; cases hr⟩) pr) ⟨p, rfl, ?_⟩
      rw [upd_ne fun z => by rw [z, hD7] at h7; cases h7]; exact h7
  · rintro H5 ⟨us, s5, hD5, pr⟩
    rw [show (kvT g l).length = l.length by unfold kvT; rw [List.length_map], List.take_length] at pr
    exact q D us H5 (fresh_back e2 hD) (e2.trans s5) hD5 pr⟩
theorem q_two {t : TT} {tu tz : TS} {D : Ends} {σ : L2.St} {H : Hp} (R : L2.St → Hp → Prop) (tail : ∀ σ' H', R σ' H' → tz D σ' H') (b : (∀ σ' H', R σ' H' → tz D σ' H') → tIfS t tu tNext { D with nx := tz D } σ H) : tSeq (tIfS t tu tNext) tz D σ H := b tail
theorem kv_filter {β : Type} {f : β → V} {l : List (PySem.Str × β)} (nd : (keysT l).Nodup) (p : PySem.Str → Bool) (z : β) : ((keysT l).filter p).map (fun y => ((Sum.inr y : L2.Key), f ((getT l y).getD z))) = kvT f (l.filter fun x => p x.1) := by
  unfold kvT keysT
  rw [List.filter_map, List.map_map]
  refine List.map_congr_left fun x hx => ?_
  have hx' := (List.mem_filter.mp hx).1
  show ((Sum.inr x.1 : L2.Key), f ((getT l x.1).getD z)) = _
  rw [getT_mem nd (v := x.2) hx']
  rfl
end Mc
namespace Mc
section
variable {α : Type} [DecidableEq α]
/-! fewest moves: potentials that show it -/
/-- potentials (prices) of a seating: none where there is room, and nobody would rather sit elsewhere -/
structure Pot (X : Sc α) (S : SM α) (mc : α → α → Int) (q : α → Int) : Prop where
  nn : ∀ m, 0 ≤ q m
  zero : ∀ m, (S.on m).length < X.cap m → q m = 0
  slack : ∀ c m, S.pos c = some m → ∀ m' ∈ X.heard c, q m + mc c m ≤ q m' + mc c m'
def isum (L : List α) (f : α → Int) : Int := (L.map f).sum
theorem isum_nil (f : α → Int) : isum ([] : List α) f = 0 := rfl
theorem isum_cons (a : α) (L : List α) (f : α → Int) : isum (a :: L) f = f a + isum L f := by unfold isum; rw [List.map_cons, List.sum_cons]
theorem isum_le {L : List α} {f g : α → Int} (h : ∀ a ∈ L, f a ≤ g a) : isum L f ≤ isum L g := by
  induction L with
  | nil => exact Int.le_refl _
  | cons a L ih =>
    rw [isum_cons, isum_cons]
    have := h a (.head _)
    have := ih fun x hx => h x (.tail _ hx)
    omega
theorem isum_congr {L : List α} {f g : α → Int} (h : ∀ a ∈ L, f a = g a) : isum L f = isum L g := by unfold isum; rw [List.map_congr_left h]
theorem isum_add (L : List α) (f g : α → Int) : isum L (fun a => f a + g a) = isum L f + isum L g := by
  induction L with
  | nil => rfl
  | cons a L ih => rw [isum_cons, isum_cons, isum_cons, ih]; omega
theorem isum_sub (L : List α) (f g : α → Int) : isum L (fun a => f a - g a) = isum L f - isum L g := by
  induction L with
  | nil => rfl
  | cons a L ih => rw [isum_cons, isum_cons, isum_cons, ih]; omega
theorem isum_zero (L : List α) : isum L (fun _ => 0) = 0 := by
  induction L with
  | nil => rfl
  | cons a L ih => rw [isum_cons, ih]; rfl
theorem isum_perm {L L' : List α} (p : L.Perm L') (f : α → Int) : isum L f = isum L' f := by
  induction p with
  | nil => rfl
  | cons x _ ih => rw [isum_cons, isum_cons, ih]
  | swap x y l => rw [isum_cons, isum_cons, isum_cons, isum_cons]; omega
  | trans _ _ a b => exact a.trans b
/-- how many are seated at m -/
def at1 (L : List α) (T : α → α) (m : α) : Int := ((L.filter fun c => decide (T c = m)).length : Nat)
theorem isum_if {R : List α} (nR : R.Nodup) {x : α} (hx : x ∈ R) (q : α → Int) : isum R (fun m => q m * (if x = m then 1 else 0)) = q x := by
  induction R with
  | nil => cases hx
  | cons r R ih =>
    obtain ⟨n1, n2⟩ := List.nodup_cons.mp nR
    rw [isum_cons]
    rcases List.mem_cons.mp hx with e | h
    · subst e
      rw [if_pos rfl, isum_congr (g := fun _ => 0) fun a ha => by rw [if_neg (fun z : x = a => n1 (z ▸ ha)), Int.mul_zero], isum_zero]
      omega
    · rw [if_neg (fun z : x = r => n1 (z ▸ h)), Int.mul_zero, ih n2 h]; omega
theorem at1_cons (a : α) (L : List α) (T : α → α) (m : α) : at1 (a :: L) T m = (if T a = m then 1 else 0) + at1 L T m := by
  unfold at1
  rw [List.filter_cons]
  by_cases e : T a = m
  · simp [e]; omega
  · simp [e]
/-- the sum over calls, mast by mast -/
theorem isum_masts {R : List α} (nR : R.Nodup) (q : α → Int) (T : α → α) : ∀ L : List α, (∀ c ∈ L, T c ∈ R) → isum L (fun c => q (T c)) = isum R fun m => q m * at1 L T m
  | [], _ => by
    rw [isum_nil, isum_congr (g := fun _ => 0) fun a _ => by show q a * 0 = 0; exact Int.mul_zero _, isum_zero]
  | a :: L, h => by
    rw [isum_cons, isum_masts nR q T L fun c hc => h c (.tail _ hc)]
    have e : isum R (fun m => q m * at1 (a :: L) T m) = isum R (fun m => q m * (if T a = m then 1 else 0)) + isum R fun m => q m * at1 L T m := by
      rw [← isum_add]
      exact isum_congr fun m _ => by rw [at1_cons, Int.mul_add]
    rw [e, isum_if nR (h a (.head _))]
/-- the seating as a function -/
def SM.at_ (S : SM α) (c : α) : α := (S.pos c).getD c
theorem SOk.at_eq {X : Sc α} {S : SM α} {names : List α} (O : SOk X S names) {c : α} (h : c ∈ names) : S.pos c = some (S.at_ c) := by
  obtain ⟨m, e⟩ := (O.dom c).mpr h
  unfold SM.at_
  rw [e]; rfl
theorem SOk.right {X : Sc α} {S : SM α} {names : List α} (O : SOk X S names) (nd : names.Nodup) : Right X names S.at_ := by
  refine ⟨fun c hc => O.hd c _ ((O.mem c _).mp (O.at_eq hc)), fun m => Nat.le_trans (len_sub (nd.filter _) fun c hc => ?_) (O.cap m)⟩
  obtain ⟨h1, h2⟩ := List.mem_filter.mp hc
  have := O.at_eq h1
  rw [of_decide_eq_true h2] at this
  exact (O.mem c m).mp this
theorem SOk.at1 {X : Sc α} {S : SM α} {names : List α} (O : SOk X S names) (nd : names.Nodup) (m : α) : Mc.at1 names S.at_ m = ((S.on m).length : Nat) := by
  have h1 : (names.filter fun c => decide (S.at_ c = m)).length ≤ (S.on m).length := len_sub (nd.filter _) fun c hc => by
    obtain ⟨h1, h2⟩ := List.mem_filter.mp hc
    have := O.at_eq h1
    rw [of_decide_eq_true h2] at this
    exact (O.mem c m).mp this
  have h2 : (S.on m).length ≤ (names.filter fun c => decide (S.at_ c = m)).length := len_sub (O.nd m) fun c hc => by
    have e := (O.mem c m).mpr hc
    have hn := (O.dom c).mp ⟨m, e⟩
    have e2 := O.at_eq hn
    rw [e] at e2
    exact List.mem_filter.mpr ⟨hn, decide_eq_true (Option.some.inj e2).symm⟩
  unfold Mc.at1
  omega
/-- what prices show: no seating costs less than the least prices less what all channels cost -/
theorem weak_dual {X : Sc α} {names R : List α} {T : α → α} {mc : α → α → Int} {q : α → Int} (nR : R.Nodup) (hT : Right X names T) (hTR : ∀ c ∈ names, T c ∈ R) (hq : ∀ m, 0 ≤ q m) {lp : α → Int} (hl : ∀ c ∈ names, ∀ m ∈ X.heard c, lp c ≤ q m + mc c m) :
    isum names lp - isum R (fun m => q m * (X.cap m : Nat)) ≤ isum names fun c => mc c (T c) := by
  have a : isum names lp ≤ isum names fun c => q (T c) + mc c (T c) := isum_le fun c hc => hl c hc _ (hT.1 c hc)
  rw [isum_add] at a
  rw [isum_masts nR q T names hTR] at a
  have b : isum R (fun m => q m * Mc.at1 names T m) ≤ isum R fun m => q m * (X.cap m : Nat) := isum_le fun m _ => Int.mul_le_mul_of_nonneg_left (by unfold Mc.at1; exact Int.ofNat_le.mpr (hT.2 m)) (hq m)
  omega
/-- potentials tell just what the seating costs -/
theorem Pot.tight {X : Sc α} {S : SM α} {names R : List α} {mc : α → α → Int} {q : α → Int} (P : Pot X S mc q) (O : SOk X S names) (nd : names.Nodup) (nR : R.Nodup) (hR : ∀ c ∈ names, S.at_ c ∈ R) {lp : α → Int} (hl : ∀ c ∈ names, lp c = q (S.at_ c) + mc c (S.at_ c)) :
    isum names lp - isum R (fun m => q m * (X.cap m : Nat)) = isum names fun c => mc c (S.at_ c) := by
  rw [isum_congr hl, isum_add, isum_masts nR q S.at_ names hR]
  have b : isum R (fun m => q m * Mc.at1 names S.at_ m) = isum R fun m => q m * (X.cap m : Nat) := isum_congr fun m _ => by
    rw [O.at1 nd]
    by_cases h : (S.on m).length < X.cap m
    · rw [P.zero m h, Int.zero_mul, Int.zero_mul]
    · rw [show (S.on m).length = X.cap m by have := O.cap m; omega]
  omega
theorem Pot.least {X : Sc α} {S : SM α} {names R : List α} {mc : α → α → Int} {q : α → Int} (P : Pot X S mc q) (O : SOk X S names) (nd : names.Nodup) (nR : R.Nodup) (hR : ∀ c ∈ names, ∀ m ∈ X.heard c, m ∈ R) {T : α → α} (hT : Right X names T) : isum names (fun c => mc c (S.at_ c)) ≤ isum names fun c => mc c (T c) := by
  have hS := O.right nd
  have t := P.tight (lp := fun c => q (S.at_ c) + mc c (S.at_ c)) O nd nR (fun c hc => hR c hc _ (hS.1 c hc)) fun c _ => rfl
  have w := weak_dual (mc := mc) (lp := fun c => q (S.at_ c) + mc c (S.at_ c)) nR hT (fun c hc => hR c hc _ (hT.1 c hc)) P.nn fun c hc m hm => P.slack c _ (O.at_eq hc) m hm
  omega
/-! a way along which one more is seated -/
/-- from the end to the start: masts, and who goes there -/
inductive Rt (X : Sc α) (S : SM α) (c : α) : List (α × α) → Prop
  | root {m : α} : m ∈ X.heard c → Rt X S c [(m, c)]
  | step {m y m' y' : α} {R : List (α × α)} : Rt X S c ((m', y') :: R) → S.pos y = some m' → m ∈ X.heard y → m ∉ ((m', y') :: R).map (·.1) → Rt X S c ((m, y) :: (m', y') :: R)
theorem Rt.nodup {X : Sc α} {S : SM α} {c : α} {R : List (α × α)} (h : Rt X S c R) : (R.map (·.1)).Nodup := by
  induction h with
  | root _ => simp
  | step hr hp hm hn ih => rw [List.map_cons]; exact List.nodup_cons.mpr ⟨hn, ih⟩
theorem Rt.hd {X : Sc α} {S : SM α} {c : α} {R : List (α × α)} (h : Rt X S c R) : ∀ p ∈ R, p.1 ∈ X.heard p.2 := by
  induction h with
  | root hm => intro p hp; rw [List.mem_singleton.mp hp]; exact hm
  | step hr hp hm hn ih =>
    intro p hp
    rcases List.mem_cons.mp hp with rfl | hp
    · exact hm
    · exact ih p hp
/-- what holds ahead of each move -/
structure Ldg (X : Sc α) (S S' : SM α) (names : List α) (c m y : α) (R F : List (α × α)) : Prop where
  rt : Rt X S c ((m, y) :: R)
  sub : ∀ p ∈ (m, y) :: R, p ∈ F
  ok0 : SOk X S names
  c0 : c ∉ names
  ok : SOk X S' names
  room : (S'.on m).length < X.cap m
  same : ∀ x ∈ R.map (·.1), S'.on x = S.on x
  lens : ∀ x, x ≠ m → (S.on x).length ≤ (S'.on x).length
  len1 : (S.on m).length ≤ (S'.on m).length + 1
  pos : ∀ z m0, S'.pos z = some m0 → (m0, z) ∈ F ∨ S.pos z = some m0
theorem put_on {S : SM α} (y m x : α) (h : x ≠ m) (hy : S.pos y ≠ some x) : (S.put y m).on x = S.on x := by
  show (if x = m then S.rm y x ++ [y] else S.rm y x) = _
  rw [if_neg h]
  unfold SM.rm
  rw [if_neg hy]
theorem put_on_eq {X : Sc α} {S : SM α} {names : List α} (O : SOk X S names) {y m : α} (hy : S.pos y ≠ some m) : ((S.put y m).on m).length = (S.on m).length + 1 := by
  show (if m = m then S.rm y m ++ [y] else S.rm y m).length = _
  rw [if_pos rfl]
  unfold SM.rm
  rw [if_neg hy]; simp
theorem put_on_from {X : Sc α} {S : SM α} {names : List α} (O : SOk X S names) {y m x : α} (h : x ≠ m) (hy : S.pos y = some x) : ((S.put y m).on x).length + 1 = (S.on x).length := by
  show (if x = m then S.rm y x ++ [y] else S.rm y x).length + 1 = _
  rw [if_neg h]
  unfold SM.rm
  have hm := (O.mem y x).mp hy
  rw [if_pos hy, List.length_erase_of_mem hm]
  have := List.length_pos_of_mem hm
  omega
theorem put_pos (S : SM α) (y m z : α) : (S.put y m).pos z = if z = y then some m else S.pos z := rfl
theorem Ldg.step {X : Sc α} {S S' : SM α} {names : List α} {c m y m' y' : α} {R F : List (α × α)} (h : Ldg X S S' names c m y ((m', y') :: R) F) : S.pos y = some m' ∧ m ∈ X.heard y ∧ Ldg X S (S'.put y m) names c m' y' R F := by
  cases h.rt with
  | step hr hp hm hn =>
    have nd := h.rt.nodup
    have hn' : m ∉ ((m', y') :: R).map (·.1) := hn
    have nmm : m' ≠ m := fun e => hn' (by rw [← e]; simp)
    have e1 := h.same m' (by simp)
    have hy : y ∈ S'.on m' := by rw [e1]; exact (h.ok0.mem y m').mp hp
    have py : S'.pos y = some m' := (h.ok.mem y m').mpr hy
    have yn : y ∈ names := (h.ok.dom y).mp ⟨m', py⟩
    have npy : ∀ x, x ≠ m' → S'.pos y ≠ some x := fun x hx z => by rw [py] at z; exact hx (Option.some.inj z).symm
    refine ⟨hp, hm, hr, fun p hp => h.sub p (.tail _ hp), h.ok0, h.c0, h.ok.put hm h.room fun x => ⟨fun z => .inr z, fun z => z.elim (fun e => by rw [e]; exact yn) id⟩, ?_, fun x hx => ?_, fun x hx => ?_, ?_, fun z m0 hz => ?_⟩
    · have := put_on_from h.ok nmm py
      have := h.ok.cap m'
      omega
    · have xm : x ≠ m := fun e => hn' (by rw [← e, List.map_cons]; exact .tail _ hx)
      have xm' : x ≠ m' := fun e => by
        have nd2 := (List.nodup_cons.mp nd).2
        rw [List.map_cons] at nd2
        exact (List.nodup_cons.mp nd2).1 (by rw [← e]; exact hx)
      rw [put_on y m x xm (npy x xm')]
      exact h.same x (by rw [List.map_cons]; exact .tail _ hx)
    · by_cases xm : x = m
      · subst xm
        have := put_on_eq h.ok (npy x hx)
        have := h.len1
        omega
      · rw [put_on y m x xm (npy x hx)]; exact h.lens x xm
    · have := put_on_from h.ok nmm py
      rw [e1] at this
      omega
    · rw [put_pos] at hz
      by_cases e : z = y
      · rw [if_pos e] at hz
        rw [e, ← Option.some.inj hz]
        exact .inl (h.sub _ (.head _))
      · rw [if_neg e] at hz; exact h.pos z m0 hz
/-- the end of the way back -/
structure Led' (X : Sc α) (S S' : SM α) (names : List α) (c : α) (F : List (α × α)) : Prop where
  ok : SOk X S' (names ++ [c])
  lens : ∀ x, (S.on x).length ≤ (S'.on x).length
  pos : ∀ z m0, S'.pos z = some m0 → (m0, z) ∈ F ∨ S.pos z = some m0
theorem Ldg.last {X : Sc α} {S S' : SM α} {names : List α} {c m y : α} {F : List (α × α)} (h : Ldg X S S' names c m y [] F) : y = c ∧ m ∈ X.heard y ∧ Led' X S (S'.put y m) names c F := by
  cases h.rt with
  | root hm =>
    have pc : ∀ x, S'.pos c ≠ some x := fun x z => h.c0 ((h.ok.dom c).mp ⟨x, z⟩)
    refine ⟨rfl, hm, h.ok.put hm h.room fun x => by simp; exact Or.comm, fun x => ?_, fun z m0 hz => ?_⟩
    · by_cases xm : x = m
      · subst xm
        have := put_on_eq h.ok (pc x)
        have := h.len1
        omega
      · rw [put_on c m x xm (pc x)]; exact h.lens x xm
    · rw [put_pos] at hz
      by_cases e : z = c
      · rw [if_pos e] at hz
        rw [e, ← Option.some.inj hz]
        exact .inl (h.sub _ (.head _))
      · rw [if_neg e] at hz; exact h.pos z m0 hz
/-! the cheapest ways: how dear it is to come to a mast, and by what -/
/-- by whom, and from where, a mast is come to: told with its costs -/
structure Via (X : Sc α) (S : SM α) (mc : α → α → Int) (c : α) (d : α → Option Int) (m y : α) (l : Option α) (v : Int) : Prop where
  hd : m ∈ X.heard y
  src : l = none ∧ y = c ∧ mc c m ≤ v ∨ ∃ m' v', l = some m' ∧ S.pos y = some m' ∧ d m' = some v' ∧ v' - mc y m' + mc y m ≤ v
/-- from any mast that was come to one gets back -/
inductive Bk (cm : α → Option (α × Option α)) : α → Prop
  | root {m y : α} : cm m = some (y, none) → Bk cm m
  | step {m y m' : α} : cm m = some (y, some m') → Bk cm m' → Bk cm m
/-- ahead of each look -/
structure Bf2 (X : Sc α) (S : SM α) (mc : α → α → Int) (q : α → Int) (c : α) (d : α → Option Int) (cm : α → Option (α × Option α)) : Prop where
  dom : ∀ m, (∃ v, d m = some v) ↔ ∃ y l, cm m = some (y, l)
  start : ∀ m ∈ X.heard c, ∃ v, d m = some v ∧ v ≤ mc c m
  via : ∀ m v y l, d m = some v → cm m = some (y, l) → Via X S mc c d m y l v
  back : ∀ m v, d m = some v → Bk cm m
  low : ∀ m v, d m = some v → 0 ≤ v + q m
/-- all that can be come to from m is told -/
def Rel (X : Sc α) (S : SM α) (mc : α → α → Int) (d : α → Option Int) (m : α) : Prop := ∀ v, d m = some v → ∀ y ∈ S.on m, ∀ o ∈ X.heard y, ∃ v', d o = some v' ∧ v' ≤ v - mc y m + mc y o
def updF {β : Type} (f : α → Option β) (o : α) (v : β) : α → Option β := fun x => if x = o then some v else f x
theorem updF_eq {β : Type} (f : α → Option β) (o : α) (v : β) : updF f o v o = some v := if_pos rfl
theorem updF_ne {β : Type} (f : α → Option β) {o x : α} (v : β) (h : x ≠ o) : updF f o v x = f x := if_neg h
/-- one is come to, or cheaper -/
theorem Bf2.relax {X : Sc α} {S : SM α} {mc : α → α → Int} {q : α → Int} {c : α} {d : α → Option Int} {cm : α → Option (α × Option α)} {names : List α} (B : Bf2 X S mc q c d cm) (O : SOk X S names) (Q : Pot X S mc q) {m y o : α} {v : Int} (hm : d m = some v) (hy : y ∈ S.on m) (ho : o ∈ X.heard y)
    (lt : ∀ w, d o = some w → v - mc y m + mc y o < w) : Bf2 X S mc q c (updF d o (v - mc y m + mc y o)) (updF cm o (y, some m)) := by
  have py := (O.mem y m).mpr hy
  have sl := Q.slack y m py o ho
  have lo := B.low m v hm
  have mo : m ≠ o := fun e => by
    have := lt v (by rw [← e]; exact hm)
    rw [← e] at this; omega
  -- who is nearer than o was keeps the way back
  have keep : ∀ x, Bk cm x → ∀ u, d x = some u → (∀ w, d o = some w → u + q x < w + q o) → Bk (updF cm o (y, some m)) x := by
    intro x hx
    induction hx with
    | @root x y0 e =>
      intro u hu lt2
      refine .root (y := y0) ?_
      rw [updF_ne _ _ fun z => by rw [z] at hu lt2; have := lt2 u hu; omega]
      exact e
    | @step x y0 m0 e hb ih =>
      intro u hu lt2
      have xo : x ≠ o := fun z => by rw [z] at hu lt2; have := lt2 u hu; omega
      obtain ⟨h1, h2⟩ := B.via x u y0 (some m0) hu e
      rcases h2 with ⟨h2, _⟩ | ⟨m1, v1, h2, h3, h4, h5⟩
      · cases h2
      · have e2 := Option.some.inj h2
        subst e2
        have s2 := Q.slack y0 m0 h3 x h1
        exact .step (by rw [updF_ne _ _ xo]; exact e) (ih v1 h4 fun w hw => by have := lt2 w hw; omega)
  have bm : Bk (updF cm o (y, some m)) m := keep m (B.back m v hm) v hm fun w hw => by have := lt w hw; omega
  have bo : Bk (updF cm o (y, some m)) o := .step (updF_eq _ _ _) bm
  have all : ∀ x, Bk cm x → Bk (updF cm o (y, some m)) x := by
    intro x hx
    induction hx with
    | @root x y0 e =>
      by_cases xo : x = o
      · rw [xo]; exact bo
      · exact .root (by rw [updF_ne _ _ xo]; exact e)
    | @step x y0 m0 e hb ih =>
      by_cases xo : x = o
      · rw [xo]; exact bo
      · exact .step (by rw [updF_ne _ _ xo]; exact e) ih
  refine ⟨fun x => ?_, fun x hx => ?_, fun x u y0 l hu hc => ?_, fun x u hu => ?_, fun x u hu => ?_⟩
  · by_cases xo : x = o
    · rw [xo, updF_eq, updF_eq]; exact ⟨fun _ => ⟨_, _, rfl⟩, fun _ => ⟨_, rfl⟩⟩
    · rw [updF_ne _ _ xo, updF_ne _ _ xo]; exact B.dom x
  · obtain ⟨u, h1, h2⟩ := B.start x hx
    by_cases xo : x = o
    · refine ⟨_, by rw [xo]; exact updF_eq _ _ _, ?_⟩
      have := lt u (by rw [← xo]; exact h1)
      omega
    · exact ⟨u, by rw [updF_ne _ _ xo]; exact h1, h2⟩
  · by_cases xo : x = o
    · subst xo
      rw [updF_eq] at hu hc
      have e1 := Option.some.inj hu
      have e2 := Option.some.inj hc
      injection e2 with e2 e3
      subst e2 e3
      exact ⟨ho, .inr ⟨m, v, rfl, py, by rw [updF_ne _ _ mo]; exact hm, by omega⟩⟩
    · rw [updF_ne _ _ xo] at hu hc
      obtain ⟨h1, h2⟩ := B.via x u y0 l hu hc
      refine ⟨h1, h2.elim .inl fun ⟨m1, v1, g1, g2, g3, g4⟩ => .inr ?_⟩
      by_cases mo1 : m1 = o
      · refine ⟨m1, _, g1, g2, by rw [mo1]; exact updF_eq _ _ _, ?_⟩
        have := lt v1 (by rw [← mo1]; exact g3)
        omega
      · exact ⟨m1, v1, g1, g2, by rw [updF_ne _ _ mo1]; exact g3, g4⟩
  · by_cases xo : x = o
    · rw [xo]; exact bo
    · rw [updF_ne _ _ xo] at hu; exact all x (B.back x u hu)
  · by_cases xo : x = o
    · subst xo
      rw [updF_eq] at hu
      have := Option.some.inj hu
      omega
    · rw [updF_ne _ _ xo] at hu; exact B.low x u hu
theorem Rel.upd {X : Sc α} {S : SM α} {mc : α → α → Int} {d : α → Option Int} {x o : α} {v : Int} (h : Rel X S mc d x) (xo : x ≠ o) (le : ∀ w, d o = some w → v ≤ w) : Rel X S mc (updF d o v) x := fun u hu y hy z hz => by
  rw [updF_ne _ _ xo] at hu
  obtain ⟨v', h1, h2⟩ := h u hu y hy z hz
  by_cases e : z = o
  · refine ⟨v, by rw [e]; exact updF_eq _ _ _, ?_⟩
    have := le v' (by rw [← e]; exact h1)
    omega
  · exact ⟨v', by rw [updF_ne _ _ e]; exact h1, h2⟩
/-- the way back, with its length -/
inductive Bkn (cm : α → Option (α × Option α)) : α → Nat → Prop
  | root {m y : α} : cm m = some (y, none) → Bkn cm m 0
  | step {m y m' : α} {n : Nat} : cm m = some (y, some m') → Bkn cm m' n → Bkn cm m (n + 1)
theorem Bk.n {cm : α → Option (α × Option α)} {m : α} (h : Bk cm m) : ∃ n, Bkn cm m n := by
  induction h with
  | root e => exact ⟨0, .root e⟩
  | step e _ ih => obtain ⟨n, h⟩ := ih; exact ⟨n + 1, .step e h⟩
theorem Bkn.uniq {cm : α → Option (α × Option α)} {m : α} {n k : Nat} (h : Bkn cm m n) (h' : Bkn cm m k) : n = k := by
  induction h generalizing k with
  | root e =>
    cases h' with
    | root e' => rfl
    | step e' _ => rw [e] at e'; cases e'
  | step e _ ih =>
    cases h' with
    | root e' => rw [e] at e'; cases e'
    | step e' h2 =>
      rw [e] at e'
      have e3 := (Option.some.inj e')
      injection e3 with e4 e5
      have e6 := Option.some.inj e5
      subst e6
      rw [ih h2]
/-- a way, and the table that tells it -/
inductive RtK (X : Sc α) (S : SM α) (c : α) (cm : α → Option (α × Option α)) : List (α × α) → Prop
  | root {m : α} : m ∈ X.heard c → cm m = some (c, none) → RtK X S c cm [(m, c)]
  | step {m y m' y' : α} {R : List (α × α)} : RtK X S c cm ((m', y') :: R) → S.pos y = some m' → m ∈ X.heard y → m ∉ ((m', y') :: R).map (·.1) → cm m = some (y, some m') → RtK X S c cm ((m, y) :: (m', y') :: R)
theorem RtK.rt {X : Sc α} {S : SM α} {c : α} {cm : α → Option (α × Option α)} {R : List (α × α)} (h : RtK X S c cm R) : Rt X S c R := by
  induction h with
  | root a _ => exact .root a
  | step _ b c d _ ih => exact .step ih b c d
/-- all costs are told in full -/
structure Full (X : Sc α) (S : SM α) (mc : α → α → Int) (q : α → Int) (c : α) (d : α → Option Int) (cm : α → Option (α × Option α)) : Prop where
  bf : Bf2 X S mc q c d cm
  rel : ∀ m, Rel X S mc d m
theorem Full.route {X : Sc α} {S : SM α} {mc : α → α → Int} {q : α → Int} {c : α} {d : α → Option Int} {cm : α → Option (α × Option α)} {names : List α} (B : Full X S mc q c d cm) (O : SOk X S names) (Q : Pot X S mc q) {m : α} {n : Nat} (h : Bkn cm m n) : ∀ {v : Int}, d m = some v →
    ∃ y R, RtK X S c cm ((m, y) :: R) ∧ (∀ p ∈ (m, y) :: R, ∃ k, k ≤ n ∧ Bkn cm p.1 k) ∧ (∀ p ∈ (m, y) :: R, ∃ u, d p.1 = some u ∧ q p.1 - q m ≤ v - u ∧ ((p.2 = c ∧ u = mc c p.1) ∨ ∃ m' u', S.pos p.2 = some m' ∧ d m' = some u' ∧ u = u' - mc p.2 m' + mc p.2 p.1)) := by
  induction h with
  | @root m y e =>
    intro v hv
    obtain ⟨h1, h2⟩ := B.bf.via m v y none hv e
    rcases h2 with ⟨_, rfl, h3⟩ | ⟨m1, v1, h2, _⟩
    · obtain ⟨u, hu, hu2⟩ := B.bf.start m h1
      rw [hv] at hu
      have := Option.some.inj hu
      refine ⟨y, [], .root h1 e, fun p hp => ⟨0, Nat.le_refl _, ?_⟩, fun p hp => ?_⟩
      · rw [List.mem_singleton.mp hp]; exact .root e
      · rw [List.mem_singleton.mp hp]; exact ⟨v, hv, by show q m - q m ≤ v - v; omega, .inl ⟨rfl, by show v = mc y m; omega⟩⟩
    · cases h2
  | @step m y m' n e hb ih =>
    intro v hv
    obtain ⟨h1, h2⟩ := B.bf.via m v y (some m') hv e
    rcases h2 with ⟨h2, _⟩ | ⟨m1, v1, h2, h3, h4, h5⟩
    · cases h2
    · have e2 := Option.some.inj h2
      subst e2
      obtain ⟨y', R, r1, r2, r3⟩ := ih h4
      have hy := (O.mem y m').mp h3
      obtain ⟨u, hu, hu2⟩ := B.rel m' v1 h4 y hy m h1
      rw [hv] at hu
      have eu := Option.some.inj hu
      have sl := Q.slack y m' h3 m h1
      have nm : m ∉ ((m', y') :: R).map (·.1) := fun z => by
        obtain ⟨p, hp, ep⟩ := List.mem_map.mp z
        obtain ⟨k, hk, bk⟩ := r2 p hp
        rw [ep] at bk
        have := bk.uniq (.step e hb)
        omega
      refine ⟨y, (m', y') :: R, .step r1 h3 h1 nm e, fun p hp => ?_, fun p hp => ?_⟩
      · rcases List.mem_cons.mp hp with rfl | hp
        · exact ⟨n + 1, Nat.le_refl _, .step e hb⟩
        · obtain ⟨k, hk, bk⟩ := r2 p hp
          exact ⟨k, by omega, bk⟩
      · rcases List.mem_cons.mp hp with rfl | hp
        · exact ⟨v, hv, by show q m - q m ≤ v - v; omega, .inr ⟨m', v1, h3, h4, by show v = v1 - mc y m' + mc y m; omega⟩⟩
        · obtain ⟨u', g1, g2, g3⟩ := r3 p hp
          exact ⟨u', g1, by omega, g3⟩
/-- the new potentials -/
def nextQ (q : α → Int) (d : α → Option Int) (D : Int) (m : α) : Int := match d m with
  | some v => max (q m) (D - v)
  | none => q m
theorem nextQ_ge (q : α → Int) (d : α → Option Int) (D : Int) (m : α) : q m ≤ nextQ q d D m := by
  unfold nextQ
  split
  · exact Int.le_max_left _ _
  · exact Int.le_refl _
theorem nextQ_some {q : α → Int} {d : α → Option Int} {D v : Int} {m : α} (h : d m = some v) : nextQ q d D m = max (q m) (D - v) := by
  unfold nextQ; rw [h]
theorem Pot.next {X : Sc α} {S S' : SM α} {mc : α → α → Int} {q : α → Int} {c : α} {d : α → Option Int} {cm : α → Option (α × Option α)} {names : List α} {e y : α} {R : List (α × α)} {D : Int} (B : Full X S mc q c d cm) (O : SOk X S names) (Q : Pot X S mc q) (c0 : c ∉ names) (hD : d e = some D) (hroom : (S.on e).length < X.cap e)
    (least : ∀ m v, d m = some v → (S.on m).length < X.cap m → D ≤ v) (hF : ∀ p ∈ R, ∃ u, d p.1 = some u ∧ q p.1 - q e ≤ D - u ∧ ((p.2 = c ∧ u = mc c p.1) ∨ ∃ m' u', S.pos p.2 = some m' ∧ d m' = some u' ∧ u = u' - mc p.2 m' + mc p.2 p.1)) (L : Led' X S S' names c R) : Pot X S' mc (nextQ q d D) := by
  have q0 := Q.zero e hroom
  -- who stays where he was
  have stay : ∀ z m0, S.pos z = some m0 → ∀ m2 ∈ X.heard z, nextQ q d D m0 + mc z m0 ≤ nextQ q d D m2 + mc z m2 := fun z m0 hz m2 hm2 => by
    have s1 := Q.slack z m0 hz m2 hm2
    have g2 := nextQ_ge q d D m2
    cases hd : d m0 with
    | none =>
      have : nextQ q d D m0 = q m0 := by unfold nextQ; rw [hd]
      omega
    | some v =>
      obtain ⟨v2, h1, h2⟩ := B.rel m0 v hd z ((O.mem z m0).mp hz) m2 hm2
      rw [nextQ_some hd, nextQ_some h1]
      omega
  refine ⟨fun m => Int.le_trans (Q.nn m) (nextQ_ge _ _ _ _), fun m hm => ?_, fun z m0 hz m2 hm2 => ?_⟩
  · have hm' : (S.on m).length < X.cap m := Nat.lt_of_le_of_lt (L.lens m) hm
    have z := Q.zero m hm'
    cases hd : d m with
    | none => unfold nextQ; rw [hd]; exact z
    | some v =>
      have := least m v hd hm'
      rw [nextQ_some hd, z]; omega
  · rcases L.pos z m0 hz with hz | hz
    · obtain ⟨u, h1, h2, h3⟩ := hF _ hz
      have h1 : d m0 = some u := h1
      have h2 : q m0 - q e ≤ D - u := h2
      have eq : nextQ q d D m0 = D - u := by rw [nextQ_some h1]; omega
      rcases h3 with ⟨h3, h4⟩ | ⟨m', u', h3, h4, h5⟩
      · have h3 : z = c := h3
        have h4 : u = mc c m0 := h4
        subst h3
        obtain ⟨v2, g1, g2⟩ := B.bf.start m2 hm2
        rw [eq, nextQ_some g1]
        omega
      · have h3 : S.pos z = some m' := h3
        have h5 : u = u' - mc z m' + mc z m0 := h5
        have := stay z m' h3 m2 hm2
        rw [nextQ_some h4] at this
        rw [eq]
        omega
    · exact stay z m0 hz m2 hm2
/-- somebody who can be seated finds room -/
theorem Full.room {X : Sc α} {S : SM α} {mc : α → α → Int} {q : α → Int} {c : α} {d : α → Option Int} {cm : α → Option (α × Option α)} {names ms : List α} (B : Full X S mc q c d cm) (O : SOk X S names) (c0 : c ∉ names) (nd : ms.Nodup) (hms : ∀ m v, d m = some v → m ∈ ms) (hs : Seatable X (names ++ [c])) : ∃ m v, d m = some v ∧ (S.on m).length < X.cap m := by
  refine Classical.byContradiction fun no => ?_
  refine no_seat O c0 (R := ms.filter fun m => (d m).isSome) (nd.filter _) (fun m hm => ?_) (fun m hm hr => ?_) (fun m hm y hy o ho => ?_) (names' := names ++ [c]) (fun x => by simp) hs
  · obtain ⟨v, h1, _⟩ := B.bf.start m hm
    exact List.mem_filter.mpr ⟨hms m v h1, by rw [h1]; rfl⟩
  · have := (List.mem_filter.mp hm).2
    obtain ⟨v, hv⟩ := Option.isSome_iff_exists.mp this
    exact no ⟨m, v, hv, hr⟩
  · have := (List.mem_filter.mp hm).2
    obtain ⟨v, hv⟩ := Option.isSome_iff_exists.mp this
    obtain ⟨v', h1, _⟩ := B.rel m v hv y hy o ho
    exact List.mem_filter.mpr ⟨hms o v' h1, by rw [h1]; rfl⟩
end
end Mc
namespace Mc
section
variable {α : Type} [DecidableEq α]
/-! prices that show it, found by rounds -/
inductive Wk (X : Sc α) (S : SM α) (mc : α → α → Int) (ini : α → Int) : α → Nat → Int → Prop
  | zero (m : α) : Wk X S mc ini m 0 (ini m)
  | step {m m' y : α} {n : Nat} {v : Int} : S.pos y = some m → m' ∈ X.heard y → Wk X S mc ini m' n v → Wk X S mc ini m (n + 1) (v + mc y m' - mc y m)
inductive Wa (X : Sc α) (S : SM α) (mc : α → α → Int) (ini : α → Int) (A : α → Prop) : α → Int → Prop
  | zero {m : α} : A m → Wa X S mc ini A m (ini m)
  | step {m m' y : α} {v : Int} : A m → S.pos y = some m → m' ∈ X.heard y → Wa X S mc ini A m' v → Wa X S mc ini A m (v + mc y m' - mc y m)
variable {X : Sc α} {S : SM α} {mc : α → α → Int} {ini q : α → Int}
theorem Wa.here {A : α → Prop} {m : α} {v : Int} (h : Wa X S mc ini A m v) : A m := by
  cases h with
  | zero a => exact a
  | step a _ _ _ => exact a
theorem Wk.wa {A : α → Prop} (hA : ∀ y m', m' ∈ X.heard y → A m') {m : α} {n : Nat} {v : Int} (h : Wk X S mc ini m n v) (hm : A m) : Wa X S mc ini A m v := by
  induction h with
  | zero m => exact .zero hm
  | step h1 h2 _ ih => exact .step hm h1 h2 (ih (hA _ _ h2))
/-- the last time that x is come by -/
theorem Wa.last (Q : ∀ c m, S.pos c = some m → ∀ m' ∈ X.heard c, q m + mc c m ≤ q m' + mc c m') (x : α) {A : α → Prop} {m : α} {v : Int} (h : Wa X S mc ini A m v) :
    Wa X S mc ini (fun z => A z ∧ z ≠ x) m v ∨ ∃ u, u + (q m - q x) ≤ v ∧ (u = ini x ∨ ∃ y m1 u1, S.pos y = some x ∧ m1 ∈ X.heard y ∧ Wa X S mc ini (fun z => A z ∧ z ≠ x) m1 u1 ∧ u = u1 + mc y m1 - mc y x) := by
  induction h with
  | @zero m a =>
    by_cases e : m = x
    · subst e; exact .inr ⟨ini m, by omega, .inl rfl⟩
    · exact .inl (.zero ⟨a, e⟩)
  | @step m m' y v a h1 h2 h3 ih =>
    rcases ih with ih | ⟨u, g1, g2⟩
    · by_cases e : m = x
      · subst e; exact .inr ⟨v + mc y m' - mc y m, by omega, .inr ⟨y, m', v, h1, h2, ih, rfl⟩⟩
      · exact .inl (.step ⟨a, e⟩ h1 h2 ih)
    · have := Q y m h1 m' h2
      exact .inr ⟨u, by omega, g2⟩
theorem Wa.mono {A B : α → Prop} (h : ∀ z, A z → B z) {m : α} {v : Int} (w : Wa X S mc ini A m v) : Wa X S mc ini B m v := by
  induction w with
  | zero a => exact .zero (h _ a)
  | step a h1 h2 _ ih => exact .step (h _ a) h1 h2 ih
/-- a shorter way that is no dearer -/
theorem Wa.short (Q : ∀ c m, S.pos c = some m → ∀ m' ∈ X.heard c, q m + mc c m ≤ q m' + mc c m') : ∀ (k : Nat) (A : List α), A.length ≤ k → ∀ {m : α} {v : Int}, Wa X S mc ini (· ∈ A) m v → ∃ n v', n < A.length ∧ v' ≤ v ∧ Wk X S mc ini m n v'
  | 0, A, hk, m, v, h => by
    have := List.length_pos_of_mem h.here; omega
  | k + 1, A, hk, m, v, h => by
    have hm := h.here
    rcases h.last Q m with w | ⟨u, g1, g2⟩
    · exact absurd rfl w.here.2
    · have hl := List.length_pos_of_mem hm
      rcases g2 with rfl | ⟨y, m1, u1, h1, h2, w, rfl⟩
      · exact ⟨0, ini m, hl, by omega, .zero m⟩
      · have hsub : ∀ z, z ∈ A ∧ z ≠ m → z ∈ A.filter (fun z => decide (z ≠ m)) := fun z hz => List.mem_filter.mpr ⟨hz.1, decide_eq_true hz.2⟩
        have w' : Wa X S mc ini (fun z => z ∈ A.filter (fun z => decide (z ≠ m))) m1 u1 := Wa.mono hsub w
        have lt : (A.filter fun z => decide (z ≠ m)).length < A.length := by
          have := List.length_filter_lt_length_iff_exists (p := fun z => decide (z ≠ m)) (l := A)
          exact this.mpr ⟨m, hm, by simp⟩
        obtain ⟨n, v', a, b, c⟩ := Wa.short Q k _ (by omega) w'
        exact ⟨n + 1, v' + mc y m1 - mc y m, by omega, by omega, .step h1 h2 c⟩
/-- what is told after some rounds -/
structure PrA (X : Sc α) (S : SM α) (mc : α → α → Int) (ini : α → Int) (p : α → Int) (k : Nat) : Prop where
  att : ∀ m, ∃ n, Wk X S mc ini m n (p m)
  le : ∀ m n v, n ≤ k → Wk X S mc ini m n v → p m ≤ v
/-- within a round: these have been looked at -/
structure PrB (X : Sc α) (S : SM α) (mc : α → α → Int) (ini : α → Int) (p : α → Int) (k : Nat) (done : List α) : Prop where
  a : PrA X S mc ini p k
  dn : ∀ y ∈ done, ∀ m, S.pos y = some m → ∀ m' ∈ X.heard y, ∀ n v, n ≤ k → Wk X S mc ini m' n v → p m ≤ v + mc y m' - mc y m
theorem PrA.start : PrA X S mc ini ini 0 := ⟨fun m => ⟨0, .zero m⟩, fun m n v hn h => by
  cases h with
  | zero => exact Int.le_refl _
  | step _ _ _ => omega⟩
theorem PrB.next {p : α → Int} {k : Nat} {done : List α} (h : PrB X S mc ini p k done) (all : ∀ y m, S.pos y = some m → y ∈ done) : PrA X S mc ini p (k + 1) := ⟨h.a.att, fun m n v hn w => by
  cases w with
  | zero => exact h.a.le _ 0 _ (Nat.zero_le _) (.zero _)
  | @step _ m' y n v h1 h2 h3 => exact h.dn y (all y m h1) m h1 m' h2 n v (by omega) h3⟩
/-- one call looked at -/
theorem PrB.step {p : α → Int} {k : Nat} {done : List α} (h : PrB X S mc ini p k done) {y m : α} {lp : Int} (hp : S.pos y = some m) (lp1 : ∃ m' ∈ X.heard y, lp = p m' + mc y m') (lp2 : ∀ m' ∈ X.heard y, lp ≤ p m' + mc y m') :
    PrB X S mc ini (fun x => if x = m then min (p m) (lp - mc y m) else p x) k (done ++ [y]) := by
  have le : ∀ x, (if x = m then min (p m) (lp - mc y m) else p x) ≤ p x := fun x => by
    by_cases e : x = m
    · rw [if_pos e, e]; omega
    · rw [if_neg e]; exact Int.le_refl _
  refine ⟨⟨fun x => ?_, fun x n v hn w => Int.le_trans (le x) (h.a.le x n v hn w)⟩, fun z hz m0 hm0 m' hm' n v hn w => ?_⟩
  · show ∃ n, Wk X S mc ini x n (if x = m then min (p m) (lp - mc y m) else p x)
    by_cases e : x = m
    · subst e
      rw [if_pos rfl]
      by_cases c : p x ≤ lp - mc y x
      · rw [show min (p x) (lp - mc y x) = p x by omega]; exact h.a.att x
      · obtain ⟨m', hm', rfl⟩ := lp1
        rw [show min (p x) (p m' + mc y m' - mc y x) = p m' + mc y m' - mc y x by omega]
        obtain ⟨n, w⟩ := h.a.att m'
        exact ⟨n + 1, .step hp hm' w⟩
    · rw [if_neg e]; exact h.a.att x
  · rcases List.mem_append.mp hz with hz | hz
    · exact Int.le_trans (le m0) (h.dn z hz m0 hm0 m' hm' n v hn w)
    · rw [List.mem_singleton.mp hz] at hm0 hm' ⊢
      rw [hp] at hm0
      have e := Option.some.inj hm0
      subst e
      show (if m = m then min (p m) (lp - mc y m) else p m) ≤ _
      rw [if_pos rfl]
      have := lp2 m' hm'
      have := h.a.le m' n v hn w
      omega
/-- what each way is worth at least -/
theorem Wk.low (Q : Pot X S mc q) (h01 : ∀ y m, 0 ≤ mc y m ∧ mc y m ≤ 1) {N : Nat} (hi : ∀ m, ini m = if (S.on m).length < X.cap m then 0 else (N : Int)) {m : α} {n : Nat} {v : Int} (h : Wk X S mc ini m n v) : q m ≤ v ∨ (N : Int) - n ≤ v := by
  induction h with
  | zero m =>
    rw [hi]
    by_cases r : (S.on m).length < X.cap m
    · rw [if_pos r, Q.zero m r]; exact .inl (Int.le_refl _)
    · rw [if_neg r]; exact .inr (by omega)
  | @step m m' y n v h1 h2 _ ih =>
    have := Q.slack y m h1 m' h2
    have := h01 y m
    have := h01 y m'
    rcases ih with ih | ih
    · exact .inl (by omega)
    · exact .inr (by omega)
theorem PrA.pot {p : α → Int} {ms : List α} (h : PrA X S mc ini p ms.length) (Q : Pot X S mc q) (h01 : ∀ y m, 0 ≤ mc y m ∧ mc y m ≤ 1) (hi : ∀ m, ini m = if (S.on m).length < X.cap m then 0 else (ms.length : Int)) (hms : ∀ y m', m' ∈ X.heard y → m' ∈ ms) (out : ∀ m, m ∉ ms → 0 ≤ p m ∧ X.cap m ≤ (S.on m).length) (outr : ∀ y m, S.pos y = some m → m ∈ ms) : Pot X S mc p := by
  have short : ∀ m ∈ ms, ∀ n v, Wk X S mc ini m n v → ∃ n' v', n' < ms.length ∧ v' ≤ v ∧ Wk X S mc ini m n' v' := fun m hm n v w => Wa.short Q.slack ms.length ms (Nat.le_refl _) (w.wa hms hm)
  refine ⟨fun m => ?_, fun m hr => ?_, fun y m hp m' hm' => ?_⟩
  · by_cases hm : m ∈ ms
    · obtain ⟨n, w⟩ := h.att m
      obtain ⟨n', v', a, b, w'⟩ := short m hm n _ w
      have c := h.le m n' v' (by omega) w'
      have e : v' = p m := by omega
      have lw := w'.low Q h01 hi
      have := Q.nn m
      rcases lw with z | z <;> omega
    · exact (out m hm).1
  · by_cases hm : m ∈ ms
    · have a := h.le m 0 _ (Nat.zero_le _) (.zero m)
      rw [hi, if_pos hr] at a
      obtain ⟨n, w⟩ := h.att m
      obtain ⟨n', v', a2, b, w'⟩ := short m hm n _ w
      have c := h.le m n' v' (by omega) w'
      have lw := w'.low Q h01 hi
      have := Q.nn m
      rcases lw with z | z <;> omega
    · have := (out m hm).2
      omega
  · obtain ⟨n, w⟩ := h.att m'
    obtain ⟨n', v', a, b, w'⟩ := short m (outr y m hp) _ _ (.step hp hm' w)
    have := h.le m n' v' (by omega) w'
    omega
end
end Mc
namespace Mc
open PySem L2
/-! a dict with text keys: set a key, old or new -/
section
variable {β : Type} {f : β → V} {l : List (PySem.Str × β)} {k x : PySem.Str} {v : β}
noncomputable def putT (l : List (PySem.Str × β)) (k : PySem.Str) (v : β) : List (PySem.Str × β) := if k ∈ keysT l then l.map (fun x => if x.1 = k then (x.1, v) else x) else l ++ [(k, v)]
theorem put_T : putK (kvT f l) (Sum.inr k : L2.Key) (f v) = kvT f (putT l k v) := by
  unfold putT
  by_cases h : k ∈ keysT l
  · rw [if_pos h, put_old h]
  · rw [if_neg h, put_new h]
theorem getT_put (x : PySem.Str) : getT (putT l k v) x = if x = k then some v else getT l x := by
  unfold putT
  by_cases h : k ∈ keysT l
  · rw [if_pos h, getT_rep]
    by_cases e : x = k
    · obtain ⟨w, hw⟩ := getT_key h
      rw [if_pos e, if_pos e, e, hw]; rfl
    · rw [if_neg e, if_neg e]
  · rw [if_neg h, getT_app]
    by_cases e : x = k
    · rw [if_pos e, e, getT_none.mpr h, getT_cons, if_pos rfl]; rfl
    · rw [if_neg e, getT_cons, if_neg (fun z : k = x => e z.symm)]
      cases getT l x <;> rfl
theorem keysT_rep : keysT (l.map fun x => if x.1 = k then (x.1, v) else x) = keysT l := by
  unfold keysT
  rw [List.map_map]
  refine List.map_congr_left fun x _ => ?_
  show (if x.1 = k then (x.1, v) else x).1 = x.1
  split <;> rfl
theorem keysT_put : keysT (putT l k v) = if k ∈ keysT l then keysT l else keysT l ++ [k] := by
  unfold putT
  by_cases h : k ∈ keysT l
  · rw [if_pos h, if_pos h, keysT_rep]
  · rw [if_neg h, if_neg h]; unfold keysT; rw [List.map_append]; rfl
theorem nd_put (nd : (keysT l).Nodup) : (keysT (putT l k v)).Nodup := by
  rw [keysT_put]
  by_cases h : k ∈ keysT l
  · rw [if_pos h]; exact nd
  · rw [if_neg h]
    exact List.nodup_append.mpr ⟨nd, by simp, fun a ha b hb e => h (by rw [← List.mem_singleton.mp hb, ← e]; exact ha)⟩
theorem mem_put : x ∈ keysT (putT l k v) ↔ x = k ∨ x ∈ keysT l := by
  rw [keysT_put]
  by_cases h : k ∈ keysT l
  · rw [if_pos h]
    exact ⟨.inr, fun z => z.elim (fun e => by rw [e]; exact h) id⟩
  · rw [if_neg h, List.mem_append, List.mem_singleton, or_comm]
theorem keysT_len : (keysT l).length = l.length := by unfold keysT; rw [List.length_map]
theorem len_put : (putT l k v).length = if k ∈ keysT l then l.length else l.length + 1 := by
  rw [← keysT_len, keysT_put]
  by_cases h : k ∈ keysT l
  · rw [if_pos h, if_pos h, keysT_len]
  · rw [if_neg h, if_neg h, List.length_append, keysT_len]; rfl
end
theorem getT_mk' {β : Type} {g : PySem.Str → β} {hs : List PySem.Str} {m : PySem.Str} (h : m ∈ hs) : getT (hs.map fun m => (m, g m)) m = some (g m) := by
  induction hs with
  | nil => cases h
  | cons k ks ih =>
    rw [List.map_cons, getT_cons]
    by_cases e : k = m
    · rw [if_pos e, e]
    · rw [if_neg e]; exact ih ((List.mem_cons.mp h).resolve_left fun z => e z.symm)
/-! ### the search for cheapest ways, turn by turn -/
abbrev VL := List (PySem.Str × Int)
abbrev Cmf := PySem.Str → Option (PySem.Str × Option PySem.Str)
theorem updF_put (vl : VL) (o : PySem.Str) (v : Int) : getT (putT vl o v) = updF (getT vl) o v := funext fun x => getT_put x
def phi (ms : List PySem.Str) (q : PySem.Str → Int) (B : Nat) (vl : VL) : Nat := (ms.map fun m => match getT vl m with | some v => (v + q m).toNat | none => B).sum
theorem sum_le_ {ms : List PySem.Str} {f g : PySem.Str → Nat} (h : ∀ m ∈ ms, f m ≤ g m) : (ms.map f).sum ≤ (ms.map g).sum := by
  induction ms with
  | nil => exact Nat.le_refl _
  | cons a L ih =>
    rw [List.map_cons, List.map_cons, List.sum_cons, List.sum_cons]
    have := h a (.head _)
    have := ih fun x hx => h x (.tail _ hx)
    omega
theorem sum_lt_ {ms : List PySem.Str} {f g : PySem.Str → Nat} (h : ∀ m ∈ ms, f m ≤ g m) {o : PySem.Str} (ho : o ∈ ms) (hlt : f o < g o) : (ms.map f).sum < (ms.map g).sum := by
  induction ms with
  | nil => cases ho
  | cons a L ih =>
    rw [List.map_cons, List.map_cons, List.sum_cons, List.sum_cons]
    have h1 := h a (.head _)
    rcases List.mem_cons.mp ho with e | ho
    · subst e
      have := sum_le_ (f := f) (g := g) fun x hx => h x (List.mem_cons_of_mem _ hx)
      omega
    · have := ih (fun x hx => h x (.tail _ hx)) ho
      omega
theorem sum_max {ms : List PySem.Str} {f : PySem.Str → Nat} {B : Nat} (h : ∀ m ∈ ms, f m ≤ B) : (ms.map f).sum ≤ ms.length * B := by
  induction ms with
  | nil => exact Nat.zero_le _
  | cons a L ih =>
    rw [List.map_cons, List.sum_cons, List.length_cons, Nat.succ_mul]
    have h1 := h a (.head _)
    have := ih fun x hx => h x (.tail _ hx)
    omega
section
variable {X : Sc PySem.Str} {S : SM PySem.Str} {mc : PySem.Str → PySem.Str → Int} {q : PySem.Str → Int} {c : PySem.Str} {ms : List PySem.Str} {vl : VL} {cm : Cmf} {names : List PySem.Str}
structure CwS (X : Sc PySem.Str) (S : SM PySem.Str) (mc : PySem.Str → PySem.Str → Int) (q : PySem.Str → Int) (c : PySem.Str) (ms : List PySem.Str) (vl : VL) (cm : Cmf) : Prop where
  bf : Bf2 X S mc q c (getT vl) cm
  nd : (keysT vl).Nodup
  sub : ∀ m ∈ keysT vl, m ∈ ms
  bd : ∀ m v, getT vl m = some v → v ≤ vl.length
theorem CwS.len (h : CwS X S mc q c ms vl cm) : vl.length ≤ ms.length := by
  have := len_sub h.nd h.sub
  rwa [keysT_len] at this
/-- one is come to, or cheaper -/
theorem CwS.relax (h : CwS X S mc q c ms vl cm) (O : SOk X S names) (Q : Pot X S mc q) (h01 : ∀ y m, 0 ≤ mc y m ∧ mc y m ≤ 1) {m y o : PySem.Str} {v : Int} (hm : getT vl m = some v) (hy : y ∈ S.on m) (ho : o ∈ X.heard y) (hoM : o ∈ ms) (lt : ∀ w, getT vl o = some w → v - mc y m + mc y o < w) {B qB : Nat} (hq : ∀ m, q m ≤ qB) (hB : ms.length + 1 + qB < B) :
    CwS X S mc q c ms (putT vl o (v - mc y m + mc y o)) (updF cm o (y, some m)) ∧ phi ms q B (putT vl o (v - mc y m + mc y o)) < phi ms q B vl := by
  have bf2 := h.bf.relax O Q hm hy ho lt
  rw [← updF_put] at bf2
  have a1 := h01 y m
  have a2 := h01 y o
  have vb := h.bd m v hm
  have ll := h.len
  have c1 : CwS X S mc q c ms (putT vl o (v - mc y m + mc y o)) (updF cm o (y, some m)) := by
    refine ⟨bf2, nd_put h.nd, fun x hx => (mem_put.mp hx).elim (fun e => by rw [e]; exact hoM) (h.sub x), fun x w hw => ?_⟩
    rw [getT_put] at hw
    rw [len_put]
    by_cases e : x = o
    · rw [if_pos e] at hw
      have := Option.some.inj hw
      by_cases k : o ∈ keysT vl
      · rw [if_pos k]
        obtain ⟨w0, hw0⟩ := getT_key k
        have := lt w0 hw0
        have := h.bd o w0 hw0
        omega
      · rw [if_neg k]; omega
    · rw [if_neg e] at hw
      have := h.bd x w hw
      split <;> omega
  refine ⟨c1, ?_⟩
  have lo := c1.bf.low o (v - mc y m + mc y o) (by rw [getT_put, if_pos rfl])
  refine sum_lt_ (fun x hx => ?_) hoM ?_
  · show (match getT (putT vl o (v - mc y m + mc y o)) x with | some v => (v + q x).toNat | none => B) ≤ _
    rw [getT_put]
    by_cases e : x = o
    · rw [if_pos e]
      subst e
      show (v - mc y m + mc y x + q x).toNat ≤ _
      cases hw : getT vl x with
      | none =>
        show _ ≤ B
        have := hq x
        omega
      | some w =>
        show _ ≤ (w + q x).toNat
        have := lt w hw
        omega
    · rw [if_neg e]; exact Nat.le_refl _
  · show (match getT (putT vl o (v - mc y m + mc y o)) o with | some v => (v + q o).toNat | none => B) < _
    rw [getT_put, if_pos rfl]
    show (v - mc y m + mc y o + q o).toNat < _
    cases hw : getT vl o with
    | none =>
      show _ < B
      have := hq o
      omega
    | some w =>
      show _ < (w + q o).toNat
      have := lt w hw
      omega
def Don (mc : PySem.Str → PySem.Str → Int) (vl : VL) (m : PySem.Str) (v : Int) (y : PySem.Str) (L : List PySem.Str) : Prop := ∀ o ∈ L, ∃ v', getT vl o = some v' ∧ v' ≤ v - mc y m + mc y o
theorem Don.nil {m y : PySem.Str} {v : Int} : Don mc vl m v y [] := fun _ h => (nomatch h)
theorem Don.snoc {m y o : PySem.Str} {v : Int} {L : List PySem.Str} (h : Don mc vl m v y L) (h2 : ∃ v', getT vl o = some v' ∧ v' ≤ v - mc y m + mc y o) : Don mc vl m v y (L ++ [o]) := fun x hx => by
  rcases List.mem_append.mp hx with hx | hx
  · exact h x hx
  · rw [List.mem_singleton.mp hx]; exact h2
theorem Don.put {m y o : PySem.Str} {v w : Int} {L : List PySem.Str} (h : Don mc vl m v y L) (lt : ∀ u, getT vl o = some u → w < u) : Don mc (putT vl o w) m v y L := fun x hx => by
  obtain ⟨v', h1, h2⟩ := h x hx
  rw [getT_put]
  by_cases e : x = o
  · rw [if_pos e]
    have := lt v' (by rw [← e]; exact h1)
    exact ⟨w, rfl, by omega⟩
  · rw [if_neg e]; exact ⟨v', h1, h2⟩
/-- while m is looked at -/
structure Scn1 (X : Sc PySem.Str) (S : SM PySem.Str) (mc : PySem.Str → PySem.Str → Int) (vl : VL) (qs : List PySem.Str) (i : Nat) (m : PySem.Str) (v : Int) (u : Nat) : Prop where
  here : getT vl m = some v
  at' : qs[i]? = some m
  sub : ∀ x ∈ qs, x ∈ keysT vl
  oth : ∀ x, x ≠ m → x ∈ keysT vl → x ∈ qs.drop (i + 1) ∨ Rel X S mc (getT vl) x
  don : ∀ y ∈ (S.on m).take u, Don mc vl m v y (X.heard y)
theorem Scn1.relax {qs : List PySem.Str} {i u : Nat} {m y o : PySem.Str} {v : Int} (h : Scn1 X S mc vl qs i m v u) (lt : ∀ w, getT vl o = some w → v - mc y m + mc y o < w) (mo : m ≠ o) : Scn1 X S mc (putT vl o (v - mc y m + mc y o)) (qs ++ [o]) i m v u := by
  have il : i < qs.length := (List.getElem?_eq_some_iff.mp h.at').1
  refine ⟨by rw [getT_put, if_neg mo]; exact h.here, by rw [List.getElem?_append_left il]; exact h.at', fun x hx => ?_, fun x xm hx => ?_, fun y' hy' => (h.don y' hy').put lt⟩
  · rw [mem_put]
    rcases List.mem_append.mp hx with hx | hx
    · exact .inr (h.sub x hx)
    · exact .inl (List.mem_singleton.mp hx)
  · rw [List.drop_append_of_le_length (by omega)]
    by_cases e : x = o
    · exact .inl (List.mem_append_right _ (by rw [e]; exact .head _))
    · rcases mem_put.mp hx with z | hx
      · exact absurd z e
      · rcases h.oth x xm hx with z | z
        · exact .inl (List.mem_append_left _ z)
        · rw [updF_put]
          exact .inr (z.upd e fun w hw => Int.le_of_lt (lt w hw))
/-- ahead of each look -/
structure Whl (X : Sc PySem.Str) (S : SM PySem.Str) (mc : PySem.Str → PySem.Str → Int) (vl : VL) (qs : List PySem.Str) (i : Nat) : Prop where
  sub : ∀ x ∈ qs, x ∈ keysT vl
  oth : ∀ x ∈ keysT vl, x ∈ qs.drop i ∨ Rel X S mc (getT vl) x
theorem Whl.scan {qs : List PySem.Str} {i : Nat} {m : PySem.Str} (h : Whl X S mc vl qs i) (hm : qs[i]? = some m) : ∃ v, Scn1 X S mc vl qs i m v 0 := by
  obtain ⟨v, hv⟩ := getT_key (h.sub m (List.mem_of_getElem? hm))
  obtain ⟨il, e⟩ := List.getElem?_eq_some_iff.mp hm
  refine ⟨v, hv, hm, h.sub, fun x xm hx => ?_, fun y hy => (nomatch hy)⟩
  rcases h.oth x hx with z | z
  · rw [List.drop_eq_getElem_cons il, e] at z
    rcases List.mem_cons.mp z with z | z
    · exact absurd z xm
    · exact .inl z
  · exact .inr z
theorem Scn1.whl {qs : List PySem.Str} {i : Nat} {m : PySem.Str} {v : Int} {u : Nat} (h : Scn1 X S mc vl qs i m v u) (hu : (S.on m).length ≤ u) : Whl X S mc vl qs (i + 1) := by
  refine ⟨h.sub, fun x hx => ?_⟩
  by_cases e : x = m
  · subst e
    refine .inr fun w hw y hy o ho => ?_
    rw [h.here] at hw
    cases Option.some.inj hw
    exact h.don y (by rw [List.take_of_length_le hu]; exact hy) o ho
  · exact h.oth x e hx
theorem Whl.full {qs : List PySem.Str} {i : Nat} (h : Whl X S mc vl qs i) (hi : qs.length ≤ i) (C : CwS X S mc q c ms vl cm) : Full X S mc q c (getT vl) cm := by
  refine ⟨C.bf, fun m v hv => ?_⟩
  rcases h.oth m (List.mem_map.mpr ⟨_, getT_in hv, rfl⟩) with z | z
  · rw [List.drop_of_length_le hi] at z; cases z
  · exact z v hv
/-- the start: the masts that hear c -/
def vl0 (mc : PySem.Str → PySem.Str → Int) (c : PySem.Str) (hs : List PySem.Str) : VL := hs.map fun m => (m, mc c m)
def cm0 (c : PySem.Str) (hs : List PySem.Str) : Cmf := fun m => if m ∈ hs then some (c, none) else none
theorem getT_vl0 {hs : List PySem.Str} (m : PySem.Str) : getT (vl0 mc c hs) m = if m ∈ hs then some (mc c m) else none := by
  unfold vl0
  induction hs with
  | nil => rfl
  | cons k ks ih =>
    rw [List.map_cons, getT_cons, ih]
    by_cases e : k = m
    · rw [if_pos e, if_pos (by rw [e]; exact .head _), e]
    · rw [if_neg e]
      by_cases z : m ∈ ks
      · rw [if_pos z, if_pos (.tail _ z)]
      · rw [if_neg z, if_neg fun w => (List.mem_cons.mp w).elim (fun a => e a.symm) z]
theorem CwS.start {hs : List PySem.Str} (Q : Pot X S mc q) (h01 : ∀ y m, 0 ≤ mc y m ∧ mc y m ≤ 1) (e : X.heard c = hs) (nd : hs.Nodup) (sub : ∀ m ∈ hs, m ∈ ms) : CwS X S mc q c ms (vl0 mc c hs) (cm0 c hs) := by
  have kk : keysT (vl0 mc c hs) = hs := keysT_mk hs
  refine ⟨⟨fun m => ?_, fun m hm => ?_, fun m v y l hv hc => ?_, fun m v hv => ?_, fun m v hv => ?_⟩, by rw [kk]; exact nd, by rw [kk]; exact sub, fun m v hv => ?_⟩
  · rw [getT_vl0]
    unfold cm0
    by_cases z : m ∈ hs
    · rw [if_pos z, if_pos z]; exact ⟨fun _ => ⟨_, _, rfl⟩, fun _ => ⟨_, rfl⟩⟩
    · rw [if_neg z, if_neg z]; exact ⟨fun ⟨_, h⟩ => (nomatch h), fun ⟨_, _, h⟩ => (nomatch h)⟩
  · rw [getT_vl0, if_pos (by rw [← e]; exact hm)]; exact ⟨_, rfl, Int.le_refl _⟩
  · rw [getT_vl0] at hv
    unfold cm0 at hc
    by_cases z : m ∈ hs
    · rw [if_pos z] at hv hc
      have e2 := Option.some.inj hc
      injection e2 with e2 e3
      have := Option.some.inj hv
      exact ⟨by rw [← e2, e]; exact z, .inl ⟨e3.symm, e2.symm, by omega⟩⟩
    · rw [if_neg z] at hv; cases hv
  · rw [getT_vl0] at hv
    by_cases z : m ∈ hs
    · exact .root (y := c) (by unfold cm0; rw [if_pos z])
    · rw [if_neg z] at hv; cases hv
  · rw [getT_vl0] at hv
    by_cases z : m ∈ hs
    · rw [if_pos z] at hv
      have := Option.some.inj hv
      have := h01 c m
      have := Q.nn m
      omega
    · rw [if_neg z] at hv; cases hv
  · rw [getT_vl0] at hv
    by_cases z : m ∈ hs
    · rw [if_pos z] at hv
      have := Option.some.inj hv
      have := h01 c m
      have := List.length_pos_of_mem z
      unfold vl0
      rw [List.length_map]
      omega
    · rw [if_neg z] at hv; cases hv
theorem Whl.start {hs : List PySem.Str} : Whl X S mc (vl0 mc c hs) hs 0 := by
  have kk : keysT (vl0 mc c hs) = hs := keysT_mk hs
  exact ⟨fun x hx => by rw [kk]; exact hx, fun x hx => .inl (by rw [kk] at hx; exact hx)⟩
end
end Mc
namespace Mc
open PySem L2 PySem.Spec PyProof.Rows Evl
/-! the least of some ints; least prices -/
def minI : List Int → Int
  | [] => 0
  | [x] => x
  | x :: y :: l => if minI (y :: l) < x then minI (y :: l) else x
theorem minI_ok : ∀ {l : List Int}, l ≠ [] → minI l ∈ l ∧ ∀ x ∈ l, minI l ≤ x
  | [], h => absurd rfl h
  | [x], _ => ⟨.head _, fun y hy => by rw [List.mem_singleton.mp hy]; exact Int.le_refl _⟩
  | x :: y :: l, _ => by
    obtain ⟨h1, h2⟩ := minI_ok (l := y :: l) (by simp)
    unfold minI
    by_cases c : minI (y :: l) < x
    · rw [if_pos c]
      refine ⟨.tail _ h1, fun z hz => ?_⟩
      rcases List.mem_cons.mp hz with rfl | hz
      · omega
      · exact h2 z hz
    · rw [if_neg c]
      refine ⟨.head _, fun z hz => ?_⟩
      rcases List.mem_cons.mp hz with rfl | hz
      · exact Int.le_refl _
      · have := h2 z hz
        omega
theorem minI_uniq {l : List Int} {m : Int} (h1 : m ∈ l) (h2 : ∀ x ∈ l, m ≤ x) : minI l = m := by
  have h := minI_ok (l := l) fun e => by rw [e] at h1; cases h1
  have := h.2 m h1
  have := h2 _ h.1
  omega
def lpF (X : Sc PySem.Str) (mc : PySem.Str → PySem.Str → Int) (p : PySem.Str → Int) (c : PySem.Str) : Int := minI ((X.heard c).map fun m => p m + mc c m)
theorem lpF_le {X : Sc PySem.Str} {mc : PySem.Str → PySem.Str → Int} {p : PySem.Str → Int} {c m : PySem.Str} (h : m ∈ X.heard c) : lpF X mc p c ≤ p m + mc c m :=
  (minI_ok (l := (X.heard c).map fun m => p m + mc c m) fun e => by rw [List.map_eq_nil_iff.mp e] at h; cases h).2 _ (List.mem_map.mpr ⟨m, h, rfl⟩)
theorem lpF_at {X : Sc PySem.Str} {mc : PySem.Str → PySem.Str → Int} {p : PySem.Str → Int} {c m : PySem.Str} (h : m ∈ X.heard c) : ∃ m' ∈ X.heard c, lpF X mc p c = p m' + mc c m' := by
  have := (minI_ok (l := (X.heard c).map fun m => p m + mc c m) fun e => by rw [List.map_eq_nil_iff.mp e] at h; cases h).1
  obtain ⟨m', h1, h2⟩ := List.mem_map.mp this
  exact ⟨m', h1, h2.symm⟩
section
variable {K : PySem.W.Frag} {σ : L2.St} {H : Hp} {te : TE}
theorem ev_minN {ns : List Int} (h : EvL te σ H (ns.map V.int)) (ne : ns ≠ []) : Ev (tCB (rMin K) (tCons te tNil)) σ H (.int (minI ns)) := fun H1 e Q q => h H1 e _ fun p H2 hp e2 h2 => ⟨p, ns, rfl, sq_of h2, List.length_pos_iff.mpr ne, fun m hm hl => by
  rw [← minI_uniq hm hl]; exact q H2 e2⟩
theorem ev_minM {α : Type} {ys : List α} {p : α → Int} (h : EvL te σ H (ys.map fun y => V.int (p y))) (ne : ys ≠ []) : Ev (tCB (rMin K) (tCons te tNil)) σ H (.int (minI (ys.map p))) := by
  have e : (ys.map fun y => V.int (p y)) = (ys.map p).map V.int := by rw [List.map_map]; rfl
  rw [e] at h
  exact ev_minN h fun e => ne (List.map_eq_nil_iff.mp e)
end
end Mc
namespace Mc
open PySem L2 PySem.Spec PyProof.Rows Gd Evl LamX NdefX
/-! prices of masts: cheapest_mast, priced_scene -/
abbrev sCheapM : Stmt := top 29
abbrev sPricedS : Stmt := top 28
def prI (pr : Chs) (m : PySem.Str) : Int := (getT pr m).getD 0
/-- the first of the cheapest -/
def cmF (pr : Chs) (hs : List PySem.Str) : PySem.Str := (hs.find? fun m => hs.all fun m' => decide (prI pr m ≤ prI pr m')).getD "m0"
theorem cmF_ok (pr : Chs) {hs : List PySem.Str} (ne : hs ≠ []) : cmF pr hs ∈ hs ∧ ∀ m' ∈ hs, prI pr (cmF pr hs) ≤ prI pr m' := by
  obtain ⟨h1, h2⟩ := minI_ok (l := hs.map (prI pr)) fun e => ne (List.map_eq_nil_iff.mp e)
  obtain ⟨m, hm, e⟩ := List.mem_map.mp h1
  have hp : (hs.all fun m' => decide (prI pr m ≤ prI pr m')) = true := by
    rw [List.all_eq_true]
    exact fun m' hm' => decide_eq_true (by rw [e]; exact h2 _ (List.mem_map.mpr ⟨m', hm', rfl⟩))
  unfold cmF
  cases hf : hs.find? fun m => hs.all fun m' => decide (prI pr m ≤ prI pr m') with
  | none => exact absurd hp (by have := List.find?_eq_none.mp hf m hm; simpa using this)
  | some x =>
    have h3 := List.find?_some hf
    rw [List.all_eq_true] at h3
    exact ⟨List.mem_of_find?_eq_some hf, fun m' hm' => of_decide_eq_true (h3 m' hm')⟩
theorem cmF_is {pr : Chs} {hs : List PySem.Str} {i : Nat} {m : PySem.Str} (hm : hs[i]? = some m) (no : ∀ (j : Nat) x, hs[j]? = some x → prI pr m ≤ prI pr x) (yes : ∀ (j : Nat) x, j < i → hs[j]? = some x → prI pr m < prI pr x) : cmF pr hs = m := by
  unfold cmF
  have : (hs.find? fun m => hs.all fun m' => decide (prI pr m ≤ prI pr m')) = some m := by
    obtain ⟨hi, e⟩ := List.getElem?_eq_some_iff.mp hm
    refine List.find?_eq_some_iff_getElem.mpr ⟨?_, i, hi, e, fun j hj => ?_⟩
    · rw [List.all_eq_true]
      intro x hx
      obtain ⟨j, hj⟩ := List.mem_iff_getElem?.mp hx
      exact decide_eq_true (no j x hj)
    · have hjl : j < hs.length := Nat.lt_trans hj hi
      have h1 := yes j hs[j] hj (List.getElem?_eq_getElem hjl)
      rw [Bool.not_eq_true', ← Bool.not_eq_true]
      intro z
      rw [List.all_eq_true] at z
      have := of_decide_eq_true (z m (List.mem_of_getElem? hm))
      omega
  rw [this]; rfl
abbrev cmBd (p1 p2 p3 : Pos) : Expr := .Subscript (.Name "prices" p1) (.Name "mast" p2) p3
def spCmL : List (Option V) → Sp := fun ws vs H Q _ => ∃ (e : Addr) (pr : Chs) (m : PySem.Str) (v : Int), ws = [some (.ref e)] ∧ vs = [.str m] ∧ Rd H e (.dK (kvT vI pr)) ∧ getT pr m = some v ∧ Q (.int v) H
def spCM (K : PySem.W.Frag) (CC : Addr) (T : List NTab) : Sp := fun vs H Q _ => ∃ (o pd : Addr) (wt : Int) (hs : List PySem.Str) (pr : Chs), vs = [.ref o, .ref pd] ∧ CallH K CC H o wt hs ∧ Rd H pd (.dK (kvT vI pr)) ∧ hs ≠ [] ∧ (∀ m ∈ hs, m ∈ keysT pr) ∧ TabsN T H ∧
  ∀ H', ExtN H H' → (∀ b, H' b = none → H b = none) → TabsN T H' → Q (.str (cmF pr hs)) H'
section
variable {P : Program} {w : World} {K : PySem.W.Frag} {mg : PySem.Str → Option Value} {base : Heap}
theorem fun_okP {x qual : PySem.Str} {st : Stmt} {f c : Addr} {fd : FuncData} {N ps : List PySem.Str} {k : Nat} {sp : Sp} (F : Fun K x qual st f fd) (hc : fd.code = .ref c) (S : FnScope N ps (defScope st)) (len : ∀ vs H Q E, sp vs H Q E → vs.length = ps.length)
    (hbody : ∀ (A : Around) (outer : List Env) (s : Shared) (H : Hp) (vs : List V) (Q : VK) (E : XK), Room k (A.deeper (envOfC qual (defScope st) s.heap.objs.size f (.ref c))) → sp vs H Q E →
      ∃ t, PSs (cxOf CX0 P w K mg base N qual (defScope st) f (.ref c) A outer s H E).nox (defBody st) t ∧ t { nx := fun _ H' => Q .non H', rt := Q } (L2.start N vs) H) : FnOk P w K mg base CX0 (k + 1) f fd ps sp := by
  obtain ⟨oc, od, kV, doc, pm, an, cdv, ct, osl, rfl, lk, hcd⟩ := F.ex
  obtain rfl : cdv = .ref c := hc
  refine fn_of lk hcd S len fun A outer s H vs Q E hr hsp => ?_
  obtain ⟨t, h, q⟩ := hbody A outer s H vs Q E hr hsp
  exact ⟨t, h.nox, q⟩
theorem lok_cm {f : Addr} {F : NF} {p1 p2 p3 : Pos} (S : NScope ["mast", "prices"] ["mast"] ["prices"] F.scope)
    (hb : ∀ (pm ctv : Value) (us : List Value), us.length = 1 → bindArgs (PySem.W.kla_fn "<lambda>" F.qual F.params (cmBd p1 p2 p3) F.scope F.cl pm (.ref F.c) ctv) ⟨us, []⟩ = pure ((["mast"] : List PySem.Str).zip us)) :
    LOk P w K mg base CX0 1 f F (cmBd p1 p2 p3) ["mast"] ["prices"] spCmL := by
  refine lok_of (N := ["mast", "prices"]) S hb (fun ws vs H Q E h => ?_) (fun A outer s H vs ws Q E hr hf hc hl h => ?_)
  · obtain ⟨e, vl, m, v, _, rfl, _⟩ := h
    rfl
  · obtain ⟨e, vl, m, v, rfl, rfl, he, hv, q⟩ := h
    have hu := hu_of hr
    have v0 : Vis F.scope "mast" := .inl (S.par "mast" (by simp))
    have v1 : Vis F.scope "prices" := .inr (.inr (S.frk "prices" (by simp)))
    refine ⟨_, pe_dget hu (pe_var (i := 1) rfl v1) (pe_var (i := 0) rfl v0) (fun _ _ => rfl), ?_⟩
    exact ⟨_, rfl, _, rfl, e, _, rfl, dgetT (f := vI) he hv, q⟩
theorem scCm : FnScope ["call", "prices"] ["call", "prices"] (defScope sCheapM) := ⟨rfl, rfl, rfl, by decide +kernel, rfl, by decide +kernel, by decide +kernel⟩
theorem ok_cm {f c P' CC : Addr} {fd : FuncData} (F : Fun K "cheapest_mast" "cheapest_mast" sCheapM f fd) (hcd : fd.code = .ref c) (TB : TabB base mg c P') (clC : Cls K CC) (nH : NoAttr K CC "heard") (hmin : mg "min" = none) :
    FnOk P w K mg base CX0 3 f fd ["call", "prices"] (spCM K CC [(P', fun _ _ => "cheapest_mast.<locals>.<lambda>")]) := by
  refine fun_okP F hcd scCm (fun vs H Q E h => ?_) (fun A outer s H vs Q E hr h => ?_)
  · obtain ⟨o, pd, wt, hs, pr, rfl, _⟩ := h
    rfl
  · obtain ⟨o, pd, wt, hs, pr, rfl, ⟨dxo, hh, h1, h2⟩, hp, ne, hk, hT, k⟩ := h
    refine ⟨_, (pss_one (ps_ret (pe_minL kLo false (fun k => cmp_lo k) (x0 := "mast") (fr := ["prices"]) (js := [1]) (k := 1) (sp := fun _ _ => spCmL) (nm := fun _ _ => "cheapest_mast.<locals>.<lambda>") (T := [(P', fun _ _ => "cheapest_mast.<locals>.<lambda>")]) rfl TB rfl (by simp) rfl (fun p hp _ => by rw [List.mem_singleton.mp hp]) rfl (ndef_free (sc := defScope sCheapM) (fr := ["prices"]) (by decide +kernel))
        (fun f c' => lok_cm (nscope_by (by kernel_rfl)) (fun pm ctv us hl => match us, hl with | [_], _ => rfl)) (fun ok => Caps.made ok (ndef_free (sc := defScope sCheapM) (fr := ["prices"]) (by decide +kernel)) (ndef_fr (sc := defScope sCheapM) (fr := ["prices"]) (by decide +kernel)) rfl) (hr.mono (by decide)) (by rfl) hmin (pe_fld (pv 0) rfl)))), ?_⟩
    refine ⟨_, rfl, o, CC, dxo, _, _, rfl, h1, clC, nH, rfl, hT, fun fl c' H2 x2 n2 T2 _ _ _ => ?_⟩
    have hh2 := x2 _ _ h2 fun _ => by simp
    have hp2 := rd_extN hp x2
    refine ⟨hh, hs.map V.str, fun i => prI pr (hs.getD i "m0"), rfl, SqT.of hh2, fun z => ne (List.map_eq_nil_iff.mp z), fun i y hy H3 x3 => ?_, fun i y H3 x3 hy best => ?_⟩
    · rw [List.getElem?_map] at hy
      obtain ⟨m, hm, rfl⟩ := Option.map_eq_some_iff.mp hy
      obtain ⟨v, hv⟩ := getT_key (hk m (List.mem_of_getElem? hm))
      refine ⟨pd, pr, m, v, rfl, rfl, rd_same hp2 x3, hv, fun b o z => z, ?_⟩
      show V.int v = V.int (prI pr (hs.getD i "m0"))
      rw [List.getD_eq_getElem?_getD, hm]
      show V.int v = V.int ((getT pr m).getD 0)
      rw [hv]; rfl
    · rw [List.getElem?_map] at hy
      obtain ⟨m, hm, rfl⟩ := Option.map_eq_some_iff.mp hy
      have gd : ∀ {j : Nat} {x : PySem.Str}, hs[j]? = some x → hs.getD j "m0" = x := fun {j x} e => by rw [List.getD_eq_getElem?_getD, e]; rfl
      have e : cmF pr hs = m := by
        refine cmF_is hm (fun j x hx => ?_) fun j x hj hx => ?_
        · have := best.no j (by rw [List.length_map]; exact (List.getElem?_eq_some_iff.mp hx).1)
          have := of_decide_eq_false (show decide (prI pr (hs.getD j "m0") < prI pr (hs.getD i "m0")) = false from this)
          rw [gd hx, gd hm] at this
          omega
        · have := best.yes j hj
          have := of_decide_eq_true (show decide (prI pr (hs.getD i "m0") < prI pr (hs.getD j "m0")) = true from this)
          rw [gd hx, gd hm] at this
          exact this
      rw [← e]
      exact k H3 (x2.trans (ExtN.of x3)) (fun b hb => n2 b (fresh_back x3 hb)) (TabsN.ext T2 x3)
end
end Mc
namespace Mc
open PySem L2 PySem.Spec PyProof.Rows Gd Evl LamX NdefX
/-- all but one dict stands; tables of code may grow -/
def XN (q : Addr) (H H' : Hp) : Prop := ∀ b o, H b = some o → (∀ ps, o ≠ .tbl ps) → b ≠ q → H' b = some o
structure PrcOf (cls : Cls') (pr : Chs) (js : List PySem.Str) (cs : Cls') : Prop where
  keys : keysT cs = js.filter (heardB cls)
  at_ : ∀ x ∈ cs, x.2.2.1 = prI pr (cmF pr (hdP cls x.1)) ∧ x.2.2.2.Perm (hdP cls x.1)
def PrOk (chs pr : Chs) : Prop := ∀ m ∈ keysT chs, ∃ v, getT pr m = some v ∧ 0 ≤ v ∧ v ≤ 1000
def spPrc (K : PySem.W.Frag) (CS CC : Addr) (T : List NTab) : Sp := fun vs H Q _ => ∃ (sc pd : Addr) (chs pr : Chs) (cls : Cls'), vs = [.ref sc, .ref pd] ∧ SceneH K CS CC H sc chs cls ∧ ScnX CS H sc chs cls ∧ OkC chs cls ∧ Rd H pd (.dK (kvT vI pr)) ∧ PrOk chs pr ∧ TabsN T H ∧
  ∀ (x : Addr) (chs' : Chs) (cs cls' : Cls') (H' : Hp), PrcOf cls pr (keysT cls) cs → OkC chs cs → chs'.Perm chs → cls'.Perm cs → SceneH K CS CC H' x chs' cls' → ScnX CS H' x chs' cls' → ExtN H H' → TabsN T H' → Q (.ref x) H'
structure TxPrc (K : PySem.W.Frag) (mg : PySem.Str → Option Value) (CS CC : Addr) : Prop where
  clS : Cls K CS
  nCh : NoAttr K CS "channels"
  nCa : NoAttr K CS "calls"
  clC : Cls K CC
  nH : NoAttr K CC "heard"
  gD : ∃ t, mg "DEAREST" = some (.int 1000 t)
theorem prc_ok {chs pr : Chs} {cls cs : Cls'} (ok : OkC chs cls) (hp : PrOk chs pr) (h : PrcOf cls pr (keysT cls) cs) : OkC chs cs := by
  have kc : ∀ x ∈ cs, ∃ cd, getT cls x.1 = some cd ∧ hdP cls x.1 = cd.2.2 ∧ heardB cls x.1 = true := fun x hx => by
    have h1 : x.1 ∈ keysT cs := List.mem_map.mpr ⟨x, hx, rfl⟩
    rw [h.keys] at h1
    obtain ⟨h2, h3⟩ := List.mem_filter.mp h1
    obtain ⟨cd, e⟩ := getT_key h2
    exact ⟨cd, e, by unfold hdP; rw [e]; rfl, h3⟩
  refine ⟨ok.nd, by rw [h.keys]; exact ok.ndc.filter _, ok.len, ?_, ok.ch, fun x hx => ?_⟩
  · rw [← keysT_len, h.keys]
    have := ok.lenc
    rw [← keysT_len] at this
    exact Nat.lt_of_le_of_lt (List.length_filter_le _ _) this
  · obtain ⟨cd, e, eh, hb⟩ := kc x hx
    obtain ⟨g0, g1, g2, g3, g4, g5⟩ := ok.cl _ (getT_in e)
    obtain ⟨a1, a2⟩ := h.at_ x hx
    have ne := (heardB_iff cls x.1).mp hb
    have cm := (cmF_ok pr ne).1
    obtain ⟨v, hv, v0, v1⟩ := hp _ (g5 _ (by rw [← eh]; exact cm))
    have ev : prI pr (cmF pr (hdP cls x.1)) = v := by unfold prI; rw [hv]; rfl
    rw [eh] at a2
    exact ⟨g0, by rw [a1, ev]; exact v0, by rw [a1, ev]; exact v1, a2.nodup_iff.mpr g3, by rw [a2.length_eq]; exact g4, fun m hm => g5 m (a2.mem_iff.mp hm)⟩
section
variable {P : Program} {w : World} {K : PySem.W.Frag} {mg : PySem.Str → Option Value} {base : Heap}
abbrev nmPr : List PySem.Str := ["scene", "prices", "mast", "calls", "name", "call"]
theorem scPrc : FnScope nmPr ["scene", "prices"] (defScope sPricedS) := ⟨rfl, rfl, rfl, by decide +kernel, rfl, by decide +kernel, by decide +kernel⟩
theorem ok_prc {f CS CC : Addr} {fd : FuncData} {TT : List NTab} (F : Fun K "priced_scene" "priced_scene" sPricedS f fd) (T : TxPrc K mg CS CC) (c_is_number : Cal P w K mg base 1 "is_number" ["thing", "low", "high"] spIsNum) (c_cheapest_mast : Cal P w K mg base 3 "cheapest_mast" ["call", "prices"] (spCM K CC TT))
    (c_CallT : CalI P w K mg base CC 1 "Call" ["self", "worth", "heard"] (spCInitT K CC)) (c_Scene : CalI P w K mg base CS 4 "Scene" ["self", "channels", "calls"] (spSInit K CS CC)) : FnOk P w K mg base CX0 6 f fd ["scene", "prices"] (spPrc K CS CC TT) := by
  refine F.ok scPrc (fun vs H Q E h => ?_) (fun cdv A outer s H vs Q E hr h => ?_)
  · obtain ⟨sc, pd, chs, pr, cls, rfl, _⟩ := h
    rfl
  · obtain ⟨sc, pd, chs, pr, cls, rfl, hC, hX, ok, hp, hpo, hT, q⟩ := h
    have hu := hu_of hr
    obtain ⟨tD, gD⟩ := T.gD
    refine ⟨_, (pss_cons (ps_lock (ps_for PassesOwn.never rfl (pi_keys (pe_fld (pv 0) rfl)) (pg_name (i := 2) scPrc.nd rfl (Or.inl rfl))
        (pss_one (ps_if (PW.pt (pw_or (pt_cmp (pc_dnotin hu (pv 2) (pv 1))) (pw_or1 (pt_not (pt_val (pe_cal c_is_number (hr.mono (by decide)) rfl (pa_cons (pe_dget hu (pv 1) (pv 2) (fun _ _ => rfl)) (pa_cons pe_int (pa_cons (pe_glob (by rfl) gD rel_int) pa_nil)))))))))
          (pss_one ps_no)
          pss_nil))))
      (pss_cons (ps_set (i := 3) scPrc.nd rfl (Or.inl rfl) pe_dnewK)
      (pss_cons (ps_lock (ps_for PassesOwn.never rfl (pi_items (pe_fld (pv 0) rfl)) (pg_tup rfl (pgs_cons (pg_name (i := 4) scPrc.nd rfl (Or.inl rfl)) (pgs_cons (pg_name (i := 5) scPrc.nd rfl (Or.inl rfl)) pgs_nil)))
        (pss_one (ps_if (pt_truthK (K := K) rfl (pe_fld (pv 5) rfl) (by intro _; rfl))
          (pss_one (ps_dput hu (pv 3) (pv 4) (pe_calI c_CallT (hr.mono (by decide)) rfl (pa_cons (pe_dget hu (pv 1) (pe_cal c_cheapest_mast (hr.mono (by decide)) rfl (pa_cons (pv 5) (pa_cons (pv 1) pa_nil))) (fun _ _ => rfl)) (pa_cons (pe_fld (pv 5) rfl) pa_nil))) rfl))
          pss_nil))))
      (pss_one (ps_ret (pe_calI c_Scene (hr.mono (by decide)) rfl (pa_cons (pe_fld (pv 0) rfl) (pa_cons (pv 3) pa_nil)))))))), ?_⟩
    obtain ⟨dx, a, b, h1, h2, h3⟩ := hX.here
    have nsa : sc ≠ a := fun e => by rw [e, h2] at h1; cases h1
    have nsb : sc ≠ b := fun e => by rw [e, h3] at h1; cases h1
    have lch : chs.length < 64 := ok.len
    have lcl : cls.length < 64 := ok.lenc
    refine q_lockFor h2 (fun od => ev_fld (dx := dx) (ev_var rfl) (by rw [upd_ne nsa]; exact h1) T.clS T.nCh rfl) (fun od i σ' H' => (∃ v2, σ' = [some (.ref sc), some (.ref pd), v2, none, none, none]) ∧ Ex (upd H a (.frz od (.dK (kvT vI chs)))) H') (fun od H1 x1 => ⟨⟨_, rfl⟩, x1⟩) (fun od i σ' H' ⟨_, x⟩ => x _ _ upd_same) ?_ ?_
    · rintro od i y σ' H1 hy ⟨⟨v2, rfl⟩, x1⟩
      obtain ⟨v, hv, v0, v1⟩ := hpo y (List.mem_of_getElem? hy)
      have hp1 : Rd H1 pd (.dK (kvT vI pr)) := by
        refine ex_rd x1 ?_
        by_cases e : pd = a
        · subst e
          rcases hp with hp | ⟨o, hp⟩
          · rw [h2] at hp
            have : kvT vI chs = kvT vI pr := by injection hp with h; injection h
            exact .inr ⟨od, by rw [upd_same, this]⟩
          · rw [h2] at hp; cases hp
        · exact rd_upd' hp e
      refine s_when (b := false) (et_is (et_or (a := false) (b := false) (et_is (et_B (ev_dnotin (f := vI) (ev_var rfl) (ev_var rfl) hp1)) (by rw [decide_eq_true (show y ∈ keysT pr from List.mem_map.mpr ⟨_, getT_in hv, rfl⟩)]; rfl)) fun _ => et_is (et_not (a := true) (et_B (ev_call (ea_cons (ev_dget (f := vI) (ev_var rfl) (ev_var rfl) hp1 hv) (ea_cons ev_c (ea_cons ev_c ea_nil))) fun H2 e Q2 q2 E2 => ⟨v, 0, 1000, rfl, ?_⟩))) rfl) rfl) (fun z => nomatch z) fun _ H2 x2 => ⟨⟨_, rfl⟩, x1.trans x2⟩
      rw [decide_eq_true v0, decide_eq_true v1]
      exact q2 H2 (Ex.refl _)
    rintro od σ' H1' ⟨⟨v2, rfl⟩, x1'⟩
    have x1 : Ex H (upd H1' a (.dK (kvT vI chs))) := ex_unlock h2 x1'
    generalize upd H1' a (.dK (kvT vI chs)) = H1 at x1 ⊢
    clear x1'
    intro cq hcq
    have hcq2 : upd H1 cq (.dK []) cq = some (.dK (kvT vO [])) := upd_same
    have x2 : Ex H (upd H1 cq (.dK [])) := x1.trans (Ex.new hcq)
    have hcqH : H cq = none := fresh_back x1 hcq
    generalize upd H1 cq (.dK []) = H2 at hcq2 x2 ⊢
    have ncb : b ≠ cq := fun e => by rw [← e, h3] at hcqH; cases hcqH
    have T2 : ∀ od, TabsN TT (upd H2 b (.frz od (.dK (kvT vO cls)))) := fun od => TabsN.updD (TabsN.ext hT x2) (.inl (x2 _ _ h3))
    have off : ∀ {u o}, H u = some o → u ≠ b → ∀ od, upd H2 b (.frz od (.dK (kvT vO cls))) u = some o := fun {u o} z n od => by
      rw [upd_ne n]; exact x2 _ _ z
    refine ⟨b, _, x2 _ _ h3, trivial, fun od => ⟨_, rfl, sc, CS, dx, _, _, rfl, off h1 nsb od, T.clS, T.nCa, rfl, b, od, _, rfl, upd_same, for_it walk_items (fun j σ' H' => ∃ (cs : Cls') (v4 v5 : Option V), σ' = [some (.ref sc), some (.ref pd), v2, some (.ref cq), v4, v5] ∧ XN cq (upd H2 b (.frz od (.dK (kvT vO cls)))) H' ∧ H' cq = some (.dK (kvT vO cs)) ∧ PrcOf cls pr ((keysT cls).take j) cs ∧ CallsH K CC H' cs ∧ TabsN TT H')
      ⟨[], _, _, rfl, fun _ _ z _ _ => z, by rw [upd_ne ncb.symm]; exact hcq2, ⟨rfl, fun x hx => (nomatch hx)⟩, fun x hx => (nomatch hx), T2 od⟩ (fun j σ' H' _ ⟨_, _, _, _, k, _⟩ => k b _ upd_same (fun _ => by simp) ncb) ?_ ?_⟩⟩
    · rintro j x σ' H3 H4 hj ⟨cs, v4, v5, rfl, k3, hcq3, hk3, hC3, T3⟩ ⟨tq, k1, w1, rfl, htq, rfl, hk1, hw1⟩
      obtain ⟨z, hz⟩ : ∃ z, cls[j]? = some z := by
        have : j < cls.length := by unfold kvT at hj; rw [List.length_map] at hj; exact hj
        exact ⟨_, List.getElem?_eq_getElem this⟩
      have hzm := List.mem_of_getElem? hz
      have ek1 : k1 = .str z.1 := by
        have h := (show ((kvT vO cls)[j]?).map (fun kv => kV kv.1) = some k1 from hk1)
        unfold kvT at h; rw [List.getElem?_map, hz] at h; exact (Option.some.inj h).symm
      have ew1 : w1 = .ref z.2.1 := by
        have h := (show ((kvT vO cls)[j]?).map Prod.snd = some w1 from hw1)
        unfold kvT at h; rw [List.getElem?_map, hz] at h; exact (Option.some.inj h).symm
      subst ek1 ew1
      have x34 : Ex H3 (upd H3 tq (.tup [.str z.1, .ref z.2.1])) := Ex.new htq
      refine ⟨tq, [.str z.1, .ref z.2.1], rfl, SqT.of upd_same, rfl, _, _, rfl, _, _, rfl, rfl, ?_⟩
      generalize upd H3 tq (.tup [.str z.1, .ref z.2.1]) = H4 at x34 ⊢
      obtain ⟨dxc, hh, c1, c2⟩ := (hC.calls z hzm).here
      have nq : ∀ {u o}, H u = some o → u ≠ cq := fun {u o} y e => by rw [e, hcqH] at y; cases y
      have nb : ∀ {u o}, H u = some o → (∀ kvs, o ≠ .dK kvs) → u ≠ b := fun {u o} y n e => by rw [e, h3] at y; exact n _ (Option.some.inj y).symm
      have old : ∀ {u o}, H u = some o → (∀ kvs, o ≠ .dK kvs) → (∀ ps, o ≠ .tbl ps) → H4 u = some o := fun {u o} y n t => x34 _ _ (k3 u o (off y (nb y n) od) t (nq y))
      have okz := ok.cl z hzm
      have et : (keysT cls).take (j + 1) = (keysT cls).take j ++ [z.1] := by unfold keysT; rw [List.take_add_one, List.getElem?_map, hz]; rfl
      have ehd : hdP cls z.1 = z.2.2.2 := by unfold hdP; rw [show getT cls z.1 = some z.2 from getT_mem ok.ndc hzm]; rfl
      have c1' := old c1 (fun _ => by simp) (fun _ => by simp)
      have c2' := old c2 (fun _ => by simp) (fun _ => by simp)
      have hcq4 := x34 _ _ hcq3
      have hpb : ∀ H', XN cq (upd H2 b (.frz od (.dK (kvT vO cls)))) H' → Rd H' pd (.dK (kvT vI pr)) := fun H' k => by
        rcases hp with hp | ⟨o, hp⟩
        · by_cases e : pd = b
          · subst e
            rw [h3] at hp
            have : kvT vO cls = kvT vI pr := by injection hp with h; injection h
            exact .inr ⟨od, by rw [← this]; exact k _ _ upd_same (fun _ => by simp) (nq h3)⟩
          · exact .inl (k _ _ (off hp e od) (fun _ => by simp) (nq hp))
        · have e : pd ≠ b := fun e => by rw [e, h3] at hp; cases hp
          exact .inr ⟨o, k _ _ (off hp e od) (fun _ => by simp) (nq hp)⟩
      have k4 : XN cq (upd H2 b (.frz od (.dK (kvT vO cls)))) H4 := fun u o y t n => x34 _ _ (k3 u o y t n)
      have hp4 := hpb H4 k4
      dsimp only [gName]
      refine s_when (b := !((z.2.2.2.map V.str).isEmpty)) (et_truT (ev_fld (ev_var rfl) c1' T.clC T.nH rfl) (SqT.of c2')) (fun hb H5 x5 => ?_) fun hb H5 x5 => ?_
      · have hne : z.2.2.2 ≠ [] := fun e => by rw [e] at hb; exact nomatch hb
        have hhb : heardB cls z.1 = true := (heardB_iff cls z.1).mpr (by rw [ehd]; exact hne)
        refine ⟨_, rfl, _, rfl, _, rfl, z.2.1, pd, z.2.2.1, z.2.2.2, pr, rfl, ⟨dxc, hh, x5 _ _ c1', x5 _ _ c2'⟩, ex_rd x5 hp4, hne, fun m hm => ?_, TabsN.ext T3 (x34.trans x5), fun H6 x6 n6 T6 => ?_⟩
        · obtain ⟨v, hv, _⟩ := hpo m (okz.2.2.2.2.2 m hm)
          exact List.mem_map.mpr ⟨_, getT_in hv, rfl⟩
        have cm := (cmF_ok pr hne).1
        obtain ⟨v, hv, v0, v1⟩ := hpo _ (okz.2.2.2.2.2 _ cm)
        have x46 : ExtN H4 H6 := (ExtN.of x5).trans x6
        refine ⟨pd, _, rfl, dgetT (f := vI) (rd_extN hp4 x46) hv, _, rfl, z.2.1, CC, dxc, _, _, rfl, x46 _ _ c1' (fun _ => by simp), T.clC, T.nH, rfl, ?_⟩
        intro p dxp hpn hdx _
        have s67 : Same H6 (upd (upd H6 dxp (.own p)) p (.ins CC dxp [])) := fun b o z => by rw [upd_ne (ne_of_none z hpn), upd_ne (ne_of_none z hdx)]; exact z
        refine ⟨p, dxp, hh, v, z.2.2.2, rfl, upd_same, s67 _ _ (x46 _ _ c2' (fun _ => by simp)), okz.2.2.2.2.1, fun ys H7 hperm _ hcall k7 => ⟨rfl, ?_⟩⟩
        have x67 : Ex H6 H7 := fun u o y => k7 u o (s67 _ _ y) fun e => by rw [List.mem_singleton.mp e] at y; rw [hpn] at y; cases y
        have x47 : ExtN H4 H7 := x46.trans (ExtN.of x67)
        have hcq7 := x47 _ _ hcq4 (fun _ => by simp)
        have nk : z.1 ∉ keysT cs := by
          rw [hk3.keys]
          intro y
          exact nd_take ok.ndc (by unfold keysT; rw [List.getElem?_map, hz]; rfl) (List.mem_filter.mp y).1
        have lcs : cs.length ≤ j := by
          have := congrArg List.length hk3.keys
          rw [keysT_len] at this
          rw [this]
          exact Nat.le_trans (List.length_filter_le _ _) (by rw [List.length_take]; exact Nat.min_le_left _ _)
        have hj64 : j < 64 := Nat.lt_trans (List.getElem?_eq_some_iff.mp hz).1 lcl
        refine ⟨_, rfl, _, rfl, cq, _, rfl, DPut.k (k := Sum.inr z.1) hcq7 (by unfold kvT; rw [List.length_map, sizeLine_eq]; omega), ?_⟩
        have ep := put_new (f := vO) (v := ((p, v, ys) : CD)) nk
        have hm7 : ∀ {u o}, H7 u = some o → (∀ kvs, o ≠ .dK kvs) → upd H7 cq (.dK (putK (kvT vO cs) (Sum.inr z.1) (.ref p))) u = some o := fun {u o} y n => by
          rw [upd_ne fun e => by rw [e, hcq7] at y; exact n _ (Option.some.inj y).symm]; exact y
        refine ⟨cs ++ [(z.1, (p, v, ys))], _, _, rfl, fun u o y t n => ?_, by rw [upd_same]; exact congrArg _ (congrArg _ ep), ⟨?_, fun x hx => ?_⟩, fun x hx => ?_, ?_⟩
        · rw [upd_ne n]; exact x47 _ _ (k4 u o y t n) t
        · have := hk3.keys
          unfold keysT at this ⊢
          rw [List.map_append, this]
          show _ = List.filter (heardB cls) ((keysT cls).take (j + 1))
          rw [et, List.filter_append]
          congr 1
          show [z.1] = List.filter (heardB cls) [z.1]
          rw [List.filter_cons, if_pos hhb]; rfl
        · rcases List.mem_append.mp hx with y | y
          · exact hk3.at_ x y
          · rw [List.mem_singleton.mp y]
            refine ⟨?_, by show ys.Perm (hdP cls z.1); rw [ehd]; exact hperm⟩
            show v = prI pr (cmF pr (hdP cls z.1))
            rw [ehd]; unfold prI; rw [hv]; rfl
        · rcases List.mem_append.mp hx with y | y
          · obtain ⟨dx', h', a1, a2⟩ := (hC3 x y).here
            exact ⟨dx', h', hm7 (x47 _ _ (x34 _ _ a1) fun _ => by simp) (fun _ => by simp), hm7 (x47 _ _ (x34 _ _ a2) fun _ => by simp) (fun _ => by simp)⟩
          · rw [List.mem_singleton.mp y]
            obtain ⟨dx', h', a1, a2⟩ := hcall.here
            exact ⟨dx', h', hm7 a1 (fun _ => by simp), hm7 a2 (fun _ => by simp)⟩
        · exact TabsN.updD (TabsN.ext T6 x67) (.inl hcq7)
      · have hne : z.2.2.2 = [] := by
          cases e : z.2.2.2 with
          | nil => rfl
          | cons _ _ => rw [e] at hb; exact nomatch hb
        have hhb : ¬ heardB cls z.1 = true := fun h => (heardB_iff cls z.1).mp h (by rw [ehd]; exact hne)
        have x35 := x34.trans x5
        refine ⟨cs, _, _, rfl, fun u o y t n => x35 _ _ (k3 u o y t n), x35 _ _ hcq3, ⟨?_, hk3.at_⟩, hC3.same x35, TabsN.ext T3 x35⟩
        rw [et, List.filter_append, hk3.keys]
        have : List.filter (heardB cls) [z.1] = [] := by rw [List.filter_cons, if_neg hhb]; rfl
        rw [this, List.append_nil]
    · rintro σ' H3 ⟨cs, v4, v5, rfl, k3, hcq3, hk3, hC3, T3⟩
      have hb3 := k3 b _ upd_same (fun _ => by simp) ncb
      refine ⟨hb3, ?_⟩
      rw [show (kvT vO cls).length = (keysT cls).length by unfold kvT keysT; rw [List.length_map, List.length_map], List.take_length] at hk3
      have xH : ExtN H (upd H3 b (.dK (kvT vO cls))) := fun u o y t => by
        by_cases e : u = b
        · rw [e, upd_same]; rw [e, h3] at y; exact y
        · rw [upd_ne e]; exact k3 u o (off y e od) t fun e => by rw [e, hcqH] at y; cases y
      have hcq4 : upd H3 b (.dK (kvT vO cls)) cq = some (.dK (kvT vO cs)) := by rw [upd_ne ncb.symm]; exact hcq3
      have hC4 : CallsH K CC (upd H3 b (.dK (kvT vO cls))) cs := fun x hx => by
        obtain ⟨dx', h', a1, a2⟩ := (hC3 x hx).here
        exact ⟨dx', h', by rw [upd_ne fun e => by rw [e, hb3] at a1; cases a1]; exact a1, by rw [upd_ne fun e => by rw [e, hb3] at a2; cases a2]; exact a2⟩
      have T4 : TabsN TT (upd H3 b (.dK (kvT vO cls))) := TabsN.updD T3 (.inr ⟨od, hb3⟩)
      generalize upd H3 b (.dK (kvT vO cls)) = H4 at xH hcq4 hC4 T4 ⊢
      have okp := prc_ok ok hpo hk3
      refine ⟨_, rfl, sc, CS, dx, _, _, rfl, xH _ _ h1 (fun _ => by simp), T.clS, T.nCh, rfl, _, rfl, ?_⟩
      intro x dxx hx hdx _
      have s5 : Same H4 (upd (upd H4 dxx (.own x)) x (.ins CS dxx [])) := fun b o z => by rw [upd_ne (ne_of_none z hx), upd_ne (ne_of_none z hdx)]; exact z
      have naq : a ≠ cq := fun e => by rw [← e, h2] at hcqH; cases hcqH
      refine ⟨x, dxx, a, cq, chs, cs, rfl, naq, upd_same, s5 _ _ (xH _ _ h2 fun _ => by simp), s5 _ _ hcq4, okp, hC4.same s5, fun chs2 cls2 H5 p1 p2 hS hX k5 => ⟨rfl, ?_⟩⟩
      have x45 : Ex H4 H5 := fun u o y => k5 u o (s5 _ _ y) fun e => by rw [List.mem_singleton.mp e] at y; rw [hx] at y; cases y
      exact q x chs2 cs cls2 H5 hk3 okp p1 p2 hS hX (xH.trans (ExtN.of x45)) (TabsN.ext T4 x45)
end
end Mc
namespace Mc
open PySem L2 PySem.Spec PyProof.Rows Evl
/-! over a dict's values; sorted(d), list(d), sorted(list) as new lists -/
theorem walk_vT {β : Type} {g : β → V} {l : List (PySem.Str × β)} {d : Addr} {o : Obj} : Walk (Itd d o (kvT g l)) l.length (fun H => H d = some (.frz o (.dK (kvT g l)))) (YAt (l.map fun x => g x.2)) := by
  have e : (kvT g l).length = l.length := by unfold kvT; rw [List.length_map]
  rw [← e]
  refine walk_values.mono (fun _ h => h) ?_
  rintro i H x H' hi _ ⟨rfl, k, hk⟩
  refine ⟨rfl, ?_⟩
  unfold kvT at hk
  rw [List.getElem?_map] at hk
  rw [List.getElem?_map]
  cases e2 : l[i]? with
  | none => rw [e2] at hk; cases hk
  | some z =>
    rw [e2] at hk
    cases Option.some.inj hk
    rfl
section
variable {β : Type} {g : β → V} {K : PySem.W.Frag} {H : Hp} {σ : L2.St} {te tl : TE} {a : Addr} {vs : List Nat} {j : Nat} {l : List (PySem.Str × β)} {o : Obj}
theorem el_mV (f : PySem.Str × β → V) (hl : Ev tl σ H (.ref a)) (h : H a = some (.frz o (.dK (kvT g l)))) (hz : l.length ≤ 100000) (turn : ∀ (i : Nat) y, l[i]? = some y → ∀ H', Ex H H' → Ev te ((wipe σ vs).set j (some (g y.2))) H' (f y)) (hw : ∀ v, wipe ((wipe σ vs).set j (some v)) vs = wipe σ vs := by intro _; rfl) :
    EvL (tLc (iVals tl) (gName j) tYes te vs) σ H (l.map f) := fun H1 e Q q => hl H1 e _ fun H2 e2 => ⟨a, o, _, rfl, e2 _ _ (e _ _ h), fun D hD =>
  lc_m (j := j) (c := fun x : PySem.Str × β => g x.2) (ys := l) walk_vT f rfl hD (fun H' s => s _ _ (e2 _ _ (e _ _ h))) (sz_of hz) (fun i y H' k hy s hk => turn i y hy H' ((e.trans e2).trans s) H' (Ex.refl _) k hk) (fun H' s hD' => q D H' (fresh_back e2 hD) (e2.trans s) hD') hw⟩
theorem EvL.go {xs : List V} {Q : VK} (h : EvL te σ H xs) (k : ∀ p H2, H p = none → Ex H H2 → H2 p = some (.lst xs) → Q (.ref p) H2) : te σ H Q := h H (Ex.refl H) Q k
theorem keys_kvT : (kvT g l).map (fun x => x.1) = (keysT l).map Sum.inr := by unfold kvT keysT; rw [List.map_map, List.map_map]; rfl
theorem kV_kvT : (kvT g l).map (fun kv => kV kv.1) = (keysT l).map V.str := by unfold kvT keysT; rw [List.map_map, List.map_map]; rfl
def rSrtD : List V → Hp → VK → Prop := fun xs H Q => ∃ (a : Addr) (kvs : List (L2.Key × V)) (ks : List PySem.Str), xs = [.ref a] ∧ Rd H a (.dK kvs) ∧ kvs.map (·.1) = ks.map Sum.inr ∧ ks.length < 64 ∧ ∀ ys p, ys.Perm ks → sortedS ys = true → H p = none → Q (.ref p) (upd H p (.lst (ys.map V.str)))
def rLstD : List V → Hp → VK → Prop := fun xs H Q => ∃ (a : Addr) (kvs : List (L2.Key × V)), xs = [.ref a] ∧ Rd H a (.dK kvs) ∧ ∀ p, H p = none → Q (.ref p) (upd H p (.lst (kvs.map fun kv => kV kv.1)))
def rLstS (K : PySem.W.Frag) : List V → Hp → VK → Prop := fun xs H Q => ∃ p ys, xs = [.ref p] ∧ (SqL K H p ys ∨ SqT K H p ys) ∧ ∀ l, H l = none → Q (.ref l) (upd H l (.lst ys))
theorem cr_srtD {X : Cx} (hc : X.calm = true) : CallR X (.builtin "sorted") rSrtD := call_sortedD hc
theorem cr_lstD {X : Cx} (hc : X.calm = true) : CallR X (.type "list") rLstD := call_listD hc
theorem cr_lstS {X : Cx} (h : X.K = K) : CallR X (.type "list") (rLstS K) := by subst h; exact call_list_of
theorem cr_srtSK {X : Cx} (h : X.K = K) : CallR X (.builtin "sorted") (rSortedS K) := by subst h; exact cr_sortedS
/-- sorted(d) of a dict whose keys stand sorted -/
theorem el_srtD (h : Ev te σ H (.ref a)) (hd : Rd H a (.dK (kvT g l))) (srt : sortedS (keysT l) = true) (hz : l.length < 64) : EvL (tCB rSrtD (tCons te tNil)) σ H ((keysT l).map V.str) := fun H1 e Q q =>
  h H1 e _ fun H2 e2 => ⟨a, _, keysT l, rfl, ex_rd (e.trans e2) hd, keys_kvT, by unfold keysT; rw [List.length_map]; exact hz, fun ys p pm s hp => by
    rw [srt_eq pm s srt]
    exact q p _ (fresh_back e2 hp) (e2.trans (Ex.new hp)) upd_same⟩
theorem el_lstD (h : Ev te σ H (.ref a)) (hd : Rd H a (.dK (kvT g l))) : EvL (tCB rLstD (tCons te tNil)) σ H ((keysT l).map V.str) := fun H1 e Q q =>
  h H1 e _ fun H2 e2 => ⟨a, _, rfl, ex_rd (e.trans e2) hd, fun p hp => by
    rw [kV_kvT]
    exact q p _ (fresh_back e2 hp) (e2.trans (Ex.new hp)) upd_same⟩
/-- sorted(xs) of texts -/
theorem el_srtS {xs zs : List PySem.Str} (h : Ev te σ H (.ref a)) (hx : SqL K H a (xs.map V.str)) (hz : xs.length < 64) (pm : zs.Perm xs) (srt : sortedS zs = true) : EvL (tCB (rSortedS K) (tCons te tNil)) σ H (zs.map V.str) := fun H1 e Q q =>
  h H1 e _ fun H2 e2 => ⟨a, xs, rfl, ex_l (e.trans e2) hx, hz, fun ys p pm2 s hp => by
    rw [srt_eq (pm2.trans pm.symm) s srt]
    exact q p _ (fresh_back e2 hp) (e2.trans (Ex.new hp)) upd_same⟩
theorem mem_sortS (xs : List PySem.Str) : ∃ zs : List PySem.Str, zs.Perm xs ∧ sortedS zs = true := by
  induction xs with
  | nil => exact ⟨[], .nil, rfl⟩
  | cons x xs ih =>
    obtain ⟨zs, p, s⟩ := ih
    have pw := srt_pw s
    refine ⟨zs.filter (fun z => decide (ltN z x)) ++ x :: zs.filter (fun z => !decide (ltN z x)), ?_, ?_⟩
    · have := List.filter_append_perm (fun z => decide (ltN z x)) zs
      exact (List.perm_middle).trans ((this.trans p).cons x)
    · refine sortedS_of_pairwise _ ?_
      have key : (zs.filter (fun z => decide (ltN z x)) ++ x :: zs.filter (fun z => !decide (ltN z x))).Pairwise fun a b => ¬ ltN b a := by
        refine List.pairwise_append.mpr ⟨pw.filter _, List.pairwise_cons.mpr ⟨fun y hy => ?_, pw.filter _⟩, fun y hy z hz => ?_⟩
        · have := (List.mem_filter.mp hy).2
          simpa using this
        · have h1 : ltN y x := of_decide_eq_true (List.mem_filter.mp hy).2
          rcases List.mem_cons.mp hz with e | e
          · rw [e]; exact fun h2 => ltN_irr _ (ltN_trans h1 h2)
          · have h2 : ¬ ltN z x := by simpa using (List.mem_filter.mp e).2
            exact fun h3 => h2 (ltN_trans h3 h1)
      refine key.imp fun {a b} z => ?_
      rw [ltCps_eq]
      exact decide_eq_false z
end
end Mc
namespace Mc
open PySem L2 PySem.Spec PyProof.Rows Gd Evl LamX NdefX
abbrev sCheapest : Stmt := top 26
abbrev sSaved : Stmt := top 27
/-- the mast that is bought for a call -/
def buyM (pr : Chs) (cs : Cls') (u : PySem.Str) : PySem.Str := cmF pr (hdP cs u)
def costI (pr : Chs) (cs : Cls') (U : List PySem.Str) : Int := ((U.map (buyM pr cs)).map (prI pr)).sum
/-- what cheapest finds out -/
structure ChpOf (chs : Chs) (cls : Cls') (pr : Chs) (cs : Cls') (lot U : List PySem.Str) : Prop where
  prc : PrcOf cls pr (keysT cls) cs
  ok : OkC chs cs
  kept : KeptOf chs cs lot
  nd : U.Nodup
  mem : ∀ x, x ∈ U ↔ x ∈ keysT cs ∧ x ∉ lot
def spChp (K : PySem.W.Frag) (CS CC : Addr) (T : List NTab) : Sp := fun vs H Q _ => ∃ (sc pd : Addr) (chs pr : Chs) (cls : Cls'), vs = [.ref sc, .ref pd] ∧ SceneH K CS CC H sc chs cls ∧ ScnX CS H sc chs cls ∧ OkC chs cls ∧ Rd H pd (.dK (kvT vI pr)) ∧ PrOk chs pr ∧ TabsN T H ∧
  ∀ (t dd : Addr) (cs : Cls') (lot U ks : List PySem.Str) (H' : Hp), ChpOf chs cls pr cs lot U → ks.Nodup → sortedS ks = true → (∀ m, m ∈ ks ↔ m ∈ U.map (buyM pr cs)) → H' t = some (.tup [.int (costI pr cs U), .ref dd]) → H' dd = some (.dK (kvT vI (ks.map fun m => (m, ((U.map (buyM pr cs)).count m : Nat))))) → ExtN H H' → TabsN T H' → Q (.ref t) H'
structure TxCh (K : PySem.W.Frag) (mg : PySem.Str → Option Value) (CS CC CT : Addr) : Prop where
  clS : Cls K CS
  nCa : NoAttr K CS "calls"
  clC : Cls K CC
  nW : NoAttr K CC "worth"
  clT : Cls K CT
  nPap : NoAttr K CT "papers"
  sorted : mg "sorted" = none
  set : mg "set" = none
  sum : mg "sum" = none
theorem chp_buy {chs : Chs} {cls : Cls'} {pr : Chs} {cs : Cls'} (ok : OkC chs cls) (hp : PrOk chs pr) (h : PrcOf cls pr (keysT cls) cs) {u : PySem.Str} (hu : u ∈ keysT cs) : hdP cs u ≠ [] ∧ (∀ m ∈ hdP cs u, m ∈ keysT pr) ∧ buyM pr cs u ∈ hdP cs u ∧ (hdP cs u).Perm (hdP cls u) ∧ u ∈ hearers cls ∧ ∃ v, getT pr (buyM pr cs u) = some v ∧ 0 ≤ v := by
  obtain ⟨cd, e⟩ := getT_key hu
  have hcs := getT_in e
  have ecs : hdP cs u = cd.2.2 := by unfold hdP; rw [e]; rfl
  have pm : (hdP cs u).Perm (hdP cls u) := by rw [ecs]; exact (h.at_ _ hcs).2
  have hu2 := hu
  rw [h.keys] at hu2
  obtain ⟨h2, h3⟩ := List.mem_filter.mp hu2
  have ne : hdP cs u ≠ [] := fun z => (heardB_iff cls u).mp h3 (by rw [z] at pm; exact List.Perm.nil_eq pm |>.symm)
  obtain ⟨cd2, e2⟩ := getT_key h2
  have hall : ∀ m ∈ hdP cs u, m ∈ keysT chs := fun m hm => by
    have : m ∈ hdP cls u := pm.mem_iff.mp hm
    have ecl : hdP cls u = cd2.2.2 := by unfold hdP; rw [e2]; rfl
    rw [ecl] at this
    exact (ok.cl _ (getT_in e2)).2.2.2.2.2 m this
  have cm := (cmF_ok pr ne).1
  obtain ⟨v, hv, v0, _⟩ := hp _ (hall _ cm)
  refine ⟨ne, fun m hm => ?_, cm, pm, hu2, v, hv, v0⟩
  obtain ⟨v, hv, _⟩ := hp m (hall m hm)
  exact List.mem_map.mpr ⟨_, getT_in hv, rfl⟩
section
variable {P : Program} {w : World} {K : PySem.W.Frag} {mg : PySem.Str → Option Value} {base : Heap}
abbrev nmCh : List PySem.Str := ["scene", "prices", "priced", "masts", "cost", "name", "mast"]
theorem scCh : FnScope nmCh ["scene", "prices"] (defScope sCheapest) := ⟨rfl, rfl, rfl, by decide +kernel, rfl, by decide +kernel, by decide +kernel⟩
theorem ok_chp {f CT CS CC : Addr} {fd : FuncData} {TT : List NTab} (F : Fun K "cheapest" "cheapest" sCheapest f fd) (T : TxCh K mg CS CC CT) (c_priced_scene : Cal P w K mg base 6 "priced_scene" ["scene", "prices"] (spPrc K CS CC TT)) (c_cheapest_mast : Cal P w K mg base 3 "cheapest_mast" ["call", "prices"] (spCM K CC TT))
    (c_Kept : CalI P w K mg base CT 5 "Kept" ["self", "scene"] (spTInit K CT CS CC)) : FnOk P w K mg base CX0 7 f fd ["scene", "prices"] (spChp K CS CC TT) := by
  refine F.ok scCh (fun vs H Q E h => ?_) (fun cdv A outer s H vs Q E hr h => ?_)
  · obtain ⟨sc, pd, chs, pr, cls, rfl, _⟩ := h
    rfl
  · obtain ⟨sc, pd, chs, pr, cls, rfl, hC, hX, ok, hp, hpo, hT, q⟩ := h
    have hu := hu_of hr
    refine ⟨_, (pss_cons (ps_set (i := 2) scCh.nd rfl (Or.inr rfl) (pe_cal c_priced_scene (hr.mono (by decide)) rfl (pa_cons (pv 0) (pa_cons (pv 1) pa_nil))))
      (pss_cons (ps_set (i := 3) scCh.nd rfl (Or.inr rfl) (pe_lc (own := [("name", 5)]) (g := gName 5) (tt := tYes) rfl scCh.nd (pi_keys (pe_frz (pe_fld (pe_calI c_Kept (hr.mono (by decide)) rfl (pa_cons (pv 2) pa_nil)) rfl))) (blkOk_by (own := [("name", 5)]) (N := nmCh) (sc := defScope sCheapest) (by decide +kernel)) (fun _ _ _ _ _ => pg_name (i := 5) scCh.nd rfl (Or.inl rfl)) (fun _ _ _ _ _ => pts_nil) (fun _ _ _ _ _ => (pe_cal c_cheapest_mast (hr.mono (by decide)) rfl (pa_cons (pe_dget hu (pe_fldK (K := K) rfl (pv 2) rfl) (pv 5) (fun _ _ => rfl)) (pa_cons (pv 1) pa_nil))))))
      (pss_cons (ps_set (i := 4) scCh.nd rfl (Or.inl rfl) (pe_callB (cr_sumK (K := K) rfl rfl) (by rfl) T.sum boot_sum (pa_cons (pe_lc (own := [("mast", 6)]) (g := gName 6) (tt := tYes) rfl scCh.nd (pi_list (pv 3)) (blkOk_by (own := [("mast", 6)]) (N := nmCh) (sc := defScope sCheapest) (by decide +kernel)) (fun _ _ _ _ _ => pg_name (i := 6) scCh.nd rfl (Or.inl rfl)) (fun _ _ _ _ _ => pts_nil) (fun _ _ _ _ _ => (pe_dget hu (pv 1) (pv 6) (fun _ _ => rfl)))) pa_nil)))
      (pss_one (ps_ret (pe_tup (pa_cons (pv 4) (pa_cons (pe_dc (own := [("mast", 6)]) (g := gName 6) (tt := tYes) rfl scCh.nd (pi_list (pe_callB (cr_srtX rfl) (by rfl) T.sorted boot_sorted (pa_cons (pe_callTy (cr_setXK (K := K) (P := P) (w := w) rfl rfl rfl rfl) (by rfl) T.set boot_set (pa_cons (pv 3) pa_nil)) pa_nil))) (blkOk_by (own := [("mast", 6)]) (N := nmCh) (sc := defScope sCheapest) (by decide +kernel)) (fun _ _ _ _ _ => pg_name (i := 6) scCh.nd rfl (Or.inl rfl)) (fun _ _ _ _ _ => pts_nil) (fun _ _ _ _ _ => (pv 6)) (fun _ _ _ _ _ => (pe_bmK (K := K) rfl PySem.F.plainAttrs_list PySem.F.slot_list_count PySem.F.type_list_count (mt_lcountSK (K := K) rfl) (pv 3) (pa_cons (pv 6) pa_nil)))) pa_nil)))))))), ?_⟩
    refine ⟨_, rfl, _, rfl, sc, pd, chs, pr, cls, rfl, hC, hX, ok, hp, hpo, hT, fun x chs1 cs cls1 H1 hprc okp p1 p2 hS1 hX1 x1 T1 => ?_⟩
    have hp1 := rd_extN hp x1
    have ok1 := okp.perm p1 p2
    have kx : ∀ c, c ∈ keysT cls1 ↔ c ∈ keysT cs := fun c => (p2.map Prod.fst).mem_iff
    have ex : ∀ c, hdP cls1 c = hdP cs c := fun c => by unfold hdP; rw [getT_perm okp.ndc p2]
    refine ⟨_, rfl, fun p dx0 hpn hdx _ => ?_⟩
    have s1 : Same H1 (upd (upd H1 dx0 (.own p)) p (.ins CT dx0 [])) := fun b o z => by rw [upd_ne (ne_of_none z hpn), upd_ne (ne_of_none z hdx)]; exact z
    refine ⟨p, dx0, x, chs1, cls1, rfl, upd_same, hS1.same s1, ok1, fun t a2 e lot st pp zz H2 hM hK hHa hHe k2 => ⟨rfl, ?_⟩⟩
    have x2 : Ex H1 H2 := fun u o z => k2 u o (s1 u o z) fun hu => by rw [List.mem_singleton.mp hu, hpn] at z; cases z
    obtain ⟨dx2, hp2⟩ := hK.here
    refine ⟨p, CT, dx2, _, _, rfl, hp2, T.clT, T.nPap, rfl, ?_⟩
    refine ⟨e, _, rfl, hK.pap, trivial, fun od => ?_⟩
    have eH1 : H1 e = none := fresh_back s1 hHe
    have x3 : Ex H1 (upd H2 e (.frz od (.dK (kvT vA pp)))) := fun u o z => by
      have ne : u ≠ e := fun q => by rw [q] at z; rw [eH1] at z; cases z
      rw [upd_ne ne]
      exact x2 _ _ z
    have he3 : upd H2 e (.frz od (.dK (kvT vA pp))) e = some (.frz od (.dK (kvT vA pp))) := upd_same
    have T3 : TabsN TT (upd H2 e (.frz od (.dK (kvT vA pp)))) := TabsN.updD (TabsN.ext T1 x2) (.inl hK.pap)
    generalize upd H2 e (.frz od (.dK (kvT vA pp))) = H3 at x3 he3 T3 ⊢
    have ppc : ∀ x ∈ keysT pp, x ∈ keysT cs := fun x hx => (kx x).mp ((hM.pmem x).mp hx).1
    have kO : KeptOf chs cs lot := hM.of.perm okp p1 p2
    have cO : ChpOf chs cls pr cs lot (keysT pp) := ⟨hprc, okp, kO, hM.pnd, fun y => by rw [hM.pmem, kx]⟩
    have lpp : (keysT pp).length < 64 := by
      have := len_sub hM.pnd ppc
      have l2 := okp.lenc
      rw [keysT_len (l := cs)] at this
      omega
    have hS3 := hS1.same x3
    have hp3 := ex_rd x3 hp1
    obtain ⟨dxs, ca, cb, e1, e2, e3⟩ := (hX1.same x3).here
    clear k2 s1 hHa hHe eH1 hpn hdx x2 hp2 hK
    refine ⟨e, od, rfl, .inl ⟨_, he3, fun D hD => lc_it walk_keys (fun i H' => ExtN H3 H' ∧ (∀ b, H' b = none → H3 b = none) ∧ TabsN TT H' ∧ H' D = some (.lst ((((keysT pp).take i).map (buyM pr cs)).map V.str))) ⟨ExtN.of (Ex.new hD), fun b hb => fresh_back (Ex.new hD) hb, TabsN.ext T3 (Ex.new hD), upd_same⟩ (fun i H' _ k => k.1 _ _ he3 fun _ => by simp) ?_ ?_⟩⟩
    · rintro i v _ H4 hi ⟨x4, n4, T4, hD4⟩ ⟨rfl, kk, v', hk, rfl⟩
      obtain ⟨z, hz, rfl, rfl⟩ := kvT_get hk
      have hzk : z.1 ∈ keysT pp := List.mem_map.mpr ⟨z, List.mem_of_getElem? hz, rfl⟩
      have et : (keysT pp).take (i + 1) = (keysT pp).take i ++ [z.1] := by unfold keysT; rw [List.take_add_one, List.getElem?_map, hz]; rfl
      obtain ⟨cd, hcd⟩ := getT_key ((kx _).mpr (ppc _ hzk))
      obtain ⟨dxc, hh, c1, c2⟩ := (hS3.calls _ (getT_in hcd)).here
      have ecd : cd.2.2 = hdP cs z.1 := by rw [← ex]; unfold hdP; rw [hcd]; rfl
      obtain ⟨b1, b2, b3, b4, b5, b6⟩ := chp_buy ok hpo hprc (ppc _ hzk)
      refine ⟨rfl, yes_ite ⟨_, rfl, x, CS, dxs, _, _, rfl, x4 _ _ e1 (fun _ => by simp), T.clS, T.nCa, rfl, _, rfl, cb, _, rfl, dgetT (f := vO) (.inl (x4 _ _ e3 fun _ => by simp)) hcd, _, rfl, ?_⟩⟩
      refine ⟨cd.1, pd, cd.2.1, cd.2.2, pr, rfl, ⟨dxc, hh, x4 _ _ c1 (fun _ => by simp), x4 _ _ c2 (fun _ => by simp)⟩, rd_extN hp3 x4, by rw [ecd]; exact b1, by rw [ecd]; exact b2, T4, fun H5 x5 n5 T5 => ?_⟩
      have hD5 := x5 _ _ hD4 fun _ => by simp
      refine ⟨_, hD5, ?_, fun b o z t => ?_, fun b hb => n4 b (n5 b (upd_none hb)), ?_, ?_⟩
      · rw [List.length_map, List.length_map, List.length_take, sizeLine_eq]
        omega
      · rw [upd_ne (ne_of_none z hD)]; exact x5 _ _ (x4 _ _ z t) t
      · exact tabs_updl T5 hD5
      · rw [upd_same, et, List.map_append, List.map_append, ecd]; rfl
    · rintro H4 ⟨x4, n4, T4, hD4⟩
      rw [show (kvT vA pp).length = (keysT pp).length by unfold kvT keysT; rw [List.length_map, List.length_map], List.take_length] at hD4
      generalize hU : keysT pp = U at cO hD4 ppc lpp
      generalize hms : U.map (buyM pr cs) = ms at hD4
      have lms : ms.length < 64 := by rw [← hms, List.length_map]; exact lpp
      have hp4 := rd_extN hp3 x4
      have hpr : ∀ m ∈ ms, ∃ v, getT pr m = some v := fun m hm => by
        rw [← hms] at hm
        obtain ⟨u, hu, rfl⟩ := List.mem_map.mp hm
        obtain ⟨_, _, _, _, _, v, hv, _⟩ := chp_buy ok hpo hprc (ppc _ hu)
        exact ⟨v, hv⟩
      dsimp only [gName]
      refine q_asg (ev_sumM (K := K) (ys := ms) (p := prI pr) (el_mL (K := K) (ys := ms) (c := V.str) _ (ev_var rfl) (SqL.of hD4) (by omega) fun i m hm H5 x5 => ?_)) fun H5 x5 => ?_
      · obtain ⟨v, hv⟩ := hpr m (List.mem_of_getElem? hm)
        refine ev_is (ev_dget (f := vI) (ev_var rfl) (ev_var rfl) (ex_rd x5 hp4) hv) ?_
        unfold prI; rw [hv]; rfl
      have hD5 := x5 _ _ hD4
      refine ⟨_, rfl, _, rfl, D, ms, rfl, SqL.of hD5, lms, fun g n hg hn => ⟨g, _, n, rfl, upd_same, by omega, fun ks l nd hks srt hl5 => ?_⟩⟩
      have s5 := (Same.new (o := SetXO P w g ms n) hg).trans (Same.new (o := .lst (ks.map V.str)) hl5)
      refine ⟨l, rfl, ⟨_, SqL.of upd_same⟩, fun D2 hD2 => dc_m (j := 6) (ys := ks) walk_list (fun y => V.int ((ms.count y : Nat) : Int)) (by rw [List.length_map]) nd hD2 (fun H' s => SqL.of (s _ _ upd_same)) (sz_of ?_) (fun i y H' k hy s hk => ?_) (fun H' s hD' => ?_)⟩
      · have := len_sub nd fun x hx => (hks x).mp hx
        omega
      · exact ⟨_, rfl, .inl ⟨rfl, _, SqL.of (s _ _ (s5 _ _ hD5))⟩, _, rfl, D, ms, y, rfl, rfl, SqL.of (s _ _ (s5 _ _ hD5)), hk _ (Ex.refl _)⟩
      · refine ⟨(by show 2 ≤ sizeLine; decide), fun tt htt => ?_⟩
        have xx : Ex H5 (upd H' tt (.tup [.int (ms.map (prI pr)).sum, .ref D2])) := fun b o z => (Ex.new htt) _ _ (s _ _ (s5 _ _ z))
        refine q tt D2 cs lot U ks _ cO nd srt (by rw [hms]; exact hks) ?_ ?_ (x1.trans ((ExtN.of x3).trans (x4.trans (ExtN.of (x5.trans xx))))) (TabsN.ext T4 (x5.trans xx))
        · rw [upd_same]
          unfold costI
          rw [hms]
        · rw [upd_ne (ne_of_none hD' htt), hD', hms, ← mkD_kvT]
end
end Mc
namespace Mc
open PySem L2 PySem.Spec PyProof.Rows Gd Evl LamX NdefX
/-! saved; prices that are none -/
def worthI (cls : Cls') (pr : Chs) : Int := ((hearers cls).map fun c => prI pr (cmF pr (hdP cls c))).sum
def spSaved (K : PySem.W.Frag) (CS CC : Addr) (T : List NTab) : Sp := fun vs H Q _ => ∃ (sc pd : Addr) (chs pr : Chs) (cls : Cls'), vs = [.ref sc, .ref pd] ∧ SceneH K CS CC H sc chs cls ∧ ScnX CS H sc chs cls ∧ OkC chs cls ∧ Rd H pd (.dK (kvT vI pr)) ∧ PrOk chs pr ∧ TabsN T H ∧
  ∀ (cs : Cls') (lot U : List PySem.Str) (H' : Hp), ChpOf chs cls pr cs lot U → ExtN H H' → TabsN T H' → Q (.int (worthI cls pr - costI pr cs U)) H'
theorem isum_permL {α : Type} {l l' : List α} (p : l.Perm l') (f : α → Int) : (l.map f).sum = (l'.map f).sum := by
  induction p with
  | nil => rfl
  | cons x _ ih => rw [List.map_cons, List.map_cons, List.sum_cons, List.sum_cons, ih]
  | swap x y l => rw [List.map_cons, List.map_cons, List.map_cons, List.map_cons, List.sum_cons, List.sum_cons, List.sum_cons, List.sum_cons]; omega
  | trans _ _ a b => rw [a, b]
theorem worth_sum {cls cs cs' : Cls'} {pr : Chs} (h : PrcOf cls pr (keysT cls) cs) (p : cs'.Perm cs) : (cs'.map fun x => x.2.2.1).sum = worthI cls pr := by
  rw [isum_permL p, List.map_congr_left fun x hx => (h.at_ x hx).1]
  unfold worthI hearers
  rw [← h.keys]
  unfold keysT
  rw [List.map_map]
  rfl
/-- the first mast whose price is none -/
structure BadAt (chs : Chs) (pv : List (PySem.Str × V)) (x : PySem.Str) : Prop where
  ex : ∃ i, (keysT chs)[i]? = some x ∧ ∀ (j : Nat) y, j < i → (keysT chs)[j]? = some y → ∃ n : Int, getT pv y = some (.int n) ∧ 0 ≤ n ∧ n ≤ 1000
  bad : ∃ v, getT pv x = some v ∧ (v = .non ∨ ∃ n : Int, v = .int n ∧ ¬(0 ≤ n ∧ n ≤ 1000))
def spNumV : Sp := fun vs H Q _ => ∃ (v : V) (lo hi : Int), vs = [v, .int lo, .int hi] ∧ ((∃ n, v = .int n ∧ Q (.bl (decide (lo ≤ n) && decide (n ≤ hi))) H) ∨ (v = .non ∧ Q (.bl false) H))
abbrev vV : V → V := id
/-- BadName of a mast: the masts may be left locked -/
def spPrcX (CS CB : Addr) : Sp := fun vs H _ E => ∃ (sc pd dx a b : Addr) (chs : Chs) (pv : List (PySem.Str × V)) (x : PySem.Str), vs = [.ref sc, .ref pd] ∧ H sc = some (.ins CS dx [("channels", .ref a), ("calls", .ref b)]) ∧ Rd H a (.dK (kvT vI chs)) ∧ chs.length < 64 ∧ Rd H pd (.dK (kvT vV pv)) ∧ a ≠ pd ∧ BadAt chs pv x ∧
  ∀ d H', (∀ u o, u ≠ a → H u = some o → H' u = some o) → Rd H' a (.dK (kvT vI chs)) → H' d = some (.xd [("name", .str x)]) → E (.ref CB) (some d) H'
def CalBd (P : Program) (w : World) (K : PySem.W.Frag) (mg : PySem.Str → Option Value) (base : Heap) (CB : Addr) (f : PySem.Str) : Prop :=
  ∃ (fI : Addr) (fd : FuncData), PySem.W.findIn K (.ref CB) "__init__" = some (some (.ref fI)) ∧ PySem.W.isFn K (.ref fI) = true ∧ Binds K fd ["self", f] [] ∧ FnOk P w K mg base CX0 1 fI fd ["self", f] (spBadI CB f)
section
variable {P : Program} {w : World} {K : PySem.W.Frag} {mg : PySem.Str → Option Value} {base : Heap}
theorem scSv : FnScope ["scene", "prices", "priced", "call"] ["scene", "prices"] (defScope sSaved) := ⟨rfl, rfl, rfl, by decide +kernel, rfl, by decide +kernel, by decide +kernel⟩
theorem ok_saved {f CT CS CC : Addr} {fd : FuncData} {TT : List NTab} (F : Fun K "saved" "saved" sSaved f fd) (T : TxCh K mg CS CC CT) (c_priced_scene : Cal P w K mg base 6 "priced_scene" ["scene", "prices"] (spPrc K CS CC TT)) (c_cheapest : Cal P w K mg base 7 "cheapest" ["scene", "prices"] (spChp K CS CC TT)) :
    FnOk P w K mg base CX0 8 f fd ["scene", "prices"] (spSaved K CS CC TT) := by
  refine F.ok scSv (fun vs H Q E h => ?_) (fun cdv A outer s H vs Q E hr h => ?_)
  · obtain ⟨sc, pd, chs, pr, cls, rfl, _⟩ := h
    rfl
  · obtain ⟨sc, pd, chs, pr, cls, rfl, hC, hX, ok, hp, hpo, hT, q⟩ := h
    have hu := hu_of hr
    refine ⟨_, (pss_cons (ps_set (i := 2) scSv.nd rfl (Or.inl rfl) (pe_cal c_priced_scene (hr.mono (by decide)) rfl (pa_cons (pv 0) (pa_cons (pv 1) pa_nil))))
      (pss_one (ps_ret (pe_op op_sub (pe_callB (cr_sumK (K := K) rfl rfl) (by rfl) T.sum boot_sum (pa_cons (pe_lock (pe_lc (own := [("call", 3)]) (g := gName 3) (tt := tYes) rfl scSv.nd (pi_values (pe_fld (pv 2) rfl)) (blkOk_by (own := [("call", 3)]) (N := ["scene", "prices", "priced", "call"]) (sc := defScope sSaved) (by decide +kernel)) (fun _ _ _ _ _ => pg_name (i := 3) scSv.nd rfl (Or.inl rfl)) (fun _ _ _ _ _ => pts_nil) (fun _ _ _ _ _ => (pe_fldK (K := K) rfl (pv 3) rfl)))) pa_nil)) (pe_ix ix_tup (pe_cal c_cheapest (hr.mono (by decide)) rfl (pa_cons (pv 0) (pa_cons (pv 1) pa_nil))) pe_int (fun _ _ => rfl)))))), ?_⟩
    refine ⟨_, rfl, _, rfl, sc, pd, chs, pr, cls, rfl, hC, hX, ok, hp, hpo, hT, fun x chs1 cs cls1 H1 hprc okp p1 p2 hS1 hX1 x1 T1 => ?_⟩
    obtain ⟨dxs, ca, cb, e1, e2, e3⟩ := hX1.here
    have nxb : x ≠ cb := fun e => by rw [e, e3] at e1; cases e1
    have l1 : cls1.length < 64 := (okp.perm p1 p2).lenc
    refine (ev_sumM (K := K) (ys := cls1) (p := fun x => x.2.2.1) (el_lock e3 fun od => el_mV (g := vO) (l := cls1) _ (ev_fld (dx := dxs) (ev_var rfl) (by rw [upd_ne nxb]; exact e1) T.clS T.nCa rfl) upd_same (by omega) fun i y hy H2 x2 => ?_)) H1 (Ex.refl _) _ fun H2 x2 => ?_
    · obtain ⟨dxc, hh, c1, c2⟩ := (hS1.calls y (List.mem_of_getElem? hy)).here
      exact ev_fld (ev_var rfl) (x2 _ _ (by rw [upd_ne fun e => by rw [e, e3] at c1; cases c1]; exact c1)) T.clC T.nW rfl
    have x12 : ExtN H H2 := x1.trans (ExtN.of x2)
    refine ⟨_, rfl, _, rfl, sc, pd, chs, pr, cls, rfl, hC.extN x12, hX.extN x12, ok, rd_extN hp x12, hpo, TabsN.ext T1 x2, fun t dd cs2 lot U ks H3 cO _ _ _ ht _ x3 T3 => ⟨t, _, 0, _, rfl, rfl, SqT.of ht, rfl, _, _, rfl, rfl, ?_⟩⟩
    rw [worth_sum hprc p2]
    exact q cs2 lot U H3 cO (x12.trans x3) T3
theorem scNumV : FnScope ["thing", "low", "high"] ["thing", "low", "high"] (defScope sIsNum) := ⟨rfl, rfl, rfl, by decide +kernel, rfl, by decide +kernel, by decide +kernel⟩
theorem ok_numV {f : Addr} {fd : FuncData} (F : Fun K "is_number" "is_number" sIsNum f fd) (T : TxN mg) : FnOk P w K mg base CX0 1 f fd ["thing", "low", "high"] spNumV := by
  refine F.ok scNumV (fun vs H Q E h => ?_) (fun cdv A outer s H vs Q E hr h => ?_)
  · obtain ⟨x, lo, hi, rfl, _⟩ := h
    rfl
  · obtain ⟨x, lo, hi, rfl, h⟩ := h
    refine ⟨_, (pss_one (ps_ret (pe_and (pe_callB call_isi (by rfl) T.isi boot_isinstance (pa_cons (pv 0) (pa_cons (pe_bltn (v := .ty "int") (by rfl) T.int boot_int rfl) pa_nil))) (pe_and (pe_not (pe_callB call_isi (by rfl) T.isi boot_isinstance (pa_cons (pv 0) (pa_cons (pe_bltn (v := .ty "bool") (by rfl) T.bool (by rfl) rfl) pa_nil)))) (pe_one (pe_chain op_le op_le (pv 1) (pv 0) (pv 2))))))), ?_⟩
    rcases h with ⟨n, rfl, q⟩ | ⟨rfl, q⟩
    · refine ⟨_, rfl, _, _, _, _, _, rfl, .ty "int", .base (.int _), by rfl, true, rfl, _, rfl, _, _, _, _, _, rfl, .ty "bool", .base (.int _), by rfl, false, rfl, true, rfl, ?_⟩
      refine ⟨_, rfl, _, rfl, _, _, rfl, rfl, _, rfl, ?_⟩
      refine ite2 (fun h => ?_) (fun h => ?_)
      · refine ⟨_, rfl, _, _, rfl, rfl, ?_⟩
        rw [decide_eq_true (of_decide_eq_true h)] at q
        exact q
      · rw [Bool.eq_false_iff.mpr h] at q
        exact q
    · exact ⟨_, rfl, _, _, _, _, _, rfl, .ty "int", .base .non, by rfl, false, rfl, q⟩
theorem prcX_loop {tr : TS} {D : Ends} {CS sc pd dx a b : Addr} {chs : Chs} {pw : List (PySem.Str × V)} {x : PySem.Str} {v2 : Option V} {H0 : Hp} {od : Obj} (clS : Cls K CS) (nCh : NoAttr K CS "channels") (h1 : H0 sc = some (.ins CS dx [("channels", .ref a), ("calls", .ref b)])) (h2 : H0 a = some (.frz od (.dK (kvT vI chs)))) (hp : Rd H0 pd (.dK (kvT vV pw))) (B : BadAt chs pw x)
    (hr : ∀ (D' : Ends) H', Ex H0 H' → tr D' [some (.ref sc), some (.ref pd), some (.str x), none, none, none] H') :
    tFor (iKeys (tFld K (tVar 0) "channels")) (gName 2) (tIfS (tOr (tB (tDNotIn (tVar 2) (tVar 1))) (tNot (tB (tCall spNumV [] E0 (tCons (tDGet (tVar 1) (tVar 2)) (tCons (tC (.int 0)) (tCons (tC (.int 1000)) tNil))))))) tr tNext) D [some (.ref sc), some (.ref pd), v2, none, none, none] H0 := by
  obtain ⟨⟨i0, hi0, hgood⟩, vx, hvx, hbad⟩ := B
  have li0 := (List.getElem?_eq_some_iff.mp hi0).1
  refine ⟨_, rfl, sc, CS, dx, _, _, rfl, h1, clS, nCh, rfl, a, od, rfl, .inl ⟨_, h2, for_it walk_kT (fun j σ' H' => (∃ v2, σ' = [some (.ref sc), some (.ref pd), v2, none, none, none]) ∧ Ex H0 H' ∧ j ≤ i0) ⟨⟨_, rfl⟩, Ex.refl _, Nat.zero_le _⟩ (fun j σ' H' _ k => k.2.1 _ _ h2) ?_ ?_⟩⟩
  · rintro j y σ' H1 H2 hj ⟨⟨v2, rfl⟩, x1, hji⟩ ⟨rfl, hy⟩
    rw [List.getElem?_map] at hy
    obtain ⟨m, hm, rfl⟩ := Option.map_eq_some_iff.mp hy
    have hp1 := ex_rd x1 hp
    by_cases e : j = i0
    · subst e
      rw [hi0] at hm
      obtain rfl := Option.some.inj hm
      refine s_if (b := true) (et_is (et_or (a := false) (b := true) (et_is (et_B (ev_dnotin (f := vV) (ev_var rfl) (ev_var rfl) hp1)) (by rw [decide_eq_true (show x ∈ keysT pw from List.mem_map.mpr ⟨_, getT_in hvx, rfl⟩)]; rfl)) fun _ => et_is (et_not (a := false) (et_B (ev_call (ea_cons (ev_dget (f := vV) (ev_var rfl) (ev_var rfl) hp1 hvx) (ea_cons ev_c (ea_cons ev_c ea_nil))) fun H3 e3 Q2 q2 E2 => ⟨vx, 0, 1000, rfl, ?_⟩))) rfl) rfl) (fun _ H3 x3 => hr _ H3 (x1.trans x3)) (fun z => nomatch z)
      rcases hbad with rfl | ⟨n, rfl, hn⟩
      · exact .inr ⟨rfl, q2 H3 (Ex.refl _)⟩
      · refine .inl ⟨n, rfl, ?_⟩
        rw [show (decide (0 ≤ n) && decide (n ≤ 1000)) = false by
          rw [← Bool.not_eq_true]; intro z; rw [Bool.and_eq_true] at z; exact hn ⟨of_decide_eq_true z.1, of_decide_eq_true z.2⟩]
        exact q2 H3 (Ex.refl _)
    · obtain ⟨n, hn, n0, n1⟩ := hgood j m (by omega) hm
      refine s_if (b := false) (et_is (et_or (a := false) (b := false) (et_is (et_B (ev_dnotin (f := vV) (ev_var rfl) (ev_var rfl) hp1)) (by rw [decide_eq_true (show m ∈ keysT pw from List.mem_map.mpr ⟨_, getT_in hn, rfl⟩)]; rfl)) fun _ => et_is (et_not (a := true) (et_B (ev_call (ea_cons (ev_dget (f := vV) (ev_var rfl) (ev_var rfl) hp1 hn) (ea_cons ev_c (ea_cons ev_c ea_nil))) fun H3 e3 Q2 q2 E2 => ⟨.int n, 0, 1000, rfl, .inl ⟨n, rfl, ?_⟩⟩))) rfl) rfl) (fun z => nomatch z) (fun _ H3 x3 => ⟨⟨_, rfl⟩, x1.trans x3, by omega⟩)
      rw [decide_eq_true n0, decide_eq_true n1]
      exact q2 H3 (Ex.refl _)
  · rintro σ' H1 ⟨_, _, h⟩
    omega
theorem ok_prcX {f CS CC CB : Addr} {fd : FuncData} (F : Fun K "priced_scene" "priced_scene" sPricedS f fd) (T : TxPrc K mg CS CC) (TB : OexB K CB) (mgB : mg "BadName" = some (.ref CB)) (c_is_number : Cal P w K mg base 1 "is_number" ["thing", "low", "high"] spNumV) (cB : CalBd P w K mg base CB "name") :
    FnOk P w K mg base (L2.CX P w) 4 f fd ["scene", "prices"] (spPrcX CS CB) := by
  obtain ⟨fI, fdI, iC, tI, bI, FI⟩ := cB
  refine F.okX scPrc (fun vs H Q E h => ?_) (fun cdv A outer s H vs Q E hr h => ?_)
  · obtain ⟨sc, pd, dx, a, b, chs, pv, x, rfl, _⟩ := h
    rfl
  · obtain ⟨sc, pd, dx, a, b, chs, pw, x, rfl, h1, h2, lch, hp, nap, B, q⟩ := h
    have hu := hu_of hr
    obtain ⟨tD, gD⟩ := T.gD
    rcases h2 with h2 | ⟨od, h2⟩
    · refine ⟨_, (pss_cons (ps_lock (ps_for (passes_of rfl) rfl (pi_keys (pe_fldK (K := K) rfl (pv 0) rfl)) (pg_name (i := 2) scPrc.nd rfl (Or.inl rfl))
        (pss_one (ps_if (PW.pt (pw_or (pt_cmp (pc_dnotin hu (pv 2) (pv 1))) (pw_or1 (pt_not (pt_val (pe_cal c_is_number (hr.mono (by decide)) rfl (pa_cons (pe_dget hu (pv 1) (pv 2) (fun _ _ => rfl)) (pa_cons pe_int (pa_cons (pe_glob (by rfl) gD rel_int) pa_nil)))))))))
          (pss_one (ps_raise rfl (takes_of rfl rfl rfl rfl) (pmk_B TB iC tI FI (hr.mono (by decide)) bI rfl mgB (pa_cons (pv 2) pa_nil))))
          pss_nil))))
        (pss_cons ps_no (pss_cons ps_no (pss_one ps_no)))), ?_⟩
      have nsa : sc ≠ a := fun e => by rw [e, h2] at h1; cases h1
      refine ⟨a, _, h2, trivial, fun od => prcX_loop (x := x) T.clS T.nCh (by rw [upd_ne nsa]; exact h1) upd_same (rd_upd' hp nap.symm) B fun D' H' x1 => ?_⟩
      refine ⟨_, rfl, mkB_one fun d hd => ?_⟩
      have x2 := Ex.new (o := .xd [("name", .str x)]) hd
      exact q d _ (fun u o n z => x2 _ _ (x1 _ _ (by rw [upd_ne n]; exact z))) (.inr ⟨od, x2 _ _ (x1 _ _ upd_same)⟩) upd_same
    · refine ⟨_, (pss_cons (ps_for (passes_of rfl) rfl (pi_keys (pe_fldK (K := K) rfl (pv 0) rfl)) (pg_name (i := 2) scPrc.nd rfl (Or.inl rfl))
        (pss_one (ps_if (PW.pt (pw_or (pt_cmp (pc_dnotin hu (pv 2) (pv 1))) (pw_or1 (pt_not (pt_val (pe_cal c_is_number (hr.mono (by decide)) rfl (pa_cons (pe_dget hu (pv 1) (pv 2) (fun _ _ => rfl)) (pa_cons pe_int (pa_cons (pe_glob (by rfl) gD rel_int) pa_nil)))))))))
          (pss_one (ps_raise rfl (takes_of rfl rfl rfl rfl) (pmk_B TB iC tI FI (hr.mono (by decide)) bI rfl mgB (pa_cons (pv 2) pa_nil))))
          pss_nil)))
        (pss_cons ps_no (pss_cons ps_no (pss_one ps_no)))), ?_⟩
      refine prcX_loop (x := x) T.clS T.nCh h1 h2 hp B fun D' H' x1 => ?_
      refine ⟨_, rfl, mkB_one fun d hd => ?_⟩
      have x2 := Ex.new (o := .xd [("name", .str x)]) hd
      exact q d _ (fun u o n z => x2 _ _ (x1 _ _ z)) (.inr ⟨od, x2 _ _ (x1 _ _ h2)⟩) upd_same
theorem ok_chpX {f CS CB : Addr} {fd : FuncData} (F : Fun K "cheapest" "cheapest" sCheapest f fd) (c_priced_scene : CalX P w K mg base 4 "priced_scene" ["scene", "prices"] (spPrcX CS CB)) : FnOk P w K mg base (L2.CX P w) 5 f fd ["scene", "prices"] (spPrcX CS CB) := by
  refine F.okX scCh (fun vs H Q E h => ?_) (fun cdv A outer s H vs Q E hr h => ?_)
  · obtain ⟨sc, pd, dx, a, b, chs, pv, x, rfl, _⟩ := h
    rfl
  · obtain ⟨sc, pd, dx, a, b, chs, pw, x, rfl, h1, h2, lch, hp, nap, B, q⟩ := h
    refine ⟨_, (pss_cons (ps_set (i := 2) scCh.nd rfl (Or.inr rfl) (pe_calX c_priced_scene (hr.mono (by decide)) (by rfl) (fun σ => passAt (takes_of rfl rfl rfl rfl) σ) (pa_cons (pv 0) (pa_cons (pv 1) pa_nil))))
      (pss_cons ps_no (pss_cons ps_no (pss_one ps_no)))), ?_⟩
    exact ⟨_, rfl, _, rfl, sc, pd, dx, a, b, chs, pw, x, rfl, h1, h2, lch, hp, nap, B, q⟩
end
end Mc
namespace Mc
open PySem L2 PySem.Spec PyProof.Rows Gd Evl
/-- kept: the lot, in order of names -/
def spKeptS (K : PySem.W.Frag) (CS CC : Addr) : Sp := fun vs H Q _ => ∃ (sc : Addr) (chs : Chs) (cls : Cls'), vs = [.ref sc] ∧ SceneH K CS CC H sc chs cls ∧ OkC chs cls ∧
  ∀ (t : Addr) (lot : List PySem.Str) (H' : Hp), KeptOf chs cls lot → sortedS lot = true → H' t = some (.tup (lot.map V.str)) → Ex H H' → Q (.ref t) H'
section
variable {P : Program} {w : World} {K : PySem.W.Frag} {mg : PySem.Str → Option Value} {base : Heap}
theorem ok_keptS {f CT CK CS CC : Addr} {fd : FuncData} (F : Fun K "kept" "kept" sKept f fd) (T : TxT K mg CT CK CS) (c_Kept : CalI P w K mg base CT 5 "Kept" ["self", "scene"] (spTInit K CT CS CC)) : FnOk P w K mg base CX0 7 f fd ["scene"] (spKeptS K CS CC) := by
  refine F.ok scKept (fun vs H Q E h => ?_) (fun cdv A outer s H vs Q E hr h => ?_)
  · obtain ⟨sc, chs, cls, rfl, _⟩ := h
    rfl
  · obtain ⟨sc, chs, cls, rfl, hC, ok, q⟩ := h
    refine ⟨_, (pss_one (ps_ret (pe_fld (pe_calI c_Kept (hr.mono (by decide)) rfl (pa_cons (pv 0) pa_nil)) rfl))), ?_⟩
    refine ⟨_, rfl, fun p dx hp hdx npd => ?_⟩
    have s1 : Same H (upd (upd H dx (.own p)) p (.ins CT dx [])) := fun b o z => by rw [upd_ne (ne_of_none z hp), upd_ne (ne_of_none z hdx)]; exact z
    have hp1 : (upd (upd H dx (.own p)) p (.ins CT dx [])) p = some (.ins CT dx []) := upd_same
    generalize upd (upd H dx (.own p)) p (.ins CT dx []) = H1 at s1 hp1 ⊢
    refine ⟨p, dx, sc, chs, cls, rfl, hp1, hC.same s1, ok, fun t a e lot st pp zz H2 hM hK _ _ k2 => ⟨rfl, ?_⟩⟩
    obtain ⟨dx2, hp2⟩ := hK.here
    refine ⟨p, CT, dx2, _, _, rfl, hp2, T.cl, T.nLot, rfl, ?_⟩
    refine q t lot H2 hM.of ?_ hK.lt fun u o z => k2 u o (s1 u o z) fun hu => by rw [List.mem_singleton.mp hu, hp] at z; cases z
    rw [← hM.keys]
    refine sorted_of_pw ?_
    unfold keysT
    exact List.pairwise_map.mpr hM.asc
end
end Mc
namespace Mc
open PySem L2 PySem.Spec PyProof.Rows Gd
theorem getT_add (chs ms : Chs) (m : PySem.Str) : getT (addM chs ms) m = (getT chs m).map fun n => n + (getT ms m).getD 0 := by
  unfold addM
  induction chs with
  | nil => rfl
  | cons x l ih =>
    rw [List.map_cons, getT_cons, getT_cons, ih]
    by_cases e : x.1 = m
    · subst e
      simp
    · simp [e]
theorem keys_add (chs ms : Chs) : keysT (addM chs ms) = keysT chs := by
  unfold addM keysT
  rw [List.map_map]
  rfl
theorem more_add {chs ms : Chs} {cls : Cls'} {ds : List PySem.Str} (ok : OkC chs cls) (hd : ∀ d ∈ ds, d ∈ keysT chs) (h : ∀ m, (getT ms m).getD 0 = (ds.count m : Nat)) : MoreC chs (addM chs ms) cls cls ds := by
  refine ⟨fun m => ?_, fun _ => rfl, fun _ => Iff.rfl⟩
  rw [getT_add, h]
  cases e : getT chs m with
  | none =>
    have : m ∉ ds := fun z => getT_none.mp e (hd m z)
    rw [List.count_eq_zero.mpr this]; rfl
  | some n =>
    have := (ok.ch _ (getT_in e)).2.1
    show (n + ((ds.count m : Nat) : Int)).toNat = n.toNat + ds.count m
    have h0 : 0 ≤ n := this
    omega
theorem okC_add {chs ms : Chs} {cls : Cls'} (ok : OkC chs cls) (sm : SmallS chs cls) (h : ∀ m, 0 ≤ (getT ms m).getD 0 ∧ (getT ms m).getD 0 ≤ 100) : OkC (addM chs ms) cls := by
  refine ⟨by rw [keys_add]; exact ok.nd, ok.ndc, by unfold addM; rw [List.length_map]; exact ok.len, ok.lenc, fun x hx => ?_, fun x hx => ?_⟩
  · obtain ⟨y, hy, rfl⟩ := List.mem_map.mp hx
    obtain ⟨a, b, c⟩ := ok.ch y hy
    have := h y.1
    have := sm.2.1 y hy
    exact ⟨a, by show 0 ≤ y.2 + _; omega, by show y.2 + _ ≤ 1000; omega⟩
  · obtain ⟨a, b, c, d, e, f⟩ := ok.cl x hx
    exact ⟨a, b, c, d, e, fun m hm => by rw [keys_add]; exact f m hm⟩
theorem getT_mk {f : PySem.Str → Int} (ks : List PySem.Str) (m : PySem.Str) : getT (ks.map fun k => (k, f k)) m = if m ∈ ks then some (f m) else none := by
  induction ks with
  | nil => rfl
  | cons k ks ih =>
    rw [List.map_cons, getT_cons, ih]
    by_cases e : k = m
    · subst e; simp
    · have e' : ¬ m = k := fun z => e z.symm
      simp [e, e']
theorem sum_cast (f : PySem.Str → Nat) (ks : List PySem.Str) : ((ks.map fun m => ((f m : Nat) : Int))).sum = (((ks.map f).sum : Nat) : Int) := by
  induction ks with
  | nil => rfl
  | cons k ks ih => rw [List.map_cons, List.sum_cons, ih, List.map_cons, List.sum_cons]; omega
/-- the masts of a row, one for each channel -/
def rowM (rs : Chs) : List PySem.Str := rs.flatMap fun x => List.replicate x.2.toNat x.1
theorem row_len {rs : Chs} (nn : ∀ x ∈ rs, 0 ≤ x.2) : ((rowM rs).length : Int) = (rs.map (·.2)).sum := by
  induction rs with
  | nil => rfl
  | cons x rs ih =>
    have h1 := nn x (.head _)
    have h2 := ih fun y hy => nn y (.tail _ hy)
    unfold rowM at h2 ⊢
    rw [List.flatMap_cons, List.length_append, List.length_replicate, List.map_cons, List.sum_cons]
    omega
theorem row_mem {rs : Chs} {d : PySem.Str} (h : d ∈ rowM rs) : d ∈ keysT rs := by
  obtain ⟨x, hx, hd⟩ := List.mem_flatMap.mp h
  rw [List.eq_of_mem_replicate hd]
  exact List.mem_map.mpr ⟨x, hx, rfl⟩
theorem row_cnt {rs : Chs} (nd : (keysT rs).Nodup) (nn : ∀ x ∈ rs, 0 ≤ x.2) (m : PySem.Str) : (getT rs m).getD 0 = ((rowM rs).count m : Nat) := by
  induction rs with
  | nil => rfl
  | cons x rs ih =>
    obtain ⟨n1, n2⟩ := List.nodup_cons.mp nd
    have h1 := nn x (.head _)
    have h2 := ih n2 fun y hy => nn y (.tail _ hy)
    have e : rowM (x :: rs) = List.replicate x.2.toNat x.1 ++ rowM rs := by unfold rowM; rw [List.flatMap_cons]
    rw [e, List.count_append, List.count_replicate, getT_cons]
    by_cases q : x.1 = m
    · subst q
      have z : (rowM rs).count x.1 = 0 := List.count_eq_zero.mpr fun z => n1 (row_mem z)
      rw [z]
      simp; omega
    · rw [if_neg q, h2]; simp [q]
theorem get_nn {rs : Chs} (nn : ∀ x ∈ rs, 0 ≤ x.2) {m : PySem.Str} : 0 ≤ (getT rs m).getD 0 := by
  cases e : getT rs m with
  | none => exact Int.le_refl _
  | some n => exact nn _ (getT_in e)

/-! the mathematics of the law of buying -/
def prN (pr : Chs) (m : PySem.Str) : Nat := (prI pr m).toNat
def mpN (cls : Cls') (pr : Chs) (c : PySem.Str) : Nat := prN pr (cmF pr (hdP cls c))
theorem cm_perm {pr : Chs} {hs hs' : List PySem.Str} (p : hs.Perm hs') : prI pr (cmF pr hs) = prI pr (cmF pr hs') := by
  by_cases e : hs = []
  · subst e; rw [List.Perm.nil_eq p]
  · have e' : hs' ≠ [] := fun z => e (by rw [z] at p; exact p.eq_nil)
    obtain ⟨a1, a2⟩ := cmF_ok pr e
    obtain ⟨b1, b2⟩ := cmF_ok pr e'
    have := a2 _ (p.mem_iff.mpr b1)
    have := b2 _ (p.mem_iff.mp a1)
    omega
theorem sum_castN {α : Type} (f : α → Nat) (ks : List α) : ((ks.map fun m => ((f m : Nat) : Int))).sum = (((ks.map f).sum : Nat) : Int) := by
  induction ks with
  | nil => rfl
  | cons k ks ih => rw [List.map_cons, List.sum_cons, ih, List.map_cons, List.sum_cons]; omega
section
variable {chs pr : Chs} {cls cs : Cls'} {lot U : List PySem.Str}
theorem chp_priced (ok : OkC chs cls) (hp : PrOk chs pr) (h : PrcOf cls pr (keysT cls) cs) (okc : OkC chs cs) : PricedC cls cs (prN pr) (mpN cls pr) := by
  have ku : ∀ c ∈ hearers cls, c ∈ keysT cs := fun c hc => by rw [h.keys]; exact hc
  refine ⟨okc.ndc, fun c => by rw [h.keys]; exact Iff.rfl, fun c hc m => ?_, fun c hc => ?_, fun c hc => ?_, fun c hc m hm => ?_⟩
  · exact (chp_buy ok hp h (ku c hc)).2.2.2.1.mem_iff
  · obtain ⟨_, _, _, pm, _, v, hv, v0⟩ := chp_buy ok hp h (ku c hc)
    obtain ⟨cd, e⟩ := getT_key (ku c hc)
    have e1 := (h.at_ _ (getT_in e)).1
    have e2 := cm_perm (pr := pr) pm
    have ev : prI pr (buyM pr cs c) = v := by unfold prI; rw [hv]; rfl
    unfold buyM at ev
    have ew : wOf cs c = cd.2.1 := by unfold wOf; rw [e]; rfl
    rw [ew]
    have e1 : cd.2.1 = prI pr (cmF pr (hdP cls c)) := e1
    unfold mpN prN
    omega
  · have ne := (heardB_iff cls c).mp (List.mem_filter.mp hc).2
    exact ⟨_, (cmF_ok pr ne).1, rfl⟩
  · have ne := (heardB_iff cls c).mp (List.mem_filter.mp hc).2
    have := (cmF_ok pr ne).2 m hm
    unfold mpN prN
    omega
theorem chp_mem (C : ChpOf chs cls pr cs lot U) (x : PySem.Str) : x ∈ U ↔ x ∈ hearers cls ∧ x ∉ lot := by
  rw [C.mem, C.prc.keys]; exact Iff.rfl
theorem chp_cost (ok : OkC chs cls) (hp : PrOk chs pr) (C : ChpOf chs cls pr cs lot U) : costI pr cs U = ((wsum (mpN cls pr) U : Nat) : Int) := by
  unfold costI wsum
  rw [List.map_map, ← sum_castN]
  refine congrArg List.sum (List.map_congr_left fun u hu => ?_)
  obtain ⟨_, _, _, pm, _, v, hv, v0⟩ := chp_buy ok hp C.prc ((C.mem u).mp hu).1
  have e2 := cm_perm (pr := pr) pm
  have ev : prI pr (buyM pr cs u) = v := by unfold prI; rw [hv]; rfl
  show prI pr (buyM pr cs u) = ((mpN cls pr u : Nat) : Int)
  unfold mpN prN
  rw [← e2]
  show prI pr (buyM pr cs u) = ((prI pr (buyM pr cs u)).toNat : Int)
  omega
theorem chp_ds (ok : OkC chs cls) (hp : PrOk chs pr) (C : ChpOf chs cls pr cs lot U) : ∀ d ∈ U.map (buyM pr cs), d ∈ keysT chs := fun d hd => by
  obtain ⟨u, hu, rfl⟩ := List.mem_map.mp hd
  obtain ⟨_, _, h3, pm, h5, _⟩ := chp_buy ok hp C.prc ((C.mem u).mp hu).1
  have hm : buyM pr cs u ∈ hdP cls u := pm.mem_iff.mp h3
  have hk := (List.mem_filter.mp h5).1
  obtain ⟨cd, e⟩ := getT_key hk
  have eh : hdP cls u = cd.2.2 := by unfold hdP; rw [e]; rfl
  rw [eh] at hm
  exact (ok.cl _ (getT_in e)).2.2.2.2.2 _ hm
/-- with the channels that are bought all who are heard are kept -/
theorem chp_ok {chs2 : Chs} {cls2 : Cls'} {lot2 : List PySem.Str} (ok : OkC chs cls) (hp : PrOk chs pr) (C : ChpOf chs cls pr cs lot U) (k2 : KeptOf chs2 cls2 lot2) (nd2 : (keysT cls2).Nodup) (M : MoreC chs chs2 cls cls2 (U.map (buyM pr cs))) (x : PySem.Str) : x ∈ lot2 ↔ x ∈ hearers cls :=
  buy_ok (chp_priced ok hp C.prc C.ok) nd2 C.kept k2 (chp_mem C) (fun u hu => by
    obtain ⟨_, _, h3, pm, _⟩ := chp_buy ok hp C.prc ((C.mem u).mp hu).1
    exact pm.mem_iff.mp h3) M x
theorem chp_least {chs2 : Chs} {cls2 : Cls'} {lot2 ds : List PySem.Str} (ok : OkC chs cls) (hp : PrOk chs pr) (C : ChpOf chs cls pr cs lot U) (k2 : KeptOf chs2 cls2 lot2) (M : MoreC chs chs2 cls cls2 ds) (all : ∀ x, x ∈ hearers cls → x ∈ lot2) : costI pr cs U ≤ ((wsum (prN pr) ds : Nat) : Int) := by
  rw [chp_cost ok hp C]
  have := buy_least ok.ndc (chp_priced ok hp C.prc C.ok) C.kept k2 C.nd (chp_mem C) M all
  omega
theorem chp_same {cs2 : Cls'} {lot2 U2 : List PySem.Str} (ok : OkC chs cls) (hp : PrOk chs pr) (C : ChpOf chs cls pr cs lot U) (C2 : ChpOf chs cls pr cs2 lot2 U2) : costI pr cs U = costI pr cs2 U2 := by
  rw [chp_cost ok hp C, chp_cost ok hp C2]
  have P1 := chp_priced ok hp C.prc C.ok
  have P2 := chp_priced ok hp C2.prc C2.ok
  have nl : ∀ {cs : Cls'} {lot : List PySem.Str}, KeptOf chs cs lot → lot.Nodup := fun {_ _} k => by obtain ⟨_, _, _, x, _⟩ := k; exact x
  have part : ∀ {cs : Cls'} {lot U : List PySem.Str}, ChpOf chs cls pr cs lot U → wsum (mpN cls pr) lot + wsum (mpN cls pr) U = wsum (mpN cls pr) (hearers cls) := fun {cs lot U} C => by
    have P := chp_priced ok hp C.prc C.ok
    have pm : (lot ++ U).Perm (hearers cls) := perm_nd (List.nodup_append.mpr ⟨nl C.kept, C.nd, fun x hx y hy e => ((C.mem y).mp hy).2 (e ▸ hx)⟩) (hear_nd ok.ndc) fun x => by
      rw [List.mem_append, chp_mem C]
      constructor
      · rintro (z | z)
        · exact P.sub C.kept x z
        · exact z.1
      · intro z
        by_cases e : x ∈ lot
        · exact .inl e
        · exact .inr ⟨z, e⟩
    have e := wsum_perm (w := mpN cls pr) pm
    rw [wsum_app] at e
    exact e
  have le : ∀ {cs cs2 : Cls'} {lot lot2 U U2 : List PySem.Str}, ChpOf chs cls pr cs lot U → ChpOf chs cls pr cs2 lot2 U2 → wsum (mpN cls pr) lot2 ≤ wsum (mpN cls pr) lot := fun {cs cs2 lot lot2 U U2} C C2 => by
    have P := chp_priced ok hp C.prc C.ok
    have Q := chp_priced ok hp C2.prc C2.ok
    have s2 := Q.sub C2.kept
    exact kept_weight (w := mpN cls pr) P.nd (fun x hx => P.wt x ((P.keys x).mp hx)) C.kept (nl C2.kept) (fun x hx => (P.keys x).mpr (s2 x hx)) ((P.seat s2).mpr ((Q.seat s2).mp (kept_seat C2.kept)))
  have a := part C
  have b := part C2
  have c := le C C2
  have d := le C2 C
  omega
end
/-- the price of some channels by masts -/
theorem price_counts (pr : Chs) {ks ms : List PySem.Str} (nd : ks.Nodup) (h : ∀ m ∈ ms, m ∈ ks) : (ks.map fun m => prI pr m * ((ms.count m : Nat) : Int)).sum = (ms.map (prI pr)).sum := by
  induction ms with
  | nil =>
    rw [List.map_nil, List.sum_nil]
    have : (ks.map fun m => prI pr m * ((([] : List PySem.Str).count m : Nat) : Int)) = ks.map fun _ => 0 := List.map_congr_left fun m _ => by simp
    rw [this]
    clear this nd h
    induction ks with
    | nil => rfl
    | cons k ks ih => rw [List.map_cons, List.sum_cons, ih]; rfl
  | cons a ms ih =>
    have ih2 := ih fun m hm => h m (.tail _ hm)
    rw [List.map_cons, List.sum_cons, ← ih2]
    have ha := h a (.head _)
    clear ih2 ih h
    induction ks with
    | nil => cases ha
    | cons k ks ih =>
      obtain ⟨n1, n2⟩ := List.nodup_cons.mp nd
      rw [List.map_cons, List.map_cons, List.sum_cons, List.sum_cons, List.count_cons]
      by_cases e : a = k
      · subst e
        have : (ks.map fun m => prI pr m * (((a :: ms).count m : Nat) : Int)) = ks.map fun m => prI pr m * ((ms.count m : Nat) : Int) := List.map_congr_left fun m hm => by
          rw [List.count_cons]
          have : ¬ a = m := fun z => n1 (z ▸ hm)
          simp [this]
        rw [this]
        simp [Int.mul_add]
        omega
      · have ha' : a ∈ ks := (List.mem_cons.mp ha).resolve_left e
        rw [ih n2 ha']
        simp [e]
        omega
theorem row_price {pr rs : Chs} (hpr : ∀ x ∈ rs, 0 ≤ prI pr x.1) (nn : ∀ x ∈ rs, 0 ≤ x.2) : ((wsum (prN pr) (rowM rs) : Nat) : Int) = (rs.map fun x => prI pr x.1 * x.2).sum := by
  induction rs with
  | nil => rfl
  | cons x rs ih =>
    have h1 := nn x (.head _)
    have h2 := ih (fun y hy => hpr y (.tail _ hy)) fun y hy => nn y (.tail _ hy)
    have h3 := hpr x (.head _)
    have e : rowM (x :: rs) = List.replicate x.2.toNat x.1 ++ rowM rs := by unfold rowM; rw [List.flatMap_cons]
    rw [e, wsum_app, List.map_cons, List.sum_cons, ← h2]
    have : wsum (prN pr) (List.replicate x.2.toNat x.1) = x.2.toNat * prN pr x.1 := by
      unfold wsum
      rw [List.map_replicate, List.sum_replicate_nat]
    rw [this]
    have e1 : ((x.2.toNat : Nat) : Int) = x.2 := by omega
    have e2 : ((prN pr x.1 : Nat) : Int) = prI pr x.1 := by unfold prN; omega
    rw [Int.natCast_add, Int.natCast_mul, e1, e2, Int.mul_comm]
end Mc
namespace Mc
open PySem L2 PySem.Spec PyProof.Rows Evl
/-! slices, sums, reversals, sorted copies of sequences, as pure values -/
theorem cut_take (xs : List V) (n : Nat) : cutV xs none (some (n : Nat)) = xs.take n := by
  unfold cutV
  rw [show HT.sIx xs.length 0 none = 0 from rfl, HT.sIx_nat, List.drop_zero, Nat.sub_zero]
  by_cases h : n ≤ xs.length
  · rw [Nat.min_eq_left h]
  · rw [Nat.min_eq_right (by omega), List.take_of_length_le (Nat.le_refl _), List.take_of_length_le (by omega)]
theorem cut_drop (xs : List V) (n : Nat) : cutV xs (some (n : Nat)) none = xs.drop n := by
  unfold cutV
  rw [show HT.sIx xs.length xs.length none = xs.length from rfl, HT.sIx_nat]
  by_cases h : n ≤ xs.length
  · rw [Nat.min_eq_left h]
    exact List.take_of_length_le (by rw [List.length_drop]; exact Nat.le_refl _)
  · rw [Nat.min_eq_right (by omega), Nat.sub_self, List.take_zero, List.drop_eq_nil_of_le (by omega)]
theorem cut_last (xs : List V) : cutV xs none (some (-1)) = xs.dropLast := by
  unfold cutV
  rw [show HT.sIx xs.length 0 none = 0 from rfl, List.drop_zero, Nat.sub_zero, List.dropLast_eq_take]
  have : HT.sIx xs.length xs.length (some (-1)) = xs.length - 1 := by
    show (if (-1 : Int) < 0 then (-1 + (xs.length : Int)).toNat else min (-1 : Int).toNat xs.length) = _
    rw [if_pos (by decide)]; omega
  rw [this]
section
variable {K : PySem.W.Frag} {σ : L2.St} {H : Hp} {ta tb te : TE} {a : Addr} {xs ys : List V} {tl th : TO} {lo hi : Option Int}
theorem el_cat (ha : EvL ta σ H xs) (hb : EvL tb σ H ys) (hz : xs.length + ys.length ≤ 100000) : EvL (tOp rCat ta tb) σ H (xs ++ ys) := fun H1 e Q q =>
  ha H1 e _ fun p H2 hp e2 h2 => hb H2 (e.trans e2) _ fun r H3 hr e3 h3 => ⟨p, r, xs, ys, rfl, rfl, e3 _ _ h2, h3, sz_of hz, fun g hg => q g _ (fresh_back (e2.trans e3) hg) ((e2.trans e3).trans (Ex.new hg)) upd_same⟩
/-- the first, the second one a list that stands -/
theorem el_cat1 (ha : Ev ta σ H (.ref a)) (h : H a = some (.lst xs)) (hb : EvL tb σ H ys) (hz : xs.length + ys.length ≤ 100000) : EvL (tOp rCat ta tb) σ H (xs ++ ys) := fun H1 e Q q =>
  ha H1 e _ fun H2 e2 => hb H2 (e.trans e2) _ fun r H3 hr e3 h3 => ⟨a, r, xs, ys, rfl, rfl, ((e.trans e2).trans e3) _ _ h, h3, sz_of hz, fun g hg => q g _ (fresh_back (e2.trans e3) hg) ((e2.trans e3).trans (Ex.new hg)) upd_same⟩
theorem el_cat2 (ha : EvL ta σ H xs) (hb : Ev tb σ H (.ref a)) (h : H a = some (.lst ys)) (hz : xs.length + ys.length ≤ 100000) : EvL (tOp rCat ta tb) σ H (xs ++ ys) := fun H1 e Q q =>
  ha H1 e _ fun p H2 hp e2 h2 => hb H2 (e.trans e2) _ fun H3 e3 => ⟨p, a, xs, ys, rfl, rfl, e3 _ _ h2, ((e.trans e2).trans e3) _ _ h, sz_of hz, fun g hg => q g _ (fresh_back (e2.trans e3) hg) ((e2.trans e3).trans (Ex.new hg)) upd_same⟩
theorem eu_catA (ha : EvU ta σ H xs) (hb : EvU tb σ H ys) (nx : xs ≠ []) (ny : ys ≠ []) (hz : xs.length + ys.length ≤ 100000) : EvU (tOp (rCatA K) ta tb) σ H (xs ++ ys) := fun H1 e Q q =>
  ha H1 e _ fun p H2 hp e2 h2 => hb H2 (e.trans e2) _ fun r H3 hr e3 h3 => ⟨p, r, xs, ys, rfl, rfl, st_of (e3 _ _ h2), st_of h3, sz_of hz, fun z => absurd z nx, fun _ z => absurd z ny, fun _ _ g hg => q g _ (fresh_back (e2.trans e3) hg) ((e2.trans e3).trans (Ex.new hg)) upd_same⟩
theorem eu_slT (h : Ev te σ H (.ref a)) (h1 : EvO tl σ H lo) (h2 : EvO th σ H hi) (hs : SqT K H a xs) (nw : ¬ (HT.sIx xs.length 0 lo = 0 ∧ HT.sIx xs.length xs.length hi = xs.length)) : EvU (tSl (rSlT K) te tl th) σ H (cutV xs lo hi) := fun H1 e _ q =>
  h H1 e _ fun H2 e2 => h1 H2 (e.trans e2) _ fun H3 e3 => h2 H3 ((e.trans e2).trans e3) _ fun H4 e4 => ⟨a, xs, rfl, ex_t (((e.trans e2).trans e3).trans e4) hs, nw, fun p hp => q p _ (fresh_back ((e2.trans e3).trans e4) hp) (((e2.trans e3).trans e4).trans (Ex.new hp)) upd_same⟩
/-- tuple(xs) of a list -/
theorem eu_tupL (h : Ev te σ H (.ref a)) (hs : SqL K H a xs) : EvU (tThen te (kTup K)) σ H xs := fun H1 e _ q =>
  h H1 e _ fun H2 e2 => .inl ⟨a, xs, rfl, ex_l (e.trans e2) hs, fun p hp => q p _ (fresh_back e2 hp) (e2.trans (Ex.new hp)) upd_same⟩
theorem el_revL (h : Ev te σ H (.ref a)) (hs : SqL K H a xs) : EvL (tRevL K te) σ H xs.reverse := fun H1 e _ q =>
  h H1 e _ fun H2 e2 => ⟨a, xs, rfl, ex_l (e.trans e2) hs, fun p hp => q p _ (fresh_back e2 hp) (e2.trans (Ex.new hp)) upd_same⟩
/-- sorted(xs) of a new list of ints -/
theorem el_srtI {ns zs : List Int} (h : EvL te σ H (ns.map V.int)) (hz : ns.length < 64) (pm : zs.Perm ns) (srt : zs.Pairwise (· ≤ ·)) : EvL (tCB (rSorted K) (tCons te tNil)) σ H (zs.map V.int) := fun H1 e Q q =>
  h H1 e _ fun l H2 hl e2 h2 => ⟨l, ns, rfl, sq_of h2, hz, fun ys p pm2 s hp => by
    have : ys = zs := List.Perm.eq_of_pairwise (le := (· ≤ ·)) (fun a b _ _ h k => Int.le_antisymm h k) s srt (pm2.trans pm.symm)
    rw [this]
    exact q p _ (fresh_back e2 hp) (e2.trans (Ex.new hp)) upd_same⟩
theorem mem_sortI (ns : List Int) : ∃ zs : List Int, zs.Perm ns ∧ zs.Pairwise (· ≤ ·) :=
  ⟨ns.mergeSort (fun a b => decide (a ≤ b)), List.mergeSort_perm _ _, (List.pairwise_mergeSort (le := fun a b => decide (a ≤ b)) (fun a b c h1 h2 => by simp at *; omega) (fun a b => by simp; omega) ns).imp fun h => by simpa using h⟩
theorem inV_int {x : Int} {xs : List Int} : inV (.int x) (xs.map V.int) = decide (x ∈ xs) := by
  unfold inV
  induction xs with
  | nil => rfl
  | cons y ys ih =>
    rw [List.map_cons, List.any_cons, ih]
    by_cases e : x = y
    · subst e
      have : eqV (V.int x) (V.int x) = true := by simp [eqV]
      simp [this]
    · have : eqV (V.int y) (V.int x) = false := by
        simp [eqV]
        exact fun z => e z.symm
      simp [this, e]
theorem flat_ints (xs : List Int) : (xs.map V.int).all flatV = true := by
  rw [List.all_map, List.all_eq_true]
  exact fun x _ => rfl
end
end Mc
namespace Mc
open PySem L2 PySem.Spec PyProof.Rows Evl
theorem merge_T' {β : Type} {f : β → V} {l : List (PySem.Str × β)} (nd : (keysT l).Nodup) : mergeK [] (kvT f l) = kvT f l := by
  have go : ∀ (b a : List (PySem.Str × β)), (keysT (a ++ b)).Nodup → mergeK (kvT f a) (kvT f b) = kvT f (a ++ b) := by
    intro b
    induction b with
    | nil => intro a _; rw [List.append_nil]; rfl
    | cons x b ih =>
      intro a nd
      have nx : x.1 ∉ keysT a := fun z => by
        unfold keysT at nd z
        rw [List.map_append] at nd
        exact (List.nodup_append.mp nd).2.2 _ z x.1 (by simp) rfl
      show mergeK (putK (kvT f a) (Sum.inr x.1) (f x.2)) (kvT f b) = _
      have e := put_new (f := f) (v := x.2) nx
      rw [e, ih (a ++ [(x.1, x.2)]) (by simpa using nd), List.append_assoc]
      rfl
  exact go l [] nd
section
variable {β : Type} {K : PySem.W.Frag} {σ : L2.St} {H : Hp} {te tl tr ta tb : TE} {a b : Addr} {g : β → V} {l t : List (PySem.Str × β)} {o : Obj} {i j : Nat} {vs : List Nat}
/-- a list made over the pairs of a dict that is locked -/
theorem el_items {f : PySem.Str × β → V} (hl : Ev tl σ H (.ref a)) (h : H a = some (.frz o (.dK (kvT g l)))) (hz : l.length < 100000)
    (turn : ∀ (k : Nat) y, l[k]? = some y → ∀ H', Ex H H' → Ev te (((wipe σ vs).set i (some (.str y.1))).set j (some (g y.2))) H' (f y)) (hw : ∀ u v, wipe (((wipe σ vs).set i (some u)).set j (some v)) vs = wipe σ vs := by intro _ _; rfl) :
    EvL (tLc (iItems tl) (gTup K 2 (gCons (gName i) (gCons (gName j) gNil))) tYes te vs) σ H (l.map f) := fun H1 e Q q => hl H1 e _ fun H2 e2 => ⟨a, o, _, rfl, e2 _ _ (e _ _ h), fun D hD => by
  refine lc_it walk_items (fun n H' => Ex H2 H' ∧ H' D = some (.lst ((l.take n).map f))) ⟨Ex.new hD, upd_same⟩ (fun n H' _ p => p.1 _ _ (e2 _ _ (e _ _ h))) ?_ ?_
  · rintro n x H5 H6 hn ⟨s5, hD5⟩ ⟨T5, x1, x2, rfl, hT5, rfl, ex, ey⟩
    obtain ⟨z, hz', rfl, rfl⟩ : ∃ z, l[n]? = some z ∧ x1 = V.str z.1 ∧ x2 = g z.2 := by
      replace ex : ((kvT g l)[n]?.map fun kv => kV kv.1) = some x1 := ex
      replace ey : ((kvT g l)[n]?.map Prod.snd) = some x2 := ey
      unfold kvT at ex ey
      rw [List.getElem?_map] at ex ey
      cases e : l[n]? with
      | none => rw [e] at ex; cases ex
      | some z => rw [e] at ex ey; exact ⟨z, rfl, (Option.some.inj ex).symm, (Option.some.inj ey).symm⟩
    have s6 := Ex.new (o := .tup [.str z.1, g z.2]) hT5
    refine ⟨T5, [.str z.1, g z.2], rfl, SqT.of upd_same, rfl, _, _, rfl, _, _, rfl, rfl, hw _ _, yes_ite ?_⟩
    refine turn n z hz' _ (((e.trans e2).trans s5).trans s6) _ (Ex.refl _) _ fun H7 x7 => ?_
    have hD7 := x7 _ _ (s6 _ _ hD5)
    refine ⟨_, hD7, ?_, fun b o z => by rw [upd_ne (ne_of_none z hD)]; exact x7 _ _ (s6 _ _ (s5 _ _ z)), ?_⟩
    · rw [List.length_map, List.length_take]
      exact sz_lt (by omega)
    · rw [upd_same, List.take_add_one, hz', List.map_append]; rfl
  · rintro H5 ⟨s5, hD5⟩
    rw [show (kvT g l).length = l.length by unfold kvT; rw [List.length_map], List.take_length] at hD5
    exact q D H5 (fresh_back e2 hD) (e2.trans s5) hD5⟩
/-- dict(list(d.items()) + [(c, v)]) -/
theorem ed_ext {c : PySem.Str} {v : β} (nd : (keysT (t ++ [(c, v)])).Nodup) (hr : Ev tr σ H (.ref b)) (hb : H b = some (.dK (kvT g t))) (ha : Ev ta σ H (.str c)) (hv : Ev tb σ H (g v)) (hz : t.length < 90000) :
    EvD (tCB (rDictP K) (tCons (tOp rCat (LiI.tListItems tr) (tLst (tCons (tTup (tCons ta (tCons tb tNil))) tNil))) tNil)) σ H (kvT g (t ++ [(c, v)])) := fun H1 e1 Q q => hr H1 e1 _ fun H2 e2 => ⟨b, kvT g t, rfl, (e1.trans e2) _ _ hb, fun H6 p ts s6 hp0 hts hpt hp6 hPr => by
  have s6' : Ex H2 H6 := s6
  refine ha H6 ((e1.trans e2).trans s6') _ fun H7 e7 => hv H7 (((e1.trans e2).trans s6').trans e7) _ fun H8 e8 => ⟨sz_of (by show 2 ≤ 100000; decide), fun r hr' => ⟨sz_of (by show 1 ≤ 100000; decide), fun w hw => ?_⟩⟩
  have x9 := Ex.new (o := .tup [.str c, g v]) hr'
  have hr9 : upd H8 r (.tup [.str c, g v]) r = some (.tup [.str c, g v]) := upd_same
  generalize upd H8 r (.tup [.str c, g v]) = H9 at x9 hr9 hw ⊢
  have x10 := Ex.new (o := .lst [.ref r]) hw
  have hw10 : upd H9 w (.lst [.ref r]) w = some (.lst [.ref r]) := upd_same
  generalize upd H9 w (.lst [.ref r]) = H10 at x10 hw10 ⊢
  have x610 := (e7.trans e8).trans (x9.trans x10)
  have lts : ts.length = t.length := by have := Paired.length hPr; unfold kvT at this; rw [List.length_map] at this; exact this
  refine ⟨p, w, ts.map V.ref, [.ref r], rfl, rfl, x610 _ _ hp6, hw10, sz_of (by rw [List.length_map, lts]; show t.length + 1 ≤ 100000; omega), fun k hk => ?_⟩
  have x11 := Ex.new (o := .lst (ts.map V.ref ++ [.ref r])) hk
  have hk11 : upd H10 k (.lst (ts.map V.ref ++ [.ref r])) k = some (.lst ((ts ++ [r]).map V.ref)) := by rw [upd_same, List.map_append]; rfl
  generalize upd H10 k (.lst (ts.map V.ref ++ [.ref r])) = H11 at x11 hk11 ⊢
  refine ⟨k, ts ++ [r], kvT g (t ++ [(c, v)]), rfl, SqL.of hk11, ?_, fun z hz => ?_⟩
  · rw [kvT_app]
    exact prd_snoc (prd_imp (fun a b h => SqT.of (x11 _ _ (x610 _ _ h))) hPr) (SqT.of (x11 _ _ (x10 _ _ hr9)))
  · rw [merge_T' nd]
    have x611 := ((s6'.trans x610).trans x11)
    exact q z _ (fresh_back (e2.trans x611) hz) ((e2.trans x611).trans (Ex.new hz)) upd_same⟩
end
/-! a new list of new dicts -/
def NewDct {α : Type} (f : α → List (L2.Key × V)) : α → V → Hp → Prop := fun y v H => ∃ p, v = .ref p ∧ H p = some (.dK (f y))
theorem EvD.p {te : TE} {σ : L2.St} {H : Hp} {kvs : List (L2.Key × V)} (h : EvD te σ H kvs) : EvP te σ H fun v H' => ∃ p, v = .ref p ∧ H' p = some (.dK kvs) := fun H1 e Q q => h H1 e _ fun p H2 _ e2 h2 => q _ H2 e2 ⟨p, rfl, h2⟩
theorem el_dI {α : Type} {wi : TI} {σ : L2.St} {H : Hp} {ys : List α} {c : α → V} {j : Nat} {vs : List Nat} {t : TT} {te : TE} (p : α → Bool) (f : α → List (L2.Key × V)) (hi : EvI wi σ H (ys.map c)) (hz : ys.length ≤ 100000) (test : ∀ (i : Nat) y, ys[i]? = some y → ∀ H', Ex H H' → EvT t ((wipe σ vs).set j (some (c y))) H' (p y))
    (turn : ∀ (i : Nat) y, ys[i]? = some y → p y = true → ∀ H', Ex H H' → EvD te ((wipe σ vs).set j (some (c y))) H' (f y)) (hw : ∀ v, wipe ((wipe σ vs).set j (some v)) vs = wipe σ vs := by intro _; rfl) :
    ∀ H1, Ex H H1 → ∀ Q : VK, (∀ D us H2, H1 D = none → Ex H1 H2 → H2 D = some (.lst us) → Paired (fun y v => NewDct f y v H2) (ys.filter p) us → Q (.ref D) H2) → tLc wi (gName j) t te vs σ H1 Q :=
  el_RI p (NewDct f) (fun y v H H' ⟨q, e, h⟩ s => ⟨q, e, s _ _ h⟩) (fun y v H D u ⟨q, e, h⟩ hu _ u' => ⟨q, e, by rw [upd_ne fun z => by rw [z, hu] at h; cases h]; exact h⟩) hi hz test (fun i y hy hp H' e => EvD.p (turn i y hy hp H' e)) hw
/-- rows of dicts -/
def PDi {β : Type} (g : β → V) (H : Hp) (as : List Addr) (L : List (List (PySem.Str × β))) : Prop := as.length = L.length ∧ ∀ (i : Nat) b t, as[i]? = some b → L[i]? = some t → H b = some (.dK (kvT g t))
theorem PDi.keep {β : Type} {g : β → V} {H H' : Hp} {as : List Addr} {L : List (List (PySem.Str × β))} (h : PDi g H as L) (k : ∀ b kv, H b = some (.dK kv) → H' b = some (.dK kv)) : PDi g H' as L := ⟨h.1, fun i b t e1 e2 => k _ _ (h.2 i b t e1 e2)⟩
theorem PDi.app {β : Type} {g : β → V} {H : Hp} {as as' : List Addr} {L L' : List (List (PySem.Str × β))} (h : PDi g H as L) (h' : PDi g H as' L') : PDi g H (as ++ as') (L ++ L') := by
  refine ⟨by rw [List.length_append, List.length_append, h.1, h'.1], fun i b t e1 e2 => ?_⟩
  by_cases q : i < as.length
  · rw [List.getElem?_append_left q] at e1
    rw [List.getElem?_append_left (by rw [← h.1]; exact q)] at e2
    exact h.2 i b t e1 e2
  · rw [List.getElem?_append_right (by omega)] at e1
    rw [List.getElem?_append_right (by rw [← h.1]; omega)] at e2
    rw [← h.1] at e2
    exact h'.2 _ b t e1 e2
theorem pdi_of {α β : Type} {g : β → V} {H : Hp} {f : α → List (PySem.Str × β)} : ∀ {ys : List α} {us : List V}, Paired (fun y v => NewDct (fun y => kvT g (f y)) y v H) ys us → ∃ as : List Addr, us = as.map V.ref ∧ PDi g H as (ys.map f)
  | _, _, .nil => ⟨[], rfl, rfl, fun i b t e => by cases e⟩
  | _, _, .cons ⟨p, ep, hp⟩ t => by
    obtain ⟨as, e1, e2, e3⟩ := pdi_of t
    refine ⟨p :: as, by rw [ep, e1]; rfl, by rw [List.length_cons, e2]; rfl, fun i b t h1 h2 => ?_⟩
    cases i with
    | zero => cases Option.some.inj h1; cases Option.some.inj h2; exact hp
    | succ i => exact e3 i b t h1 h2
theorem PDi.filter {β : Type} {g : β → V} {H : Hp} {as : List Addr} {L : List (List (PySem.Str × β))} (h : PDi g H as L) (p : Addr × List (PySem.Str × β) → Bool) : PDi g H (((as.zip L).filter p).map Prod.fst) (((as.zip L).filter p).map Prod.snd) := by
  refine ⟨by rw [List.length_map, List.length_map], fun i b t e1 e2 => ?_⟩
  rw [List.getElem?_map] at e1 e2
  obtain ⟨x, hx, rfl⟩ := Option.map_eq_some_iff.mp e1
  rw [hx] at e2
  obtain rfl := Option.some.inj e2
  have hm := (List.mem_filter.mp (List.mem_of_getElem? hx)).1
  obtain ⟨j, hj⟩ := List.mem_iff_getElem?.mp hm
  obtain ⟨h1, h2⟩ := List.getElem?_zip_eq_some.mp hj
  exact h.2 j _ _ h1 h2
end Mc
namespace Mc
open PySem L2 PySem.Spec PyProof.Rows
/-- try: .. except C as n: .., its reading by a name -/
def tTryAs (K : PySem.W.Frag) (c : Value) (i : Nat) (tb : WX → TS) (ts : Addr → Value → Option Addr → TS) (Wout : WX) : TS := fun D σ H => tb (wAs K c i ts Wout D) D σ H
theorem ps_tryAs {X : Cx} {x n : Str} {c : Value} {i : Nat} {body suite : List Stmt} {b₀ : Stmt} {np pos pos' : Pos} {tb : WX → TS} {ts : Addr → Value → Option Addr → TS} {Wout : WX} (hs : X.stack = X.env :: X.outer) (hf : X.env.frame = some X.env.locals) (hN : X.N.Nodup) (hi : X.N[i]? = some n) (hln : X.env.kindOf n = some .local) (hc : Names X x c) (tk : Takes X Wout)
    (hb : ∀ (W : WX) (pn : List (Addr × Obj)) (xe : Value → Shared → Prop), Takes (X.tr pn xe) W → PassesOwn (model X.prog X.w) X.A X.env xe → PSs (X.tr pn xe) body (tb W))
    (hsu : ∀ (a : Addr) (oe : Obj) (cls : Value) (d : Option Addr) (pn : List (Addr × Obj)), Zc cls d oe → (∃ vs, oe.data = .fields vs) → PSs (X.suite a ((a, oe) :: pn)) (b₀ :: suite) (ts a cls d)) :
    PS X (.Try body [.ExceptHandler (some (.Name x np)) (some n) (b₀ :: suite) pos'] [] [] pos) (tTryAs X.K c i tb ts Wout) := ps_try_as hs hf hN hi hln hc tk hb hsu
end Mc
namespace Mc
open PySem L2 PySem.Spec PyProof.Rows Gd Evl LamX NdefX
abbrev s_law : Stmt := top 39
abbrev nmL : List PySem.Str := ["script", "draw", "scene", "prices", "heard", "cost", "more", "rows", "mast", "late", "row", "wrong", "spoilt", "fault", "name", "many", "one"]
theorem sc_law : FnScope nmL ["script"] (defScope s_law) := ⟨rfl, rfl, rfl, by decide +kernel, rfl, by decide +kernel, by decide +kernel⟩
structure TxL (K : PySem.W.Frag) (mg : PySem.Str → Option Value) (CT CS CC CB : Addr) : Prop where
  clS : Cls K CS
  nCh : NoAttr K CS "channels"
  nCa : NoAttr K CS "calls"
  clC : Cls K CC
  nH : NoAttr K CC "heard"
  len : mg "len" = none
  range : mg "range" = none
  dict : mg "dict" = none
  list : mg "list" = none
  sorted : mg "sorted" = none
  min : mg "min" = none
  sum : mg "sum" = none
  any : mg "any" = none
  mgB : mg "BadName" = some (.ref CB)
  xf : XfC K CB
  nName : PySem.W.findIn K (.ref CB) "name" = some none
  te : PySem.W.exmOne K (.ref CB) (.ref CB) = some true
def spLaw (K : PySem.W.Frag) (T : List NTab) : Sp := fun vs H Q _ => ∃ (a : Addr) (ns : List Int), vs = [.ref a] ∧ SqL K H a (ns.map V.int) ∧ ns.length ≤ 63 ∧ TabsN T H ∧ ∀ H', Q (.bl true) H'
theorem cr_minK5 {X : Cx} {K : PySem.W.Frag} (h : X.K = K) (hc : X.calm = true) : CallR X (.builtin "min") (rMin K) := by
  subst h
  exact cr_min hc
theorem pi_tupK5 {X : Cx} {K : PySem.W.Frag} {tg l : Expr} {tl : TE} (h : X.K = K) (hl : PE X l tl) : PI X tg l (iTup K tl) := by
  subst h
  exact pi_tup hl
theorem okN_lay {x : PySem.Str} (h : okN x) : PyData.strOk x = true := by
  have l1 : ∀ c ∈ letters.cps.toList, c < 1114112 := by decide +kernel
  have l2 : ∀ c ∈ figures.cps.toList, c < 1114112 := by decide +kernel
  unfold PyData.strOk
  rw [Array.all_eq_true']
  intro c hc
  exact decide_eq_true ((h.2.2.2 c (by simpa using hc)).elim (l1 c) (l2 c))
theorem sorted_filter {xs : List PySem.Str} (p : PySem.Str → Bool) (h : sortedS xs = true) : sortedS (xs.filter p) = true := by
  refine sortedS_of_pairwise _ (((srt_pw h).filter p).imp fun {a b} z => ?_)
  rw [ltCps_eq]
  exact decide_eq_false z
/-- what stands in all of the law -/
structure W3 (K : PySem.W.Frag) (CS CC : Addr) (TT : List NTab) (a d sc dxs ca cb pd lh : Addr) (chs pr : Chs) (cls : Cls') (u : HO) (H : Hp) : Prop where
  dr : Dr K [ca, d] d a H
  tabs : TabsN TT H
  hsc : H sc = some (.ins CS dxs [("channels", .ref ca), ("calls", .ref cb)])
  hch : H ca = some u
  hcl : H cb = some (.dK (kvT vO cls))
  cal : CallsH K CC H cls
  hp : H pd = some (.dK (kvT vI pr))
  hl : H lh = some (.lst ((hearers cls).map V.str))
  ndl : lh ≠ d
section
variable {K : PySem.W.Frag} {CS CC : Addr} {TT : List NTab} {a d sc dxs ca cb pd lh : Addr} {chs pr : Chs} {cls : Cls'} {u u' : HO} {H H' : Hp}
theorem W3.nd (W : W3 K CS CC TT a d sc dxs ca cb pd lh chs pr cls u H) {b : Addr} {o : HO} (z : H b = some o) (n : ∀ l, o ≠ .lst l) : b ≠ d := fun e => by
  obtain ⟨⟨kk, hkk⟩, _⟩ := W.dr
  rw [e, hkk] at z
  exact n _ (Option.some.inj z).symm
def UOk (u : HO) : Prop := (∀ l, u ≠ .lst l) ∧ (∀ l, u ≠ .tbl l) ∧ (∀ C dx fs, u ≠ .ins C dx fs) ∧ ∀ xs, u ≠ .tup xs
theorem W3.map (W : W3 K CS CC TT a d sc dxs ca cb pd lh chs pr cls u H) (hu : UOk u) (D : Dr K [ca, d] d a H') (T : TabsN TT H') (k : ∀ b o, H b = some o → b ≠ d → b ≠ ca → (∀ l, o ≠ .tbl l) → H' b = some o) (hc : H' ca = some u') (n1 : cb ≠ ca) (n2 : pd ≠ ca) : W3 K CS CC TT a d sc dxs ca cb pd lh chs pr cls u' H' := by
  have ni : ∀ {b C dx fs}, H b = some (.ins C dx fs) → b ≠ ca := fun {b C dx fs} z e => by rw [e, W.hch] at z; exact hu.2.2.1 _ _ _ (Option.some.inj z)
  have nt : ∀ {b xs}, H b = some (.tup xs) → b ≠ ca := fun {b xs} z e => by rw [e, W.hch] at z; exact hu.2.2.2 _ (Option.some.inj z)
  have nl : ∀ {b xs}, H b = some (.lst xs) → b ≠ ca := fun {b xs} z e => by rw [e, W.hch] at z; exact hu.1 _ (Option.some.inj z)
  have kc : CallsH K CC H' cls := fun z hz => by
    obtain ⟨dx', q', c1, c2⟩ := (W.cal z hz).here
    exact ⟨dx', q', k _ _ c1 (W.nd c1 fun _ => by simp) (ni c1) fun _ => by simp, k _ _ c2 (W.nd c2 fun _ => by simp) (nt c2) fun _ => by simp⟩
  exact ⟨D, T, k _ _ W.hsc (W.nd W.hsc fun _ => by simp) (ni W.hsc) (fun _ => by simp), hc, k _ _ W.hcl (W.nd W.hcl fun _ => by simp) n1 (fun _ => by simp), kc, k _ _ W.hp (W.nd W.hp fun _ => by simp) n2 (fun _ => by simp), k _ _ W.hl W.ndl (nl W.hl) (fun _ => by simp), W.ndl⟩
theorem W3.ext (W : W3 K CS CC TT a d sc dxs ca cb pd lh chs pr cls u H) (hu : UOk u) (x : ExtN H H') (T : TabsN TT H') : W3 K CS CC TT a d sc dxs ca cb pd lh chs pr cls u H' := by
  exact ⟨W.dr.extN x, T, x _ _ W.hsc fun _ => by simp, x _ _ W.hch hu.2.1, x _ _ W.hcl fun _ => by simp, W.cal.extN x, x _ _ W.hp fun _ => by simp, x _ _ W.hl fun _ => by simp, W.ndl⟩
theorem W3.ex (W : W3 K CS CC TT a d sc dxs ca cb pd lh chs pr cls u H) (x : Ex H H') : W3 K CS CC TT a d sc dxs ca cb pd lh chs pr cls u H' := ⟨W.dr.same x, TabsN.ext W.tabs x, x _ _ W.hsc, x _ _ W.hch, x _ _ W.hcl, W.cal.same x, x _ _ W.hp, x _ _ W.hl, W.ndl⟩
theorem W3.draw (W : W3 K CS CC TT a d sc dxs ca cb pd lh chs pr cls u H) (hu : UOk u) (D : Dr K [ca, d] d a H') (k : Kp [d] H H') (n1 : cb ≠ ca) (n2 : pd ≠ ca) : W3 K CS CC TT a d sc dxs ca cb pd lh chs pr cls u H' :=
  W.map hu D (TabsN.kpD W.tabs W.dr k) (fun b o z n _ _ => k b o z fun e => n (List.mem_singleton.mp e)) (k _ _ W.hch fun e => W.nd W.hch hu.1 (List.mem_singleton.mp e)) n1 n2
/-- another object than those of the law is changed -/
theorem W3.put (W : W3 K CS CC TT a d sc dxs ca cb pd lh chs pr cls u H) {b : Addr} {o : HO} (D : Dr K [ca, d] d a (upd H b o)) (T : TabsN TT (upd H b o)) (n1 : sc ≠ b) (n2 : ca ≠ b) (n3 : cb ≠ b) (n4 : pd ≠ b) (n5 : lh ≠ b) (nc : ∀ c o', H c = some o' → (∀ kvs, o' ≠ .dK kvs) → (∀ l, o' ≠ .lst l) → c ≠ b) : W3 K CS CC TT a d sc dxs ca cb pd lh chs pr cls u (upd H b o) := by
  refine ⟨D, T, by rw [upd_ne n1]; exact W.hsc, by rw [upd_ne n2]; exact W.hch, by rw [upd_ne n3]; exact W.hcl, fun z hz => ?_, by rw [upd_ne n4]; exact W.hp, by rw [upd_ne n5]; exact W.hl, W.ndl⟩
  obtain ⟨dx', q', c1, c2⟩ := (W.cal z hz).here
  exact ⟨dx', q', by rw [upd_ne (nc _ _ c1 (fun _ => by simp) fun _ => by simp)]; exact c1, by rw [upd_ne (nc _ _ c2 (fun _ => by simp) fun _ => by simp)]; exact c2⟩
theorem W3.lock {kvs : List (L2.Key × V)} (W : W3 K CS CC TT a d sc dxs ca cb pd lh chs pr cls (.dK kvs) H) (od : Obj) (n1 : cb ≠ ca) (n2 : pd ≠ ca) : W3 K CS CC TT a d sc dxs ca cb pd lh chs pr cls (.frz od (.dK kvs)) (upd H ca (.frz od (.dK kvs))) := by
  have dca : d ≠ ca := (W.nd W.hch fun _ => by simp).symm
  refine W.map ⟨fun _ => by simp, fun _ => by simp, fun _ _ _ => by simp, fun _ => by simp⟩ (W.dr.keep (Kp.at (by simp)) fun o z => by rw [upd_ne dca]; exact z) (TabsN.updD W.tabs (.inl W.hch)) (fun b o z _ n _ => by rw [upd_ne n]; exact z) upd_same n1 n2
theorem W3.unlock {kvs : List (L2.Key × V)} {od : Obj} (W : W3 K CS CC TT a d sc dxs ca cb pd lh chs pr cls (.frz od (.dK kvs)) H) (n1 : cb ≠ ca) (n2 : pd ≠ ca) : W3 K CS CC TT a d sc dxs ca cb pd lh chs pr cls (.dK kvs) (upd H ca (.dK kvs)) := by
  have dca : d ≠ ca := (W.nd W.hch fun _ => by simp).symm
  refine W.map ⟨fun _ => by simp, fun _ => by simp, fun _ _ _ => by simp, fun _ => by simp⟩ (W.dr.keep (Kp.at (by simp)) fun o z => by rw [upd_ne dca]; exact z) (TabsN.updD W.tabs (.inr ⟨od, W.hch⟩)) (fun b o z _ n _ => by rw [upd_ne n]; exact z) upd_same n1 n2
theorem tabs_off {T : List NTab} {H H' : Hp} {c : Addr} {kvs : List (L2.Key × V)} (t : TabsN T H) (h : Rd H c (.dK kvs)) (k : ∀ b o, b ≠ c → H b = some o → H' b = some o) : TabsN T H' := fun p hp => by
  obtain ⟨ps, h1, h2, h3⟩ := t p hp
  refine ⟨ps, k _ _ (fun e => by rw [e] at h1; rcases h with h | ⟨od, h⟩ <;> rw [h] at h1 <;> cases h1) h1, h2, fun pos cv hc => ?_⟩
  obtain ⟨c, e1, e2⟩ := h3 pos cv hc
  exact ⟨c, e1, k _ _ (fun e => by rw [e] at e2; unfold CodeO at e2; rcases h with h | ⟨od, h⟩ <;> rw [h] at e2 <;> cases e2) e2⟩
/-- the masts' dict may have been locked -/
theorem W3.left {kvs : List (L2.Key × V)} (W : W3 K CS CC TT a d sc dxs ca cb pd lh chs pr cls u H) (hu : UOk u) (h : Rd H ca (.dK kvs)) (k : ∀ b o, b ≠ ca → H b = some o → H' b = some o) (hc : H' ca = some u') (n1 : cb ≠ ca) (n2 : pd ≠ ca) : W3 K CS CC TT a d sc dxs ca cb pd lh chs pr cls u' H' := by
  have dca : d ≠ ca := (W.nd W.hch hu.1).symm
  exact W.map hu (W.dr.keep (fun b o z n => k b o (fun e => n (by rw [e]; simp)) z) fun o z => k _ _ dca z) (tabs_off W.tabs h k) (fun b o z _ n _ => k b o n z) hc n1 n2
theorem uok_d (kvs : List (L2.Key × V)) : UOk (.dK kvs) := ⟨fun _ => by simp, fun _ => by simp, fun _ _ _ => by simp, fun _ => by simp⟩
theorem uok_f (od : Obj) (kvs : List (L2.Key × V)) : UOk (.frz od (.dK kvs)) := ⟨fun _ => by simp, fun _ => by simp, fun _ _ _ => by simp, fun _ => by simp⟩
end
theorem dK_ne {H : Hp} {a b : Addr} {chs : Chs} {cls : Cls'} (h0 : 0 < chs.length) (ha : H a = some (.dK (kvT vI chs))) (hb : H b = some (.dK (kvT vO cls))) : a ≠ b := fun e => by
  rw [e, hb] at ha
  have h : kvT vO cls = kvT vI chs := by injection ha with h; injection h
  cases chs with
  | nil => exact absurd h0 (by simp)
  | cons x l =>
    cases cls with
    | nil => exact nomatch h
    | cons y m =>
      have h1 := congrArg Prod.snd (List.cons.inj h).1
      exact nomatch (show V.ref y.2.1 = V.int x.2 from h1)
/-- list(kept(with_channels(scene, more))) -/
theorem evp_kw {K : PySem.W.Frag} {CS CC : Addr} {σ : L2.St} {H : Hp} {i j : Nat} {sc m : Addr} {chs ms : Chs} {cls : Cls'} (hi : σ[i]? = some (some (.ref sc))) (hj : σ[j]? = some (some (.ref m))) (hS : SceneH K CS CC H sc chs cls) (hX : ScnX CS H sc chs cls) (ok : OkC chs cls) (ok2 : OkC (addM chs ms) cls) (hm : H m = some (.dK (kvT vI ms))) :
    EvP (tCB (rLstS K) (tCons (tCall (spKeptS K CS CC) [] E0 (tCons (tCall (spWith K CS CC) [] E0 (tCons (tVar i) (tCons (tVar j) tNil))) tNil)) tNil)) σ H fun v H' => ∃ (p : Addr) (chs2 : Chs) (cls2 : Cls') (lot : List PySem.Str), v = .ref p ∧ H' p = some (.lst (lot.map V.str)) ∧ chs2.Perm (addM chs ms) ∧ cls2.Perm cls ∧ KeptOf chs2 cls2 lot ∧ sortedS lot = true := fun H1 e Q q => by
  refine ⟨_, hi, _, hj, sc, m, chs, ms, cls, rfl, hS.same e, hX.same e, ok, ok2, e _ _ hm, fun sc2 chs2 cls2 H2 _ hS2 hX2 p1 p2 s2 => ?_⟩
  refine ⟨sc2, chs2, cls2, rfl, hS2, ok2.perm p1 p2, fun t lot H3 hk srt ht x3 => ?_⟩
  refine ⟨t, lot.map V.str, rfl, .inr (SqT.of ht), fun l hl => ?_⟩
  exact q _ _ ((show Ex H1 H2 from s2).trans (x3.trans (Ex.new hl))) ⟨l, chs2, cls2, lot, rfl, upd_same, p1, p2, hk, srt⟩
theorem MoreC.perm {chs chs1 chs2 : Chs} {cls cls2 : Cls'} {ds : List PySem.Str} (M : MoreC chs chs1 cls cls ds) (ok1 : OkC chs1 cls) (p1 : chs2.Perm chs1) (p2 : cls2.Perm cls) : MoreC chs chs2 cls cls2 ds :=
  ⟨fun m => by rw [getT_perm ok1.nd p1]; exact M.cap m, fun c => getT_perm ok1.ndc p2 c, fun c => (p2.map Prod.fst).mem_iff⟩
theorem s_forNT {K : PySem.W.Frag} {g : TG} {tu : TS} {D : Ends} {σ : L2.St} {H : Hp} {xs : List V} {tl : TE} (h : EvU tl σ H xs) (Pv : Addr → Nat → L2.St → Hp → Prop) (h0 : ∀ p H1, H p = none → Ex H H1 → H1 p = some (.tup xs) → Pv p 0 σ H1) (hl : ∀ p i σ' H', i ≤ xs.length → Pv p i σ' H' → SqT K H' p xs)
    (hs : ∀ p i x σ' H', xs[i]? = some x → Pv p i σ' H' → g x σ' H' fun σ2 H2 => tu { D with nx := Pv p (i + 1), ct := Pv p (i + 1), bk := D.nx } σ2 H2) (hd : ∀ p σ' H', Pv p xs.length σ' H' → D.nx σ' H') : tFor (iTup K tl) g tu D σ H :=
  h H (Ex.refl H) _ fun p H1 hp e h1 => ⟨p, rfl, ⟨xs, st_of h1⟩, for_tup (Pv p) (h0 p H1 hp e h1) (hl p) (hs p) (hd p)⟩
theorem q_forNT {K : PySem.W.Frag} {g : TG} {tu tz : TS} {D : Ends} {σ : L2.St} {H : Hp} {xs : List V} {tl : TE} (h : EvU tl σ H xs) (Pv : Addr → Nat → L2.St → Hp → Prop) (h0 : ∀ p H1, H p = none → Ex H H1 → H1 p = some (.tup xs) → Pv p 0 σ H1) (hl : ∀ p i σ' H', i ≤ xs.length → Pv p i σ' H' → SqT K H' p xs)
    (hs : ∀ p i x σ' H', xs[i]? = some x → Pv p i σ' H' → g x σ' H' fun σ2 H2 => tu { D with nx := Pv p (i + 1), ct := Pv p (i + 1), bk := tz D } σ2 H2) (hd : ∀ p σ' H', Pv p xs.length σ' H' → tz D σ' H') : tSeq (tFor (iTup K tl) g tu) tz D σ H :=
  s_forNT (D := { D with nx := tz D }) h Pv h0 hl hs hd
def rowLt (pr : Chs) (cost : Int) (x : Addr × Chs) : Bool := decide ((x.2.map fun y => prI pr y.1 * y.2).sum < cost)
def rowV (x : Addr × Chs) : V := .ref x.1
section
variable {P : Program} {w : World} {K : PySem.W.Frag} {mg : PySem.Str → Option Value} {base : Heap}
theorem ok_law {f CT CS CC CB : Addr} {fd : FuncData} {TT : List NTab} (F : Fun K "law" "law" s_law f fd) (T : TxL K mg CT CS CC CB) (c__law_scene : Cal P w K mg base 6 "_law_scene" ["draw", "masts", "calls"] (spScene K CS CC))
    (c__law_take : Cal P w K mg base 2 "_law_take" ["draw", "many"] (spTake K)) (c__law_pick : Cal P w K mg base 3 "_law_pick" ["draw", "items"] (spPick K)) (c_cheapest : Cal P w K mg base 7 "cheapest" ["scene", "prices"] (spChp K CS CC TT)) (c_saved : Cal P w K mg base 8 "saved" ["scene", "prices"] (spSaved K CS CC TT))
    (c_kept : Cal P w K mg base 7 "kept" ["scene"] (spKeptS K CS CC)) (c_with_channels : Cal P w K mg base 6 "with_channels" ["scene", "more"] (spWith K CS CC)) (c_cheapestX : CalX P w K mg base 5 "cheapest" ["scene", "prices"] (spPrcX CS CB)) :
    FnOk P w K mg base CX0 9 f fd ["script"] (spLaw K TT) := by
  refine F.ok sc_law (fun vs H Q E h => ?_) (fun cdv A outer s H vs Q E hr h => ?_)
  · obtain ⟨a, ns, rfl, _⟩ := h
    rfl
  · obtain ⟨a, ns, rfl, hS, hlen, hT, k⟩ := h
    have hu := hu_of hr
    refine ⟨_, (pss_cons (ps_set (i := 1) sc_law.nd rfl (Or.inr rfl) (pe_lst (pa_cons (pv 0) (pa_cons pe_int pa_nil))))
      (pss_cons (ps_set (i := 2) sc_law.nd rfl (Or.inr rfl) (pe_cal c__law_scene (hr.mono (by decide)) (by rfl) (pa_cons (pv 1) (pa_cons pe_int (pa_cons pe_int pa_nil)))))
      (pss_cons (ps_set (i := 3) sc_law.nd rfl (Or.inr rfl) (pe_callTy (call_dictPK (K := K) rfl rfl) (by rfl) T.dict boot_dict (pa_cons (pe_lock (pe_lc (own := [("mast", 8)]) (g := gName 8) (tt := tYes) rfl sc_law.nd (pi_keys (pe_fld (pv 2) rfl)) (blkOk_by (own := [("mast", 8)]) (N := nmL) (sc := defScope s_law) (by decide +kernel)) (fun _ _ _ _ _ => pg_name (i := 8) sc_law.nd rfl (Or.inl rfl)) (fun _ _ _ _ _ => pts_nil) (fun _ _ _ _ _ => (pe_tup (pa_cons (pv 8) (pa_cons (pe_cal c__law_take (hr.mono (by decide)) (by rfl) (pa_cons (pv 1) (pa_cons pe_int pa_nil))) pa_nil)))))) pa_nil)))
      (pss_cons (ps_lock (ps_setLc (i := 4) (own := [("name", 14)]) (g := gName 14) rfl sc_law.nd rfl rfl (sw_true rfl rfl rfl (by decide +kernel)) (pi_keys (pe_fld (pv 2) rfl)) (blkOk_by (own := [("name", 14)]) (N := nmL) (sc := defScope s_law) (by decide +kernel)) (fun _ _ _ _ _ => pg_name (i := 14) sc_law.nd rfl (Or.inl rfl)) (fun _ _ _ _ _ => pts_one (pt_cmpR (op_neDK (K := K) rfl hr.units) (pe_fldK (K := K) rfl (pe_dget hu (pe_fldK (K := K) rfl (pv 2) rfl) (pv 14) (fun _ _ => rfl)) rfl) (pe_tup pa_nil) (nomark _))) (fun _ _ _ _ _ => (pv 14))))
      (pss_cons (ps_asg (pe_cal c_cheapest (hr.mono (by decide)) (by rfl) (pa_cons (pv 2) (pa_cons (pv 3) pa_nil))) (pg_tupK (K := K) rfl (pg_tup (n := 2) rfl (pgs_cons (pg_name (i := 5) sc_law.nd rfl (Or.inr rfl)) (pgs_cons (pg_name (i := 6) sc_law.nd rfl (Or.inl rfl)) pgs_nil)))))
      (pss_cons (ps_if (PW.pt (pw_or (pt_cmpR op_ne (pv 5) (pe_callB (cr_sumK (K := K) rfl rfl) (by rfl) T.sum boot_sum (pa_cons (pe_lock (pe_lc (own := [("mast", 8), ("many", 15)]) (tt := tYes) rfl sc_law.nd (pi_items (pv 6)) (blkOk_by (own := [("mast", 8), ("many", 15)]) (N := nmL) (sc := defScope s_law) (by decide +kernel)) (fun _ _ _ _ _ => (pg_tupK (K := K) rfl (pg_tup (n := 2) rfl (pgs_cons (pg_name (i := 8) sc_law.nd rfl (Or.inl rfl)) (pgs_cons (pg_name (i := 15) sc_law.nd rfl (Or.inl rfl)) pgs_nil))))) (fun _ _ _ _ _ => pts_nil) (fun _ _ _ _ _ => (pe_op op_mul (pe_dget hu (pv 3) (pv 8) (fun _ _ => rfl)) (pv 15))))) pa_nil)) (nomark _)) (pw_or1 (pt_val (pe_callB (cr_anyK (K := K) rfl rfl) (by rfl) T.any boot_any (pa_cons (pe_lock (pe_lc (own := [("many", 15)]) (g := gName 15) (tt := tYes) rfl sc_law.nd (pi_values (pv 6)) (blkOk_by (own := [("many", 15)]) (N := nmL) (sc := defScope s_law) (by decide +kernel)) (fun _ _ _ _ _ => pg_name (i := 15) sc_law.nd rfl (Or.inl rfl)) (fun _ _ _ _ _ => pts_nil) (fun _ _ _ _ _ => (pe_cmpR op_lt (pv 15) pe_int (nomark _))))) pa_nil))))))
        (pss_one (ps_ret pe_bl))
        pss_nil)
      (pss_cons (ps_if (pt_cmpR (op_neD hr.units) (pe_callTy (cr_lstS (K := K) rfl) (by rfl) T.list boot_list (pa_cons (pe_cal c_kept (hr.mono (by decide)) (by rfl) (pa_cons (pe_cal c_with_channels (hr.mono (by decide)) (by rfl) (pa_cons (pv 2) (pa_cons (pv 6) pa_nil))) pa_nil)) pa_nil)) (pv 4) (nomark _))
        (pss_one (ps_ret pe_bl))
        pss_nil)
      (pss_cons (ps_set (i := 7) sc_law.nd rfl (Or.inl rfl) (pe_lst (pa_cons pe_dnewK pa_nil)))
      (pss_cons (ps_lock (ps_for PassesOwn.never rfl (pi_keys (pe_fld (pv 2) rfl)) (pg_name (i := 8) sc_law.nd rfl (Or.inr rfl))
        (pss_cons (ps_set (i := 9) sc_law.nd rfl (Or.inl rfl) (pe_lst pa_nil))
        (pss_cons (ps_for PassesOwn.never rfl (pi_list (pv 7)) (pg_name (i := 10) sc_law.nd rfl (Or.inr rfl))
          (pss_one (ps_set (i := 9) sc_law.nd rfl (Or.inl rfl) (pe_op op_cat (pv 9) (pe_lc (own := [("many", 15)]) (g := gName 15) (tt := tYes) rfl sc_law.nd (pi_range1 (by rfl) T.range (pa_cons (pe_op op_add (pe_callB call_len_seq (by rfl) T.len PySem.boot_len (pa_cons (pv 4) pa_nil)) pe_int) pa_nil)) (blkOk_by (own := [("many", 15)]) (N := nmL) (sc := defScope s_law) (by decide +kernel)) (fun _ _ _ _ _ => pg_name (i := 15) sc_law.nd rfl (Or.inl rfl)) (fun _ _ _ _ _ => pts_nil) (fun _ _ _ _ _ => (pe_callTy (call_dictPK (K := K) rfl rfl) (by rfl) T.dict boot_dict (pa_cons (pe_op op_cat (LiI.pe_listItems rfl (pv 10) (by rfl) T.list boot_list) (pe_lst (pa_cons (pe_tup (pa_cons (pv 8) (pa_cons (pv 15) pa_nil))) pa_nil))) pa_nil))))))))
        (pss_one (ps_setLc (i := 7) (own := [("row", 10)]) (g := gName 10) rfl sc_law.nd rfl rfl (sw_true rfl rfl rfl (by decide +kernel)) (pi_list (pv 9)) (blkOk_by (own := [("row", 10)]) (N := nmL) (sc := defScope s_law) (by decide +kernel)) (fun _ _ _ _ _ => pg_name (i := 10) sc_law.nd rfl (Or.inl rfl)) (fun _ _ _ _ _ => pts_one (pt_cmpR op_lt (pe_callB (cr_sumK (K := K) rfl rfl) (by rfl) T.sum boot_sum (pa_cons (pe_lock (pe_lc (own := [("one", 16), ("many", 15)]) (tt := tYes) rfl sc_law.nd (pi_items (pv 10)) (blkOk_by (own := [("one", 16), ("many", 15)]) (N := nmL) (sc := relS _ (defScope s_law)) (by decide +kernel)) (fun _ _ _ _ _ => (pg_tupK (K := K) rfl (pg_tup (n := 2) rfl (pgs_cons (pg_name (i := 16) sc_law.nd rfl (Or.inl rfl)) (pgs_cons (pg_name (i := 15) sc_law.nd rfl (Or.inl rfl)) pgs_nil))))) (fun _ _ _ _ _ => pts_nil) (fun _ _ _ _ _ => (pe_op op_mul (pe_dget hu (pv 3) (pv 16) (fun _ _ => rfl)) (pv 15))))) pa_nil)) (pv 5) (nomark _))) (fun _ _ _ _ _ => (pv 10))))))))
      (pss_cons (ps_for PassesOwn.never rfl (pi_list (pv 7)) (pg_name (i := 10) sc_law.nd rfl (Or.inr rfl))
        (pss_one (ps_if (pt_cmpR (op_eqD hr.units) (pe_callTy (cr_lstS (K := K) rfl) (by rfl) T.list boot_list (pa_cons (pe_cal c_kept (hr.mono (by decide)) (by rfl) (pa_cons (pe_cal c_with_channels (hr.mono (by decide)) (by rfl) (pa_cons (pv 2) (pa_cons (pv 10) pa_nil))) pa_nil)) pa_nil)) (pv 4) (nomark _))
          (pss_one (ps_ret pe_bl))
          pss_nil)))
      (pss_cons (ps_if (pt_cmpR op_ne (pe_cal c_saved (hr.mono (by decide)) (by rfl) (pa_cons (pv 2) (pa_cons (pv 3) pa_nil))) (pe_op op_sub (pe_callB (cr_sumK (K := K) rfl rfl) (by rfl) T.sum boot_sum (pa_cons (pe_lc (own := [("name", 14)]) (g := gName 14) (tt := tYes) rfl sc_law.nd (pi_list (pv 4)) (blkOk_by (own := [("name", 14)]) (N := nmL) (sc := defScope s_law) (by decide +kernel)) (fun _ _ _ _ _ => pg_name (i := 14) sc_law.nd rfl (Or.inl rfl)) (fun _ _ _ _ _ => pts_nil) (fun _ _ _ _ _ => (pe_callB (cr_minK5 (K := K) rfl rfl) (by rfl) T.min boot_min (pa_cons (pe_lc (own := [("mast", 8)]) (g := gName 8) (tt := tYes) rfl sc_law.nd (pi_tupK5 (K := K) rfl (pe_fldK (K := K) rfl (pe_dget hu (pe_fldK (K := K) rfl (pv 2) rfl) (pv 14) (fun _ _ => rfl)) rfl)) (blkOk_by (own := [("mast", 8)]) (N := nmL) (sc := relS _ (defScope s_law)) (by decide +kernel)) (fun _ _ _ _ _ => pg_name (i := 8) sc_law.nd rfl (Or.inl rfl)) (fun _ _ _ _ _ => pts_nil) (fun _ _ _ _ _ => (pe_dget hu (pv 3) (pv 8) (fun _ _ => rfl)))) pa_nil)))) pa_nil)) (pv 5)) (nomark _))
        (pss_one (ps_ret pe_bl))
        pss_nil)
      (pss_cons (ps_for PassesOwn.never rfl (pi_tup (pe_tup (pa_cons (pe_un un_neg pe_int) (pa_cons pe_int (pa_cons pe_non pa_nil))))) (pg_name (i := 11) sc_law.nd rfl (Or.inl rfl))
        (pss_cons (ps_set (i := 12) sc_law.nd rfl (Or.inl rfl) (pe_callTy call_dictD (by rfl) T.dict boot_dict (pa_cons (pv 3) pa_nil)))
        (pss_cons (ps_set (i := 8) sc_law.nd rfl (Or.inr rfl) (pe_cal c__law_pick (hr.mono (by decide)) (by rfl) (pa_cons (pv 1) (pa_cons (pe_callB (cr_srtD rfl) (by rfl) T.sorted boot_sorted (pa_cons (pv 3) pa_nil)) pa_nil))))
        (pss_cons (ps_dput hu (pv 12) (pv 8) (pv 11) rfl)
        (pss_one (ps_tryAs (i := 13) (Wout := fun _ _ _ _ => False) rfl rfl sc_law.nd rfl rfl ⟨by rfl, by decide, Or.inl T.mgB⟩ L2.takes0
          (fun W pn xe tk _ => pss_cons (ps_expr (pe_calX c_cheapestX (hr.mono (by decide)) (by rfl) (fun σ => passAt tk σ) (pa_cons (pv 2) (pa_cons (pv 12) pa_nil)))) (pss_one (ps_ret pe_bl)))
          (fun a oe cls d pn hz hf => pss_one (ps_if (pt_cmpR op_ne (pe_xf T.xf T.nName hz hf (pv 13)) (pv 8) (nomark _)) (pss_one (ps_ret pe_bl)) pss_nil))))))))
      (pss_one (ps_ret pe_bl))))))))))))))
, ?_⟩
    refine ⟨_, rfl, (by show 2 ≤ sizeLine; decide), fun d hd => ?_⟩
    have D0 := Dr.mk' (j := 0) hS hlen hd
    have T0 := TabsN.ext hT (H' := upd H d (.lst [.ref a, .int 0])) (fun b o z => (Ex.new hd) b o z)
    generalize upd H d (.lst [.ref a, .int 0]) = H0 at D0 T0 ⊢
    clear hS hd hT
    refine ⟨_, rfl, [d], d, a, 3, 5, rfl, by decide, by decide, by decide, by decide, D0, fun sc H1 chs cls _ hSc1 hX1 ok hcn l7 l4 sm D1 k1 => ?_⟩
    have T1 := TabsN.kpD T0 D0 k1
    obtain ⟨dxs, ca, cb, e1, e2, e3⟩ := hX1.here
    have nsc : sc ≠ ca := fun z => by rw [z, e2] at e1; cases e1
    have nscb : sc ≠ cb := fun z => by rw [z, e3] at e1; cases e1
    have nba : cb ≠ ca := (dK_ne sm.1 e2 e3).symm
    have lch : chs.length < 64 := ok.len
    have hms64 : (keysT chs).length < 64 := by rw [keysT_len]; exact ok.len
    have dca : d ≠ ca := fun e => by obtain ⟨⟨k, hk⟩, _⟩ := D1; rw [e, e2] at hk; cases hk
    -- prices
    dsimp only [gName]
    refine ⟨ca, _, e2, trivial, fun od => ⟨_, rfl, sc, CS, dxs, _, _, rfl, (by rw [upd_ne nsc]; exact e1), T.clS, T.nCh, rfl, ca, od, rfl, .inl ⟨_, upd_same, fun D hD => ?_⟩⟩⟩
    have DL : Dr K (ca :: [d]) d a (upd H1 ca (.frz od (.dK (kvT vI chs)))) := (D1.lock e2).keep (Kp.at (by simp)) fun o z => by rw [upd_ne dca]; exact z
    have dD : d ≠ D := by obtain ⟨⟨k, hk⟩, _⟩ := DL; exact ne_of_none hk hD
    have cD : ca ≠ D := ne_of_none (show (upd H1 ca (.frz od (.dK (kvT vI chs)))) ca = some _ from upd_same) hD
    refine lc_it walk_keys (fun i H' => ∃ (as : List Addr) (rows : Chs), as.length = rows.length ∧ keysT rows = (keysT chs).take i ∧ (∀ x ∈ rows, 0 ≤ x.2 ∧ x.2 < 6) ∧ Dr K (D :: ca :: [d]) d a H' ∧ Kp [d] (upd H1 ca (.frz od (.dK (kvT vI chs)))) H' ∧ H' D = some (.lst (as.map V.ref)) ∧ PT vI H' as rows) ⟨[], [], rfl, rfl, fun x h => (nomatch h), (DL.grow hD).new hD, Kp.new hD, upd_same, rfl, fun i b r e => (nomatch e)⟩
      (fun i H' _ ⟨as, rows, _, _, _, _, k, _⟩ => k ca _ upd_same fun e => dca (List.mem_singleton.mp e).symm) ?_ ?_
    · rintro i' v _ H4 hi' ⟨as, rows, hla, hkr, h03, D4, k4, hd4, hP⟩ ⟨rfl, kk, v', hk', rfl⟩
      obtain ⟨z, hz, rfl, rfl⟩ := kvT_get hk'
      have et : (keysT chs).take (i' + 1) = (keysT chs).take i' ++ [z.1] := by unfold keysT; rw [List.take_add_one, List.getElem?_map, hz]; rfl
      refine ⟨rfl, yes_ite ⟨_, rfl, _, rfl, D :: ca :: [d], d, a, 6, rfl, D4, by decide, fun v H5 n0 n6 D5 k5 => ?_⟩⟩
      have hd5 := k5 D _ hd4 fun e => dD (List.mem_singleton.mp e).symm
      have hP5 : PT vI H5 as rows := hP.keep fun c xs z => k5 c _ z fun e => by
        obtain ⟨⟨kk, hkk⟩, _⟩ := D4
        rw [List.mem_singleton.mp e, hkk] at z; cases z
      refine ⟨(by show 2 ≤ sizeLine; decide), fun b hb => ⟨_, by rw [upd_ne (ne_of_none hd5 hb)]; exact hd5, ?_, as ++ [b], rows ++ [(z.1, v)], by rw [List.length_append, List.length_append, hla]; rfl, ?_, fun y hy => ?_, ?_, fun y o z ny => ?_, by rw [upd_same, List.map_append]; rfl, ?_⟩⟩
      · have := congrArg List.length hkr
        rw [keysT_len, List.length_take] at this
        rw [List.length_map, hla, this]
        exact Nat.lt_of_le_of_lt (Nat.min_le_right _ _) (Nat.lt_trans hms64 (by decide))
      · rw [et, ← hkr]; unfold keysT; rw [List.map_append]; rfl
      · rcases List.mem_append.mp hy with hy | hy
        · exact h03 y hy
        · cases List.mem_singleton.mp hy; exact ⟨n0, n6⟩
      · exact (D5.new hb).keep (Kp.at (by simp)) fun o z => by rw [upd_ne dD]; exact z
      · have z2 := k5 y o (k4 y o z ny) ny
        have nD : y ≠ D := ne_of_none z hD
        rw [upd_ne nD, upd_ne (ne_of_none z2 hb)]; exact z2
      · have nbD : b ≠ D := (ne_of_none hd5 hb).symm
        refine (hP5.keep fun c xs z => ?_).snoc (by rw [upd_ne nbD]; exact upd_same)
        have cD' : c ≠ D := fun e => by rw [e, hd5] at z; cases z
        rw [upd_ne cD', upd_ne (ne_of_none z hb)]; exact z
    rintro H4 ⟨as, pr, hla, hkr, h03, D4, k4, hd4, hP⟩
    have hlc' : (kvT vI chs).length = (keysT chs).length := by unfold kvT keysT; rw [List.length_map, List.length_map]
    rw [hlc', List.take_length] at hkr
    have hc4 := k4 ca _ upd_same fun e => dca (List.mem_singleton.mp e).symm
    refine ⟨hc4, ?_⟩
    have ndo : (keysT pr).Nodup := by rw [hkr]; exact ok.nd
    have x5 : Kp [d] H1 (upd H4 ca (.dK (kvT vI chs))) := fun b o z nd => by
      by_cases e : b = ca
      · rw [e, upd_same, ← e2, ← e]; exact z
      · rw [upd_ne e]; exact k4 b o (by rw [upd_ne e]; exact z) nd
    have hd5 : (upd H4 ca (.dK (kvT vI chs))) D = some (.lst (as.map V.ref)) := by rw [upd_ne cD.symm]; exact hd4
    have hP5 : PT vI (upd H4 ca (.dK (kvT vI chs))) as pr := hP.keep fun c xs z => by rw [upd_ne fun e => by rw [e, hc4] at z; cases z]; exact z
    have D5 : Dr K [d] d a (upd H4 ca (.dK (kvT vI chs))) := (D4.keep (Kp.at (by simp)) fun o z => by rw [upd_ne dca]; exact z).sub (fun b hb => by simp [hb]) D1.mem
    generalize upd H4 ca (.dK (kvT vI chs)) = H5 at x5 hd5 hP5 D5 ⊢
    refine ⟨D, as, kvT vI pr, rfl, SqL.of hd5, hP5.paired, fun pd hpd => ?_⟩
    rw [merge_T ndo]
    have hp6 : (upd H5 pd (.dK (kvT vI pr))) pd = some (.dK (kvT vI pr)) := upd_same
    have k6 : Kp [d] H1 (upd H5 pd (.dK (kvT vI pr))) := fun b o z n => by
      have z2 := x5 b o z n
      rw [upd_ne (ne_of_none z2 hpd)]; exact z2
    have D6 : Dr K [d] d a (upd H5 pd (.dK (kvT vI pr))) := D5.new hpd
    have npa : pd ≠ ca := fun e => by
      have := x5 ca _ e2 fun e => dca (List.mem_singleton.mp e).symm
      rw [← e, hpd] at this; cases this
    generalize upd H5 pd (.dK (kvT vI pr)) = H6 at hp6 k6 D6 ⊢
    have T6 := TabsN.kpD T1 D1 k6
    have g6 : ∀ {b : Addr} {o : HO}, H1 b = some o → (∀ l, o ≠ .lst l) → H6 b = some o := fun {b o} z n => k6 b o z fun e => by
      obtain ⟨⟨kk, hkk⟩, _⟩ := D1
      rw [List.mem_singleton.mp e, hkk] at z
      exact n _ (Option.some.inj z).symm
    have f1 := g6 e1 fun _ => by simp
    have f2 := g6 e2 fun _ => by simp
    have f3 := g6 e3 fun _ => by simp
    have C6 : CallsH K CC H6 cls := fun z hz => by
      obtain ⟨dx', q', r1, r2⟩ := (hSc1.calls z hz).here
      exact ⟨dx', q', g6 r1 fun _ => by simp, g6 r2 fun _ => by simp⟩
    have sch := hX1.sch
    have scl := hX1.scl
    have hpo : PrOk chs pr := fun m hm => by
      obtain ⟨v, hv⟩ := getT_key (l := pr) (k := m) (by rw [hkr]; exact hm)
      obtain ⟨v0, v6⟩ := h03 _ (getT_in hv)
      have v0 : 0 ≤ v := v0
      have v6 : v < 6 := v6
      exact ⟨v, hv, v0, by omega⟩
    clear x5 hd5 hP5 D5 hpd hP hd4 k4 D4 hc4 hD DL hla as e1 e2 e3 T1 D1 k1 hSc1 hX1 T0 D0 k6 g6
    -- heard
    have lcl : cls.length ≤ 100 := by omega
    refine q_lockL (i := 4) (xs := (hearers cls).map V.str) f3 (fun od => ?_) fun hl H7 hl0 x7 h7 => ?_
    · refine el_fK (g := vO) (l := cls) (heardB cls) V.str (ev_fld (dx := dxs) (ev_var rfl) (by rw [upd_ne nscb]; exact f1) T.clS T.nCa rfl) upd_same (by omega) (fun i y hy H8 x8 => ?_) fun i y hy _ H8 x8 => ev_var rfl
      obtain ⟨cd, hcd⟩ := getT_key (List.mem_of_getElem? hy)
      obtain ⟨dxc, hh, r1, r2⟩ := (C6 _ (getT_in hcd)).here
      have r1' := x8 _ _ (show upd H6 cb (.frz od (.dK (kvT vO cls))) cd.1 = _ by rw [upd_ne fun e => by rw [e, f3] at r1; cases r1]; exact r1)
      have r2' := x8 _ _ (show upd H6 cb (.frz od (.dK (kvT vO cls))) hh = _ by rw [upd_ne fun e => by rw [e, f3] at r2; cases r2]; exact r2)
      have lay : ∀ m ∈ cd.2.2, PyData.strOk m = true := fun m hm => by
        obtain ⟨z, hz, rfl⟩ := List.mem_map.mp ((ok.cl _ (getT_in hcd)).2.2.2.2.2 m hm)
        exact okN_lay (ok.ch z hz).1
      refine et_test (ev_is (ev_opU (xs := []) (ev_fld (ev_dget (f := vO) (ev_fld (dx := dxs) (ev_var rfl) (x8 _ _ (by rw [upd_ne nscb]; exact f1)) T.clS T.nCa rfl) (ev_var rfl) (.inr ⟨od, x8 _ _ upd_same⟩) hcd) r1' T.clC T.nH rfl) (eu_tup ea_nil (by show 0 ≤ 100000; decide)) fun g H9 hg x9 => rv_neST (xs := cd.2.2) (ys := []) (st_of (x9 _ _ r2')) (st_of hg) lay (fun x h => nomatch h)) ?_)
      have eh : heardB cls y = !cd.2.2.isEmpty := by
        show (!(hdP cls y).isEmpty) = _
        unfold hdP; rw [hcd]; rfl
      rw [eh]
      cases cd.2.2 <;> rfl
    have ndl : hl ≠ d := fun e => by obtain ⟨⟨j, hj⟩, _⟩ := D6; rw [e, hj] at hl0; cases hl0
    have W7 : W3 K CS CC TT a d sc dxs ca cb pd hl chs pr cls (.dK (kvT vI chs)) H7 := ⟨(D6.same x7).lock (x7 _ _ f2), TabsN.ext T6 x7, x7 _ _ f1, x7 _ _ f2, x7 _ _ f3, C6.same x7, x7 _ _ hp6, h7, ndl⟩
    clear f1 f2 f3 C6 hp6 D6 T6 x7 h7 hl0
    -- cost, more
    have S7 : SceneH K CS CC H7 sc chs cls := ⟨⟨dxs, ca, cb, W7.hsc, .inl W7.hch, .inl W7.hcl⟩, W7.cal⟩
    refine ⟨_, rfl, _, rfl, sc, pd, chs, pr, cls, rfl, S7, ⟨⟨dxs, ca, cb, W7.hsc, W7.hch, W7.hcl⟩, sch, scl⟩, ok, .inl W7.hp, hpo, W7.tabs, fun t dd cs lot U ks H8 C ndk srtk hks ht hdd x8 T8 => ⟨t, _, rfl, SqT.of ht, rfl, _, _, rfl, _, _, rfl, rfl, ?_⟩⟩
    have W8 := W7.ext (uok_d _) x8 T8
    clear S7 W7 x8 T8 ht
    generalize hms : U.map (buyM pr cs) = ms at hks hdd
    have msk : ∀ m ∈ ms, m ∈ keysT chs := fun m hm => chp_ds ok hpo C m (by rw [hms]; exact hm)
    have lU : ms.length ≤ 7 := by
      rw [← hms, List.length_map]
      have := len_sub C.nd fun x hx => (List.mem_filter.mp ((chp_mem C x).mp hx).1).1
      rw [keysT_len] at this; omega
    have cost : costI pr cs U = (ms.map (prI pr)).sum := by unfold costI; rw [hms]
    generalize hmo : (ks.map fun m => (m, ((ms.count m : Nat) : Int)) : Chs) = mo at hdd
    have lmo : mo.length < 100 := by
      rw [← hmo, List.length_map]
      have := len_sub ndk fun x hx => msk x ((hks x).mp hx)
      omega
    have pks : ∀ m ∈ ks, ∃ v, getT pr m = some v ∧ 0 ≤ v ∧ v ≤ 1000 := fun m hm => hpo m (msk m ((hks m).mp hm))
    have cntle : ∀ m, ms.count m ≤ 7 := fun m => Nat.le_trans (List.count_le_length) lU
    dsimp only [gName]
    refine q_when (b := false) (et_is (et_or (a := false) (b := false) (et_test (ev_is (ev_op (ev_var rfl) (ev_sumM (K := K) (ys := mo) (p := fun y => prI pr y.1 * y.2) (el_lock hdd fun od => el_items (g := vI) (l := mo) (i := 8) (j := 15) (f := fun y => V.int (prI pr y.1 * y.2)) (ev_var rfl) upd_same (by omega) fun i y hy H9 x9 => ?_)) (rv_ne rfl)) ?_)) fun _ => et_is (et_B (ev_anyM (K := K) (ys := mo) (p := fun y => decide (y.2 < 1)) (el_lock hdd fun od => el_mV (g := vI) (l := mo) _ (ev_var rfl) upd_same (by omega) fun i y hy H9 x9 => ev_op (ev_var rfl) ev_c rv_I0))) ?_) rfl) (fun z => nomatch z) fun _ H9 x9 => ?_
    · have hy' := List.mem_of_getElem? hy
      rw [← hmo] at hy'
      obtain ⟨m, hm, rfl⟩ := List.mem_map.mp hy'
      obtain ⟨v, hv, v0, v1⟩ := pks m hm
      have := cntle m
      refine ev_is (ev_op (ev_dget (f := vI) (ev_var rfl) (ev_var rfl) (ex_rd x9 (rd_lock (.inl W8.hp) hdd)) hv) (ev_var rfl) (rv_I (Or.inr ⟨by show (-2 ^ 64 : Int) < ((ms.count m : Nat) : Int); omega, by show ((ms.count m : Nat) : Int) < 2 ^ 64; omega⟩))) ?_
      unfold prI; rw [hv]; rfl
    · have : (mo.map fun y => prI pr y.1 * y.2).sum = costI pr cs U := by
        rw [← hmo, List.map_map, cost]
        exact price_counts pr ndk fun m hm => (hks m).mpr hm
      rw [this]; simp
    · rw [Bool.eq_false_iff]
      intro z
      obtain ⟨y, hy, h1⟩ := List.any_eq_true.mp z
      rw [← hmo] at hy
      obtain ⟨m, hm, rfl⟩ := List.mem_map.mp hy
      have := List.count_pos_iff.mpr ((hks m).mp hm)
      have h1 : ((ms.count m : Nat) : Int) < 1 := of_decide_eq_true h1
      omega
    have W9 := W8.ex x9
    have hdd9 := x9 _ _ hdd
    clear W8 x9 hdd
    have hget : ∀ m, (getT mo m).getD 0 = ((ms.count m : Nat) : Int) := fun m => by
      rw [← hmo, getT_mk]
      by_cases e : m ∈ ks
      · rw [if_pos e]; rfl
      · rw [if_neg e, List.count_eq_zero.mpr fun z => e ((hks m).mpr z)]; rfl
    have okA : OkC (addM chs mo) cls := okC_add ok sm fun m => by
      rw [hget]
      have := cntle m
      exact ⟨by omega, by omega⟩
    have MA : MoreC chs (addM chs mo) cls cls (U.map (buyM pr cs)) := by rw [hms]; exact more_add ok msk hget
    have hsrt : sortedS (hearers cls) = true := sorted_filter _ scl
    have hnd : (hearers cls).Nodup := hear_nd ok.ndc
    have layc : ∀ x ∈ keysT cls, PyData.strOk x = true := fun x hx => by
      obtain ⟨z, hz, rfl⟩ := List.mem_map.mp hx
      exact okN_lay (ok.cl z hz).1
    have layh : ∀ x ∈ hearers cls, PyData.strOk x = true := fun x hx => layc x (List.mem_filter.mp hx).1
    have SX : ∀ {H : Hp}, W3 K CS CC TT a d sc dxs ca cb pd hl chs pr cls (.dK (kvT vI chs)) H → SceneH K CS CC H sc chs cls ∧ ScnX CS H sc chs cls := fun {H} W => ⟨⟨⟨dxs, ca, cb, W.hsc, .inl W.hch, .inl W.hcl⟩, W.cal⟩, ⟨dxs, ca, cb, W.hsc, W.hch, W.hcl⟩, sch, scl⟩
    refine q_when (b := false) (et_test fun H10 e10 Q q => evp_kw (i := 2) (j := 6) rfl rfl (SX W9).1 (SX W9).2 ok okA hdd9 H10 e10 _ fun v H11 e11 ⟨p, chs2, cls2, lot2, ev, hp, p1, p2, hk, srt⟩ => ?_) (fun z => nomatch z) fun _ H10 x10 => ?_
    · subst ev
      have ok2 := okA.perm p1 p2
      have hmem := chp_ok ok hpo C hk ok2.ndc (MA.perm okA p1 p2)
      have el : lot2 = hearers cls := asc_eq (by obtain ⟨_, _, _, x, _⟩ := hk; exact x) hnd srt hsrt hmem
      subst el
      refine ⟨_, rfl, rv_neSL (xs := hearers cls) (ys := hearers cls) (sq_of hp) (sq_of (e11 _ _ (e10 _ _ W9.hl))) layh layh H11 (Ex.refl _) Q fun H12 e12 => ?_⟩
      rw [decide_eq_true rfl]
      exact q H12 (e11.trans e12)
    have W10 := W9.ex x10
    clear W9 x10 hdd9 hget okA MA hks hmo lmo pks cntle hms msk lU cost
    -- rows
    intro r0 hr0
    have r0ca : r0 ≠ ca := fun e => by rw [e, W10.hch] at hr0; cases hr0
    have x11 := Ex.new (o := .dK []) hr0
    have hr11 : upd H10 r0 (.dK []) r0 = some (.dK (kvT vI [])) := upd_same
    generalize upd H10 r0 (.dK []) = H11 at x11 hr11 ⊢
    refine ⟨(by show 1 ≤ sizeLine; decide), fun l0 hl0 => ?_⟩
    have x12 := x11.trans (Ex.new (o := .lst [.ref r0]) hl0)
    have hr12 : upd H11 l0 (.lst [.ref r0]) r0 = some (.dK (kvT vI [])) := (Ex.new hl0) _ _ hr11
    have hl12 : upd H11 l0 (.lst [.ref r0]) l0 = some (.lst (([r0] : List Addr).map V.ref)) := upd_same
    generalize upd H11 l0 (.lst [.ref r0]) = H12 at x12 hr12 hl12 ⊢
    have W12 := W10.ex x12
    clear W10 x11 x12 hr11 hl0 hr0
    generalize hcst : costI pr cs U = cost
    have hh7 : (hearers cls).length ≤ 7 := by
      have := len_sub hnd fun x hx => (List.mem_filter.mp hx).1
      rw [keysT_len] at this; omega
    have rlN : ∀ {H : Hp} {u : HO} {b : Addr} {xs : List V}, W3 K CS CC TT a d sc dxs ca cb pd hl chs pr cls u H → UOk u → H b = some (.lst xs) → b ≠ ca := fun {H u b xs} W h z e => by rw [e, W.hch] at z; exact h.1 _ (Option.some.inj z)
    dsimp only [gName]
    refine q_lockFor (g := vI) (l := chs) (j := 8) W12.hch (fun od => ev_fld (dx := dxs) (ev_var rfl) (by rw [upd_ne nsc]; exact W12.hsc) T.clS T.nCh rfl)
      (fun od j σ' H' => ∃ (rl : Addr) (as : List Addr) (L : List Chs) (v8 v9 v10 : Option V), σ' = [some (.ref a), some (.ref d), some (.ref sc), some (.ref pd), some (.ref hl), some (.int cost), some (.ref dd), some (.ref rl), v8, v9, v10, none, none, none, none, none, none] ∧ W3 K CS CC TT a d sc dxs ca cb pd hl chs pr cls (.frz od (.dK (kvT vI chs))) H' ∧ H' rl = some (.lst (as.map V.ref)) ∧ PDi vI H' as L ∧ (∀ r ∈ L, keysT r = (keysT chs).take j ∧ ∀ x ∈ r, 0 ≤ x.2 ∧ x.2 ≤ 7) ∧ L.length ≤ 8 ^ j ∧ (0 < j → ∀ r ∈ L, (r.map fun x => prI pr x.1 * x.2).sum < cost))
      (fun od H13 x13 => ⟨l0, [r0], [[]], _, _, _, rfl, (W12.lock od nba npa).ex x13, x13 _ _ (by rw [upd_ne (rlN W12 (uok_d _) hl12)]; exact hl12), ⟨rfl, fun i b t e1 e2 => ?_⟩, fun r hr => by cases List.mem_singleton.mp hr; exact ⟨rfl, fun x hx => nomatch hx⟩, Nat.le_refl _, fun z => absurd z (Nat.lt_irrefl 0)⟩)
      (fun od j σ' H' ⟨_, _, _, _, _, _, _, W, _⟩ => W.hch) ?_ ?_
    · cases i with
      | zero =>
        cases Option.some.inj e1; cases Option.some.inj e2
        refine x13 _ _ ?_
        rw [upd_ne r0ca]; exact hr12
      | succ i => cases e1
    · rintro od j mst σ' H13 hmst ⟨rl, as, L, v8, v9, v10, rfl, W13, hrl, hPD, hL, hLn, hLc⟩
      have hj : j < (keysT chs).length := (List.getElem?_eq_some_iff.mp hmst).1
      have hj4 : j < 4 := by rw [keysT_len] at hj; omega
      have h8 : 8 ^ j ≤ 512 := Nat.le_trans (Nat.pow_le_pow_right (by decide) (by omega : j ≤ 3)) (by decide)
      have et : (keysT chs).take (j + 1) = (keysT chs).take j ++ [mst] := by rw [List.take_add_one, hmst]; rfl
      have ndt : ((keysT chs).take j ++ [mst]).Nodup := by rw [← et]; exact ok.nd.sublist (List.take_sublist _ _)
      refine q_asgL (el_lst ea_nil (by show 0 ≤ 100000; decide)) fun l1 H14 hl1 x14 h14 => ?_
      have W14 := W13.ex x14
      have hrl14 := x14 _ _ hrl
      have hPD14 : PDi vI H14 as L := hPD.keep fun b kv z => x14 _ _ z
      have rl1 : rl ≠ l1 := fun e => by rw [e] at hrl; rw [hrl] at hl1; cases hl1
      -- late
      refine q_forLn (K := K) (j := 10) (a := rl) (xs := as.map V.ref) (ev_var rfl) (SqL.of hrl14)
        (fun i σ' H' => ∃ (lt : Addr) (as2 : List Addr) (L2 : List Chs) (v10 : Option V), σ' = [some (.ref a), some (.ref d), some (.ref sc), some (.ref pd), some (.ref hl), some (.int cost), some (.ref dd), some (.ref rl), some (.str mst), some (.ref lt), v10, none, none, none, none, none, none] ∧ Ex H14 H' ∧ H' lt = some (.lst (as2.map V.ref)) ∧ PDi vI H' as2 L2 ∧ (∀ r ∈ L2, keysT r = (keysT chs).take (j + 1) ∧ ∀ x ∈ r, 0 ≤ x.2 ∧ x.2 ≤ 7) ∧ L2.length ≤ 8 * i)
        (fun H15 x15 => ⟨l1, [], [], _, rfl, x15, x15 _ _ h14, ⟨rfl, fun i b t e => (nomatch e)⟩, fun r hr => (nomatch hr), Nat.zero_le _⟩) (fun i σ' H' _ ⟨_, _, _, _, _, x, _⟩ => SqL.of (x _ _ hrl14)) ?_ ?_
      · rintro i xx σ' H15 hxx ⟨lt, as2, L2, v10, rfl, x15, hlt, hP2, hL2, hn2⟩
        rw [List.getElem?_map] at hxx
        obtain ⟨b, hb, rfl⟩ := Option.map_eq_some_iff.mp hxx
        have hiL : i < L.length := by rw [← hPD.1]; exact (List.getElem?_eq_some_iff.mp hb).1
        obtain ⟨t0, ht0⟩ : ∃ t0, L[i]? = some t0 := ⟨_, List.getElem?_eq_getElem hiL⟩
        have hbd := x15 _ _ (hPD14.2 i b t0 hb ht0)
        obtain ⟨kt0, vt0⟩ := hL t0 (List.mem_of_getElem? ht0)
        have lt0 : t0.length ≤ 3 := by
          rw [← keysT_len, kt0, List.length_take]
          exact Nat.le_trans (Nat.min_le_left _ _) (by omega)
        have W15 := W14.ex x15
        refine ⟨_, rfl, ?_⟩
        refine el_dI (ys := List.range ((((hearers cls).length : Nat) : Int) + 1).toNat) (c := fun i => V.int ((i : Nat) : Int)) (j := 15) (fun _ => true) (fun k => kvT vI (t0 ++ [(mst, ((k : Nat) : Int))])) (ei_r1 (ea_cons (ev_op (ev_is (ev_len (K := K) (ev_var rfl) (SqL.of W15.hl)) (by rw [List.length_map])) ev_c rv_I0) ea_nil) (by omega) (by omega)) (by rw [List.length_range]; omega) (fun _ _ _ _ _ => et_yes) (fun k y hy _ H16 x16 => ?_) (by intro _; rfl) H15 (Ex.refl _) _ fun D us H16 hD x16 hD16 pr' => ?_
        · refine ed_ext (g := vI) (t := t0) (c := mst) (v := ((y : Nat) : Int)) ?_ (ev_var rfl) (x16 _ _ hbd) (ev_var rfl) (ev_var rfl) (by omega)
          unfold keysT at kt0 ⊢
          rw [List.map_append, kt0]
          exact ndt
        · rw [List.filter_eq_self.mpr fun _ _ => rfl] at pr'
          obtain ⟨as3, rfl, hP3⟩ := pdi_of pr'
          have hlt16 := x16 _ _ hlt
          have hn3 : as3.length ≤ 8 := by
            rw [hP3.1, List.length_map, List.length_range]; omega
          have hn3' : as2.length ≤ 8 * i := by rw [hP2.1]; exact hn2
          refine ⟨lt, D, _, _, rfl, rfl, hlt16, hD16, sz_of (by rw [List.length_map, List.length_map]; omega), fun g hg => ?_⟩
          have x17 := x16.trans (Ex.new (o := .lst (as2.map V.ref ++ as3.map V.ref)) hg)
          refine ⟨g, as2 ++ as3, L2 ++ _, _, rfl, x15.trans x17, by rw [upd_same, List.map_append], ((hP2.keep fun b kv z => x16 _ _ z).app hP3).keep fun b kv z => (Ex.new hg) _ _ z, fun r hr => ?_, by rw [List.length_append, ← hP3.1]; omega⟩
          rcases List.mem_append.mp hr with hr | hr
          · exact hL2 r hr
          · obtain ⟨k, hk, rfl⟩ := List.mem_map.mp hr
            have hk := List.mem_range.mp hk
            refine ⟨?_, fun x hx => ?_⟩
            · rw [et]
              unfold keysT at kt0 ⊢
              rw [List.map_append, kt0]; rfl
            · rcases List.mem_append.mp hx with hx | hx
              · exact vt0 x hx
              · cases List.mem_singleton.mp hx
                exact ⟨(by show (0 : Int) ≤ ((k : Nat) : Int); omega), (by show ((k : Nat) : Int) ≤ 7; omega)⟩
      · rintro σ' H15 ⟨lt, as2, L2, v10, rfl, x15, hlt, hP2, hL2, hn2⟩
        have W15 := W14.ex x15
        have n2 : L2.length ≤ 4096 := by
          rw [List.length_map, hPD.1] at hn2; omega
        have zl : (as2.zip L2).map rowV = as2.map V.ref := by
          have e1 : (as2.zip L2).map Prod.fst = as2 := List.map_fst_zip (Nat.le_of_eq hP2.1)
          conv => rhs; rw [← e1, List.map_map]
          rfl
        refine s_asgL (xs := ((as2.zip L2).filter (rowLt pr cost)).map rowV) (el_fL (K := K) (ys := as2.zip L2) (c := rowV) (j := 10) (rowLt pr cost) rowV (ev_var rfl) (by rw [zl]; exact SqL.of hlt) (by rw [List.length_zip]; omega) (fun i y hy H16 x16 => ?_) fun i y hy _ H16 x16 => ev_var rfl) fun l2 H16 hl2 x16 h16 => ?_
        · obtain ⟨h1, h2⟩ := List.getElem?_zip_eq_some.mp hy
          have hd := x16 _ _ (hP2.2 i y.1 y.2 h1 h2)
          obtain ⟨ky, vy⟩ := hL2 y.2 (List.mem_of_getElem? h2)
          have ly : y.2.length ≤ 4 := by
            rw [← keysT_len, ky, List.length_take]
            exact Nat.le_trans (Nat.min_le_left _ _) (by omega)
          refine et_test (ev_op (ev_sumM (K := K) (ys := y.2) (p := fun z => prI pr z.1 * z.2) (el_lock hd fun od2 => el_items (g := vI) (l := y.2) (i := 16) (j := 15) (f := fun z => V.int (prI pr z.1 * z.2)) (ev_var rfl) upd_same (by omega) fun k z hz H17 x17 => ?_)) (ev_var rfl) rv_I0)
          have hzm := List.mem_of_getElem? hz
          have hzk' : z.1 ∈ keysT y.2 := List.mem_map.mpr ⟨z, hzm, rfl⟩
          rw [ky] at hzk'
          have hzk : z.1 ∈ keysT chs := List.mem_of_mem_take hzk'
          obtain ⟨v, hv, v0, v1⟩ := hpo _ hzk
          obtain ⟨z0, z7⟩ := vy z hzm
          refine ev_is (ev_op (ev_dget (f := vI) (ev_var rfl) (ev_var rfl) (ex_rd x17 (rd_lock (.inl (x16 _ _ W15.hp)) hd)) hv) (ev_var rfl) (rv_I (Or.inr ⟨by omega, by omega⟩))) ?_
          unfold prI; rw [hv]; rfl
        · refine ⟨l2, ((as2.zip L2).filter (rowLt pr cost)).map Prod.fst, ((as2.zip L2).filter (rowLt pr cost)).map Prod.snd, _, _, _, rfl, W15.ex x16, by rw [List.map_map]; exact h16, (hP2.filter _).keep fun b kv z => x16 _ _ z, fun r hr => ?_, ?_, fun _ r hr => ?_⟩
          · obtain ⟨x, hx, rfl⟩ := List.mem_map.mp hr
            exact hL2 _ (List.of_mem_zip (List.mem_filter.mp hx).1).2
          · rw [List.length_map]
            refine Nat.le_trans (List.length_filter_le _ _) ?_
            rw [List.length_zip, Nat.pow_succ]
            rw [List.length_map, hPD.1] at hn2
            have := Nat.min_le_right as2.length L2.length
            omega
          · obtain ⟨x, hx, rfl⟩ := List.mem_map.mp hr
            exact of_decide_eq_true (List.mem_filter.mp hx).2
    rintro od σ' H13 ⟨rl, as, L, v8, v9, v10, rfl, W13, hrl, hPD, hL, hLn, hLc⟩
    have W14 := W13.unlock nba npa
    have hrl14 : upd H13 ca (.dK (kvT vI chs)) rl = some (.lst (as.map V.ref)) := by rw [upd_ne (rlN W13 (uok_f _ _) hrl)]; exact hrl
    have hPD14 : PDi vI (upd H13 ca (.dK (kvT vI chs))) as L := hPD.keep fun b kv z => by rw [upd_ne fun e => by rw [e, W13.hch] at z; cases z]; exact z
    generalize upd H13 ca (.dK (kvT vI chs)) = H14 at W14 hrl14 hPD14 ⊢
    rw [List.take_length] at hL
    have hLc := hLc (by rw [keysT_len]; exact sm.1)
    clear W13 hrl hPD W12 hr12 hl12
    have hasL : as.length ≤ 4096 := by
      rw [hPD14.1]
      refine Nat.le_trans hLn (Nat.le_trans (Nat.pow_le_pow_right (by decide) (by rw [keysT_len]; omega : (keysT chs).length ≤ 4)) (by decide))
    refine q_forLn (K := K) (j := 10) (a := rl) (xs := as.map V.ref) (ev_var rfl) (SqL.of hrl14)
      (fun i σ' H' => (∃ v10, σ' = [some (.ref a), some (.ref d), some (.ref sc), some (.ref pd), some (.ref hl), some (.int cost), some (.ref dd), some (.ref rl), v8, v9, v10, none, none, none, none, none, none]) ∧ Ex H14 H') (fun H15 x15 => ⟨⟨_, rfl⟩, x15⟩) (fun i σ' H' _ ⟨_, x⟩ => SqL.of (x _ _ hrl14)) ?_ ?_
    · rintro i xx σ' H15 hxx ⟨⟨v10, rfl⟩, x15⟩
      rw [List.getElem?_map] at hxx
      obtain ⟨b, hb, rfl⟩ := Option.map_eq_some_iff.mp hxx
      have hiL : i < L.length := by rw [← hPD14.1]; exact (List.getElem?_eq_some_iff.mp hb).1
      obtain ⟨r, hr⟩ : ∃ t0, L[i]? = some t0 := ⟨_, List.getElem?_eq_getElem hiL⟩
      have hrm := List.mem_of_getElem? hr
      have hbd := x15 _ _ (hPD14.2 i b r hb hr)
      obtain ⟨kr, vr⟩ := hL r hrm
      have W15 := W14.ex x15
      have ndr : (keysT r).Nodup := by rw [kr]; exact ok.nd
      have nnr : ∀ x ∈ r, 0 ≤ x.2 := fun x hx => (vr x hx).1
      have okA : OkC (addM chs r) cls := okC_add ok sm fun m => by
        refine ⟨get_nn nnr, ?_⟩
        cases e : getT r m with
        | none => show (0 : Int) ≤ 100; decide
        | some n => have := (vr _ (getT_in e)).2; have : n ≤ 7 := this; show n ≤ 100; omega
      have MA : MoreC chs (addM chs r) cls cls (rowM r) := more_add ok (fun m hm => by rw [← kr]; exact row_mem hm) (row_cnt ndr nnr)
      refine s_when (b := false) (et_test fun H16 e16 Q q => evp_kw (i := 2) (j := 10) rfl rfl (SX W15).1 (SX W15).2 ok okA hbd H16 e16 _ fun v H17 e17 ⟨p, chs2, cls2, lot2, ev, hp, p1, p2, hk, srt⟩ => ?_) (fun z => nomatch z) fun _ H16 x16 => ⟨⟨_, rfl⟩, x15.trans x16⟩
      subst ev
      have ne : lot2 ≠ hearers cls := fun e => by
        have h1 := chp_least ok hpo C hk (MA.perm okA p1 p2) fun x hx => by rw [e]; exact hx
        rw [hcst, row_price (fun x hx => ?_) nnr] at h1
        · have := hLc r hrm; omega
        · obtain ⟨v, hv, v0, _⟩ := hpo x.1 (by rw [← kr]; exact List.mem_map.mpr ⟨x, hx, rfl⟩)
          unfold prI; rw [hv]; exact v0
      refine ⟨_, rfl, rv_eqSL (xs := lot2) (ys := hearers cls) (sq_of hp) (sq_of (e17 _ _ (e16 _ _ W15.hl))) (fun x hx => layc x ((p2.map Prod.fst).mem_iff.mp (kept_sub hk x hx))) layh H17 (Ex.refl _) Q fun H18 e18 => ?_⟩
      rw [decide_eq_false ne]
      exact q H18 (e17.trans e18)
    rintro σ' H15 ⟨⟨v10', rfl⟩, x15⟩
    have W15 := W14.ex x15
    clear W14 hrl14 hPD14 x15
    -- saved
    refine ⟨_, rfl, _, rfl, sc, pd, chs, pr, cls, rfl, (SX W15).1, (SX W15).2, ok, .inl W15.hp, hpo, W15.tabs, fun cs2 lot2 U2 H16 C2 x16 T16 => ?_⟩
    have W16 := W15.ext (uok_d _) x16 T16
    clear W15 x16 T16
    refine (ev_op (ev_sumM (K := K) (ys := hearers cls) (p := fun c => prI pr (cmF pr (hdP cls c))) (el_mL (K := K) (ys := hearers cls) (c := V.str) (j := 14) _ (ev_var rfl) (SqL.of W16.hl) (by omega) fun i c hc H17 x17 => ?_)) (ev_var rfl) rv_I0) H16 (Ex.refl _) _ fun H17 x17 => ?_
    · have hcm := List.mem_of_getElem? hc
      obtain ⟨hck, hcb⟩ := List.mem_filter.mp hcm
      obtain ⟨cd, hcd⟩ := getT_key hck
      obtain ⟨dxc, hh, r1, r2⟩ := (W16.cal _ (getT_in hcd)).here
      have eh : hdP cls c = cd.2.2 := by unfold hdP; rw [hcd]; rfl
      have ne : cd.2.2 ≠ [] := by rw [← eh]; exact (heardB_iff cls c).mp hcb
      obtain ⟨m1, m2⟩ := cmF_ok pr ne
      have l5 := (ok.cl _ (getT_in hcd)).2.2.2.2.1
      have l5 : cd.2.2.length < 64 := l5
      refine ev_is (ev_minM (K := K) (ys := cd.2.2) (p := prI pr) (el_mT (K := K) (ys := cd.2.2) (c := V.str) (j := 8) _ (ev_fld (ev_dget (f := vO) (ev_fld (ev_var rfl) (x17 _ _ W16.hsc) T.clS T.nCa rfl) (ev_var rfl) (.inl (x17 _ _ W16.hcl)) hcd) (x17 _ _ r1) T.clC T.nH rfl) (st_of (x17 _ _ r2)) (by omega) fun i2 m hm H18 x18 => ?_) ne) ?_
      · obtain ⟨v, hv, v0, v1⟩ := hpo m ((ok.cl _ (getT_in hcd)).2.2.2.2.2 m (List.mem_of_getElem? hm))
        refine ev_is (ev_dget (f := vI) (ev_var rfl) (ev_var rfl) (.inl (x18 _ _ (x17 _ _ W16.hp))) hv) ?_
        unfold prI; rw [hv]; rfl
      · rw [eh]
        refine congrArg V.int (minI_uniq (List.mem_map.mpr ⟨_, m1, rfl⟩) fun x hx => ?_)
        obtain ⟨m', hm', rfl⟩ := List.mem_map.mp hx
        exact m2 m' hm'
    have W17 := W16.ex x17
    clear W16 x17
    refine rv_ne rfl H17 (Ex.refl _) _ fun H18 x18 => ⟨_, rfl, ?_⟩
    have W18 := W17.ex x18
    have esame : costI pr cs2 U2 = cost := by rw [← hcst]; exact chp_same ok hpo C2 C
    have eb : (!decide (V.int (worthI cls pr - costI pr cs2 U2) = V.int (((hearers cls).map fun c => prI pr (cmF pr (hdP cls c))).sum - cost))) = false := by
      rw [esame]
      show (!decide (V.int (worthI cls pr - cost) = V.int (worthI cls pr - cost))) = false
      simp
    rw [eb]
    refine ite2 (fun z => nomatch z) fun _ => ?_
    clear W17 x18 eb esame C2
    -- wrong prices
    have hpr64 : pr.length < 64 := by rw [← keysT_len, hkr, keysT_len]; exact lch
    have hprk : ∀ m ∈ keysT pr, m ∈ keysT chs := fun m hm => by rw [← hkr]; exact hm
    refine q_forNT (K := K) (xs := [.int (-1), .int 1001, .non]) (eu_tup (ea_cons (ev_un ev_c ru_neg) (ea_cons ev_c (ea_cons ev_c ea_nil))) (by show 3 ≤ 100000; decide))
      (fun q i σ' H' => (∃ v8 v11 v12 v13, σ' = [some (.ref a), some (.ref d), some (.ref sc), some (.ref pd), some (.ref hl), some (.int cost), some (.ref dd), some (.ref rl), v8, v9, v10', v11, v12, v13, none, none, none]) ∧ (∃ u, W3 K CS CC TT a d sc dxs ca cb pd hl chs pr cls u H' ∧ UOk u ∧ (u = .dK (kvT vI chs) ∨ ∃ od, u = .frz od (.dK (kvT vI chs)))) ∧ H' q = some (.tup [.int (-1), .int 1001, .non]) ∧ q ≠ ca ∧ q ≠ d)
      (fun q H19 hq x19 hq19 => ⟨⟨_, _, _, _, rfl⟩, ⟨_, W18.ex x19, uok_d _, .inl rfl⟩, hq19, (fun e => by rw [e, W18.hch] at hq; cases hq), (fun e => by obtain ⟨⟨j, hj⟩, _⟩ := W18.dr; rw [e, hj] at hq; cases hq)⟩)
      (fun q i σ' H' _ ⟨_, _, h, _⟩ => SqT.of h) ?_ ?_
    · rintro q i wv σ' H19 hwv ⟨⟨v8', v11, v12, v13, rfl⟩, ⟨u, W19, hu, hud⟩, hq19, nqa, nqd⟩
      have hwok : (wv = .non ∨ ∃ n : Int, wv = .int n ∧ ¬(0 ≤ n ∧ n ≤ 1000)) := by
        match i, hwv with
        | 0, h => cases Option.some.inj h; exact .inr ⟨_, rfl, by omega⟩
        | 1, h => cases Option.some.inj h; exact .inr ⟨_, rfl, by omega⟩
        | 2, h => cases Option.some.inj h; exact .inl rfl
      dsimp only [gName]
      refine q_asgD (ed_copy rfl (ev_var rfl) (.inl W19.hp)) fun sp H20 hsp0 x20 hsp => ?_
      have W20 := W19.ex x20
      have hq20 := x20 _ _ hq19
      have nsp : ∀ {b o}, H19 b = some o → b ≠ sp := fun {b o} z => ne_of_none z hsp0
      have n1 := nsp W19.hsc
      have n2 := nsp W19.hch
      have n3 := nsp W19.hcl
      have n4 := nsp W19.hp
      have n5 := nsp W19.hl
      have n6 := nsp hq19
      have nd : d ≠ sp := by obtain ⟨⟨j, hj⟩, _⟩ := W19.dr; exact nsp hj
      have nc : ∀ c o', H20 c = some o' → (∀ kvs, o' ≠ .dK kvs) → (∀ l, o' ≠ .lst l) → c ≠ sp := fun c o' z n _ e => by rw [e, hsp] at z; exact n _ (Option.some.inj z).symm
      have D20 : Dr K (sp :: [ca, d]) d a H20 := (W19.dr.grow hsp0).same x20
      clear W19 hq19 x20
      refine ⟨_, rfl, _, rfl, pd, _, keysT pr, rfl, .inl W20.hp, keys_kvT, (by rw [keysT_len]; exact hpr64), fun ys nl pm srt hnl => ?_⟩
      have x21 := Ex.new (o := .lst (ys.map V.str)) hnl
      have nnd : nl ≠ d := fun e => by obtain ⟨⟨j, hj⟩, _⟩ := W20.dr; rw [e, hj] at hnl; cases hnl
      refine ⟨sp :: [ca, d], d, a, nl, ys.map V.str, rfl, D20.same x21, by rw [List.length_map, pm.length_eq, hkr, keysT_len]; exact sm.1, fun H' k' => .inl (SqL.of (k' _ _ upd_same fun e => nnd (List.mem_singleton.mp e))), fun j x H21 hx D21 k21 => ?_⟩
      have k20 : Kp [d] H20 H21 := fun b o z n => k21 b o (x21 _ _ z) n
      have W21 := W20.draw hu (D21.sub (fun b hb => by simp at hb; rcases hb with hb | hb <;> simp [hb]) (by simp)) k20 nba npa
      have hsp21 := k20 _ _ hsp fun e => nd (List.mem_singleton.mp e).symm
      have hq21 := k20 _ _ hq20 fun e => nqd (List.mem_singleton.mp e)
      rw [List.getElem?_map] at hx
      obtain ⟨m, hm, rfl⟩ := Option.map_eq_some_iff.mp hx
      have hmk : m ∈ keysT pr := pm.mem_iff.mp (List.mem_of_getElem? hm)
      have nc21 : ∀ c o', H21 c = some o' → (∀ kvs, o' ≠ .dK kvs) → (∀ l, o' ≠ .lst l) → c ≠ sp := fun c o' z n _ e => by rw [e, hsp21] at z; exact n _ (Option.some.inj z).symm
      clear W20 hq20 hsp k21 x21 D20 nc hx hnl k20
      dsimp only [gName]
      have epr : kvT vI pr = kvT vV (pr.map fun x => (x.1, vI x.2)) := by unfold kvT; rw [List.map_map]; rfl
      have kpv : keysT (pr.map fun x => (x.1, vI x.2)) = keysT pr := by unfold keysT; rw [List.map_map]; rfl
      refine ⟨_, rfl, _, rfl, _, rfl, sp, _, rfl, DPut.k (k := Sum.inr m) hsp21 (by unfold kvT; rw [List.length_map, sizeLine_eq]; omega), ?_⟩
      have ep : putK (kvT vI pr) (Sum.inr m : L2.Key) wv = kvT vV ((pr.map fun x => (x.1, vI x.2)).map fun x => if x.1 = m then (x.1, wv) else x) := by
        rw [epr]
        exact put_old (f := vV) (v := wv) (by rw [kpv]; exact hmk)
      generalize hpw : ((pr.map fun x => (x.1, vI x.2)).map fun x => if x.1 = m then (x.1, wv) else x : List (PySem.Str × V)) = pw at ep
      have hput : upd H21 sp (.dK (putK (kvT vI pr) (Sum.inr m : L2.Key) wv)) = upd H21 sp (.dK (kvT vV pw)) := by rw [ep]
      rw [hput]
      have D22 : Dr K [ca, d] d a (upd H21 sp (.dK (kvT vV pw))) := (D21.keep (Kp.at (by simp)) fun o z => by rw [upd_ne nd]; exact z).sub (fun b hb => by simp at hb; rcases hb with hb | hb <;> simp [hb]) (by simp)
      have W22 := W21.put D22 (TabsN.updD W21.tabs (.inl hsp21)) n1 n2 n3 n4 n5 nc21
      have hsp22 : upd H21 sp (.dK (kvT vV pw)) sp = some (.dK (kvT vV pw)) := upd_same
      have hq22 : upd H21 sp (.dK (kvT vV pw)) q = some (.tup [.int (-1), .int 1001, .non]) := by rw [upd_ne n6]; exact hq21
      generalize upd H21 sp (.dK (kvT vV pw)) = H22 at W22 hsp22 hq22 ⊢
      have rdc : Rd H22 ca (.dK (kvT vI chs)) := by
        rcases hud with rfl | ⟨od, rfl⟩
        · exact .inl W22.hch
        · exact .inr ⟨od, W22.hch⟩
      have hpwg : ∀ y ∈ keysT pr, getT pw y = if y = m then some wv else (getT pr y).map vI := fun y hy => by
        obtain ⟨n, hn⟩ := getT_key hy
        have nd1 : (keysT pw).Nodup := by
          have : keysT pw = keysT pr := by
            rw [← hpw, ← kpv]; unfold keysT; rw [List.map_map]
            refine List.map_congr_left fun x _ => ?_
            show (if x.1 = m then (x.1, wv) else x).1 = x.1
            split <;> rfl
          rw [this]; exact ndo
        by_cases e : y = m
        · rw [if_pos e]
          refine getT_mem nd1 ?_
          rw [← hpw]
          exact List.mem_map.mpr ⟨(y, vI n), List.mem_map.mpr ⟨(y, n), getT_in hn, rfl⟩, by rw [if_pos e]⟩
        · rw [if_neg e, hn]
          refine getT_mem nd1 ?_
          rw [← hpw]
          exact List.mem_map.mpr ⟨(y, vI n), List.mem_map.mpr ⟨(y, n), getT_in hn, rfl⟩, by rw [if_neg e]⟩
      have bad : BadAt chs pw m := by
        refine ⟨?_, wv, by rw [hpwg m hmk, if_pos rfl], hwok⟩
        obtain ⟨i0, hi0⟩ := List.mem_iff_getElem?.mp (hprk m hmk)
        refine ⟨i0, hi0, fun j y hj hy => ?_⟩
        have hyk := List.mem_of_getElem? hy
        obtain ⟨v, hv, v0, v1⟩ := hpo y hyk
        have nym : y ≠ m := fun e => by
          subst e
          have := (List.getElem?_inj (List.getElem?_eq_some_iff.mp hy).1 ok.nd).mp (hy.trans hi0.symm)
          omega
        exact ⟨v, by rw [hpwg y (by rw [hkr]; exact hyk), if_neg nym, hv]; rfl, v0, v1⟩
      refine ⟨_, rfl, _, rfl, sc, sp, dxs, ca, cb, chs, pw, m, rfl, W22.hsc, rdc, lch, .inl hsp22, n2, bad, fun d2 H23 k23 rd23 hd2 => ?_⟩
      have nqc : ∀ u o, u ≠ ca → H22 u = some o → H23 u = some o := k23
      obtain ⟨u', hu', W23⟩ : ∃ u', (UOk u' ∧ (u' = .dK (kvT vI chs) ∨ ∃ od, u' = .frz od (.dK (kvT vI chs)))) ∧ W3 K CS CC TT a d sc dxs ca cb pd hl chs pr cls u' H23 := by
        rcases rd23 with h | ⟨od, h⟩
        · exact ⟨_, ⟨uok_d _, .inl rfl⟩, W22.left hu rdc k23 h nba npa⟩
        · exact ⟨_, ⟨uok_f _ _, .inr ⟨od, rfl⟩⟩, W22.left hu rdc k23 h nba npa⟩
      refine ⟨true, T.te, fun _ a0 _ => ?_, fun q => Bool.noConfusion q⟩
      refine ⟨_, rfl, rfl, rfl, d2, _, _, rfl, hd2, rfl, _, rfl, rfl, _, rfl, ?_⟩
      refine ite2 (fun z => ?_) fun _ => ?_
      · revert z
        show (!decide (V.str m = V.str m)) = true → _
        simp
      · exact ⟨⟨_, _, _, _, rfl⟩, ⟨u', W23, hu'.1, hu'.2⟩, k23 _ _ nqa hq22, nqa, nqd⟩
    · rintro q σ' H19 ⟨⟨v8', v11, v12, v13, rfl⟩, _⟩
      exact k _
end
end Mc
namespace Mc
open PySem L2 PySem.Spec PyProof.Rows
/-! ### an error of a class is what «except» of that class names -/
theorem exm_self {K : PySem.W.Frag} {S : Addr} (h1 : PySem.W.subIn K (.ref S) (.type "BaseException") = some true) (h2 : PySem.W.isClsIn K S = true) (h3 : PySem.W.typeIn K (.ref S) = some (.type "type")) (h4 : PySem.W.subIn K (.ref S) (.ref S) = some true) :
    PySem.W.exmOne K (.ref S) (.ref S) = some true := by
  have e1 : (PySem.W.subIn K (.ref S) (.type "BaseException") == some true) = true := by rw [h1] <;> rfl
  have e2 : ((PySem.W.clsIn K S).isSome && PySem.W.typeIn K (.ref S) == some (.type "type")) = true := by
    have h2' : (PySem.W.clsIn K S).isSome = true := h2
    rw [h2', h3] <;> rfl
  show (if (PySem.W.subIn K (.ref S) (.type "BaseException") == some true) = true then (if ((PySem.W.clsIn K S).isSome && PySem.W.typeIn K (.ref S) == some (.type "type")) = true then PySem.W.subIn K (.ref S) (.ref S) else none) else none) = some true
  rw [if_pos e1, if_pos e2]
  exact h4
abbrev sBadI : Stmt := inClass (top 4) 0
theorem scBadI : FnScope ["self", "name"] ["self", "name"] (defScope sBadI) := ⟨rfl, rfl, rfl, by decide +kernel, rfl, by decide +kernel, by decide +kernel⟩
theorem all_mk {l : PySem.W.OpenLaw} {w : World} {K : PySem.W.Frag} {h : Heap} {mg : PySem.Str → Option Value} {fa : Addr} (X : K.In h) (G : h.Ns mainGlobals mg) (hfa : mg "law" = some (.ref fa))
    {CK : Addr}
    {f_Seats_init : Addr} {od_Seats_init an_Seats_init : Option Addr} {sl_Seats_init : Array (Option Value)} {oc_Seats_init kV_Seats_init dc_Seats_init pm_Seats_init cd_Seats_init ct_Seats_init : Value}
    {f_Seats_has_room : Addr} {od_Seats_has_room an_Seats_has_room : Option Addr} {sl_Seats_has_room : Array (Option Value)} {oc_Seats_has_room kV_Seats_has_room dc_Seats_has_room pm_Seats_has_room cd_Seats_has_room ct_Seats_has_room : Value}
    {f_Seats_add : Addr} {od_Seats_add an_Seats_add : Option Addr} {sl_Seats_add : Array (Option Value)} {oc_Seats_add kV_Seats_add dc_Seats_add pm_Seats_add cd_Seats_add ct_Seats_add : Value}
    {f_Seats_way_for : Addr} {od_Seats_way_for an_Seats_way_for : Option Addr} {sl_Seats_way_for : Array (Option Value)} {oc_Seats_way_for kV_Seats_way_for dc_Seats_way_for pm_Seats_way_for cd_Seats_way_for ct_Seats_way_for : Value}
    {f_Seats_lead : Addr} {od_Seats_lead an_Seats_lead : Option Addr} {sl_Seats_lead : Array (Option Value)} {oc_Seats_lead kV_Seats_lead dc_Seats_lead pm_Seats_lead cd_Seats_lead ct_Seats_lead : Value}
    {f_Seats_put : Addr} {od_Seats_put an_Seats_put : Option Addr} {sl_Seats_put : Array (Option Value)} {oc_Seats_put kV_Seats_put dc_Seats_put pm_Seats_put cd_Seats_put ct_Seats_put : Value}
    {f_Seats_paper : Addr} {od_Seats_paper an_Seats_paper : Option Addr} {sl_Seats_paper : Array (Option Value)} {oc_Seats_paper kV_Seats_paper dc_Seats_paper pm_Seats_paper cd_Seats_paper ct_Seats_paper : Value}
    {CC : Addr}
    {f_Call_init : Addr} {od_Call_init an_Call_init : Option Addr} {sl_Call_init : Array (Option Value)} {oc_Call_init kV_Call_init dc_Call_init pm_Call_init cd_Call_init ct_Call_init : Value}
    {CS : Addr}
    {f_Scene_init : Addr} {od_Scene_init an_Scene_init : Option Addr} {sl_Scene_init : Array (Option Value)} {oc_Scene_init kV_Scene_init dc_Scene_init pm_Scene_init cd_Scene_init ct_Scene_init : Value}
    {f_Scene_order : Addr} {od_Scene_order an_Scene_order : Option Addr} {sl_Scene_order : Array (Option Value)} {oc_Scene_order kV_Scene_order dc_Scene_order pm_Scene_order cd_Scene_order ct_Scene_order : Value}
    {f_Scene_rank : Addr} {od_Scene_rank an_Scene_rank : Option Addr} {sl_Scene_rank : Array (Option Value)} {oc_Scene_rank kV_Scene_rank dc_Scene_rank pm_Scene_rank cd_Scene_rank ct_Scene_rank : Value}
    {CT : Addr}
    {f_Kept_init : Addr} {od_Kept_init an_Kept_init : Option Addr} {sl_Kept_init : Array (Option Value)} {oc_Kept_init kV_Kept_init dc_Kept_init pm_Kept_init cd_Kept_init ct_Kept_init : Value}
    {CB : Addr}
    {f_BadName_init : Addr} {od_BadName_init an_BadName_init : Option Addr} {sl_BadName_init : Array (Option Value)} {oc_BadName_init kV_BadName_init dc_BadName_init pm_BadName_init cd_BadName_init ct_BadName_init : Value}
    {f_is_number : Addr} {od_is_number an_is_number : Option Addr} {sl_is_number : Array (Option Value)} {oc_is_number kV_is_number dc_is_number pm_is_number cd_is_number ct_is_number : Value}
    {f_has_key : Addr} {od_has_key an_has_key : Option Addr} {sl_has_key : Array (Option Value)} {oc_has_key kV_has_key dc_has_key pm_has_key cd_has_key ct_has_key : Value}
    {f_put_in_order : Addr} {od_put_in_order an_put_in_order : Option Addr} {sl_put_in_order : Array (Option Value)} {oc_put_in_order kV_put_in_order dc_put_in_order pm_put_in_order cd_put_in_order ct_put_in_order : Value}
    {f_is_name : Addr} {od_is_name an_is_name : Option Addr} {sl_is_name : Array (Option Value)} {oc_is_name kV_is_name dc_is_name pm_is_name cd_is_name ct_is_name : Value}
    {f_check_mast : Addr} {od_check_mast an_check_mast : Option Addr} {sl_check_mast : Array (Option Value)} {oc_check_mast kV_check_mast dc_check_mast pm_check_mast cd_check_mast ct_check_mast : Value}
    {f_check_heard : Addr} {od_check_heard an_check_heard : Option Addr} {sl_check_heard : Array (Option Value)} {oc_check_heard kV_check_heard dc_check_heard pm_check_heard cd_check_heard ct_check_heard : Value}
    {f_check_call : Addr} {od_check_call an_check_call : Option Addr} {sl_check_call : Array (Option Value)} {oc_check_call kV_check_call dc_check_call pm_check_call cd_check_call ct_check_call : Value}
    {f_law_number : Addr} {od_law_number an_law_number : Option Addr} {sl_law_number : Array (Option Value)} {oc_law_number kV_law_number dc_law_number pm_law_number cd_law_number ct_law_number : Value}
    {f_law_take : Addr} {od_law_take an_law_take : Option Addr} {sl_law_take : Array (Option Value)} {oc_law_take kV_law_take dc_law_take pm_law_take cd_law_take ct_law_take : Value}
    {f_law_pick : Addr} {od_law_pick an_law_pick : Option Addr} {sl_law_pick : Array (Option Value)} {oc_law_pick kV_law_pick dc_law_pick pm_law_pick cd_law_pick ct_law_pick : Value}
    {f_law_masts : Addr} {od_law_masts an_law_masts : Option Addr} {sl_law_masts : Array (Option Value)} {oc_law_masts kV_law_masts dc_law_masts pm_law_masts cd_law_masts ct_law_masts : Value}
    {f_law_heard : Addr} {od_law_heard an_law_heard : Option Addr} {sl_law_heard : Array (Option Value)} {oc_law_heard kV_law_heard dc_law_heard pm_law_heard cd_law_heard ct_law_heard : Value}
    {f_law_scene : Addr} {od_law_scene an_law_scene : Option Addr} {sl_law_scene : Array (Option Value)} {oc_law_scene kV_law_scene dc_law_scene pm_law_scene cd_law_scene ct_law_scene : Value}
    {f_kept : Addr} {od_kept an_kept : Option Addr} {sl_kept : Array (Option Value)} {oc_kept kV_kept dc_kept pm_kept cd_kept ct_kept : Value}
    {f_with_channels : Addr} {od_with_channels an_with_channels : Option Addr} {sl_with_channels : Array (Option Value)} {oc_with_channels kV_with_channels dc_with_channels pm_with_channels cd_with_channels ct_with_channels : Value}
    {f_cheapest_mast : Addr} {od_cheapest_mast an_cheapest_mast : Option Addr} {sl_cheapest_mast : Array (Option Value)} {oc_cheapest_mast kV_cheapest_mast dc_cheapest_mast pm_cheapest_mast cd_cheapest_mast ct_cheapest_mast : Value}
    {f_priced_scene : Addr} {od_priced_scene an_priced_scene : Option Addr} {sl_priced_scene : Array (Option Value)} {oc_priced_scene kV_priced_scene dc_priced_scene pm_priced_scene cd_priced_scene ct_priced_scene : Value}
    {f_cheapest : Addr} {od_cheapest an_cheapest : Option Addr} {sl_cheapest : Array (Option Value)} {oc_cheapest kV_cheapest dc_cheapest pm_cheapest cd_cheapest ct_cheapest : Value}
    {f_saved : Addr} {od_saved an_saved : Option Addr} {sl_saved : Array (Option Value)} {oc_saved kV_saved dc_saved pm_saved cd_saved ct_saved : Value}
    {f_law : Addr} {od_law an_law : Option Addr} {sl_law : Array (Option Value)} {oc_law kV_law dc_law pm_law cd_law ct_law : Value}
    {t_SMALL_LETTERS : Tok}
    {t_FIGURES : Tok}
    {t_LONGEST_NAME : Tok}
    {t_LIMIT : Tok}
    {t_DEAREST : Tok}
    {tc_cheapest_mast tp_cheapest_mast : Addr}
    (a_Seats : PySem.W.nsIn K mainGlobals "Seats" = some (some (.ref CK)))
    (a_Seats_init : PySem.W.findIn K (.ref CK) "__init__" = some (some (.ref f_Seats_init)))
    (i_Seats_init : PySem.W.isFn K (.ref f_Seats_init) = true)
    (l_Seats_init : K.lookup f_Seats_init = some ⟨oc_Seats_init, od_Seats_init, .func (PySem.W.fnOf "__init__" "Seats.__init__" (defArgs sKInit) (defBody sKInit) (defScope sKInit) .none kV_Seats_init dc_Seats_init pm_Seats_init an_Seats_init cd_Seats_init ct_Seats_init), sl_Seats_init⟩)
    (c_Seats_init : PySem.W.codeIn K cd_Seats_init "Seats.__init__" = true)
    (k_Seats_init : PySem.W.keepIn K (.ref f_Seats_init) = true)
    (a_Seats_has_room : PySem.W.findIn K (.ref CK) "has_room" = some (some (.ref f_Seats_has_room)))
    (i_Seats_has_room : PySem.W.isFn K (.ref f_Seats_has_room) = true)
    (l_Seats_has_room : K.lookup f_Seats_has_room = some ⟨oc_Seats_has_room, od_Seats_has_room, .func (PySem.W.fnOf "has_room" "Seats.has_room" (defArgs sRoom) (defBody sRoom) (defScope sRoom) .none kV_Seats_has_room dc_Seats_has_room pm_Seats_has_room an_Seats_has_room cd_Seats_has_room ct_Seats_has_room), sl_Seats_has_room⟩)
    (c_Seats_has_room : PySem.W.codeIn K cd_Seats_has_room "Seats.has_room" = true)
    (k_Seats_has_room : PySem.W.keepIn K (.ref f_Seats_has_room) = true)
    (a_Seats_add : PySem.W.findIn K (.ref CK) "add" = some (some (.ref f_Seats_add)))
    (i_Seats_add : PySem.W.isFn K (.ref f_Seats_add) = true)
    (l_Seats_add : K.lookup f_Seats_add = some ⟨oc_Seats_add, od_Seats_add, .func (PySem.W.fnOf "add" "Seats.add" (defArgs sAdd) (defBody sAdd) (defScope sAdd) .none kV_Seats_add dc_Seats_add pm_Seats_add an_Seats_add cd_Seats_add ct_Seats_add), sl_Seats_add⟩)
    (c_Seats_add : PySem.W.codeIn K cd_Seats_add "Seats.add" = true)
    (k_Seats_add : PySem.W.keepIn K (.ref f_Seats_add) = true)
    (a_Seats_way_for : PySem.W.findIn K (.ref CK) "way_for" = some (some (.ref f_Seats_way_for)))
    (i_Seats_way_for : PySem.W.isFn K (.ref f_Seats_way_for) = true)
    (l_Seats_way_for : K.lookup f_Seats_way_for = some ⟨oc_Seats_way_for, od_Seats_way_for, .func (PySem.W.fnOf "way_for" "Seats.way_for" (defArgs sWay) (defBody sWay) (defScope sWay) .none kV_Seats_way_for dc_Seats_way_for pm_Seats_way_for an_Seats_way_for cd_Seats_way_for ct_Seats_way_for), sl_Seats_way_for⟩)
    (c_Seats_way_for : PySem.W.codeIn K cd_Seats_way_for "Seats.way_for" = true)
    (k_Seats_way_for : PySem.W.keepIn K (.ref f_Seats_way_for) = true)
    (a_Seats_lead : PySem.W.findIn K (.ref CK) "lead" = some (some (.ref f_Seats_lead)))
    (i_Seats_lead : PySem.W.isFn K (.ref f_Seats_lead) = true)
    (l_Seats_lead : K.lookup f_Seats_lead = some ⟨oc_Seats_lead, od_Seats_lead, .func (PySem.W.fnOf "lead" "Seats.lead" (defArgs sLead) (defBody sLead) (defScope sLead) .none kV_Seats_lead dc_Seats_lead pm_Seats_lead an_Seats_lead cd_Seats_lead ct_Seats_lead), sl_Seats_lead⟩)
    (c_Seats_lead : PySem.W.codeIn K cd_Seats_lead "Seats.lead" = true)
    (k_Seats_lead : PySem.W.keepIn K (.ref f_Seats_lead) = true)
    (a_Seats_put : PySem.W.findIn K (.ref CK) "put" = some (some (.ref f_Seats_put)))
    (i_Seats_put : PySem.W.isFn K (.ref f_Seats_put) = true)
    (l_Seats_put : K.lookup f_Seats_put = some ⟨oc_Seats_put, od_Seats_put, .func (PySem.W.fnOf "put" "Seats.put" (defArgs sSPut) (defBody sSPut) (defScope sSPut) .none kV_Seats_put dc_Seats_put pm_Seats_put an_Seats_put cd_Seats_put ct_Seats_put), sl_Seats_put⟩)
    (c_Seats_put : PySem.W.codeIn K cd_Seats_put "Seats.put" = true)
    (k_Seats_put : PySem.W.keepIn K (.ref f_Seats_put) = true)
    (a_Seats_paper : PySem.W.findIn K (.ref CK) "paper" = some (some (.ref f_Seats_paper)))
    (i_Seats_paper : PySem.W.isFn K (.ref f_Seats_paper) = true)
    (l_Seats_paper : K.lookup f_Seats_paper = some ⟨oc_Seats_paper, od_Seats_paper, .func (PySem.W.fnOf "paper" "Seats.paper" (defArgs sPaper) (defBody sPaper) (defScope sPaper) .none kV_Seats_paper dc_Seats_paper pm_Seats_paper an_Seats_paper cd_Seats_paper ct_Seats_paper), sl_Seats_paper⟩)
    (c_Seats_paper : PySem.W.codeIn K cd_Seats_paper "Seats.paper" = true)
    (k_Seats_paper : PySem.W.keepIn K (.ref f_Seats_paper) = true)
    (pg_Seats : PySem.W.plainGet K CK PySem.Str.empty = true)
    (hd_Seats : PySem.W.hasDictIn K CK = true)
    (po_Seats : PySem.W.plainOver K CK = true)
    (sa_Seats : PySem.W.findIn K (.ref CK) "__setattr__" = some (some (.builtin "object.__setattr__")))
    (mk_Seats : PySem.W.makesIn K CK = true)
    (kc_Seats : PySem.W.keepIn K (.ref CK) = true)
    (na_Seats_scene : PySem.W.findIn K (.ref CK) "scene" = some none)
    (na_Seats_seating : PySem.W.findIn K (.ref CK) "seating" = some none)
    (na_Seats_seated : PySem.W.findIn K (.ref CK) "seated" = some none)
    (a_Call : PySem.W.nsIn K mainGlobals "Call" = some (some (.ref CC)))
    (a_Call_init : PySem.W.findIn K (.ref CC) "__init__" = some (some (.ref f_Call_init)))
    (i_Call_init : PySem.W.isFn K (.ref f_Call_init) = true)
    (l_Call_init : K.lookup f_Call_init = some ⟨oc_Call_init, od_Call_init, .func (PySem.W.fnOf "__init__" "Call.__init__" (defArgs sCInit) (defBody sCInit) (defScope sCInit) .none kV_Call_init dc_Call_init pm_Call_init an_Call_init cd_Call_init ct_Call_init), sl_Call_init⟩)
    (c_Call_init : PySem.W.codeIn K cd_Call_init "Call.__init__" = true)
    (k_Call_init : PySem.W.keepIn K (.ref f_Call_init) = true)
    (pg_Call : PySem.W.plainGet K CC PySem.Str.empty = true)
    (hd_Call : PySem.W.hasDictIn K CC = true)
    (po_Call : PySem.W.plainOver K CC = true)
    (sa_Call : PySem.W.findIn K (.ref CC) "__setattr__" = some (some (.builtin "object.__setattr__")))
    (mk_Call : PySem.W.makesIn K CC = true)
    (kc_Call : PySem.W.keepIn K (.ref CC) = true)
    (na_Call_worth : PySem.W.findIn K (.ref CC) "worth" = some none)
    (na_Call_heard : PySem.W.findIn K (.ref CC) "heard" = some none)
    (a_Scene : PySem.W.nsIn K mainGlobals "Scene" = some (some (.ref CS)))
    (a_Scene_init : PySem.W.findIn K (.ref CS) "__init__" = some (some (.ref f_Scene_init)))
    (i_Scene_init : PySem.W.isFn K (.ref f_Scene_init) = true)
    (l_Scene_init : K.lookup f_Scene_init = some ⟨oc_Scene_init, od_Scene_init, .func (PySem.W.fnOf "__init__" "Scene.__init__" (defArgs sSInit) (defBody sSInit) (defScope sSInit) .none kV_Scene_init dc_Scene_init pm_Scene_init an_Scene_init cd_Scene_init ct_Scene_init), sl_Scene_init⟩)
    (c_Scene_init : PySem.W.codeIn K cd_Scene_init "Scene.__init__" = true)
    (k_Scene_init : PySem.W.keepIn K (.ref f_Scene_init) = true)
    (a_Scene_order : PySem.W.findIn K (.ref CS) "order" = some (some (.ref f_Scene_order)))
    (i_Scene_order : PySem.W.isFn K (.ref f_Scene_order) = true)
    (l_Scene_order : K.lookup f_Scene_order = some ⟨oc_Scene_order, od_Scene_order, .func (PySem.W.fnOf "order" "Scene.order" (defArgs sOrder) (defBody sOrder) (defScope sOrder) .none kV_Scene_order dc_Scene_order pm_Scene_order an_Scene_order cd_Scene_order ct_Scene_order), sl_Scene_order⟩)
    (c_Scene_order : PySem.W.codeIn K cd_Scene_order "Scene.order" = true)
    (k_Scene_order : PySem.W.keepIn K (.ref f_Scene_order) = true)
    (a_Scene_rank : PySem.W.findIn K (.ref CS) "rank" = some (some (.ref f_Scene_rank)))
    (i_Scene_rank : PySem.W.isFn K (.ref f_Scene_rank) = true)
    (l_Scene_rank : K.lookup f_Scene_rank = some ⟨oc_Scene_rank, od_Scene_rank, .func (PySem.W.fnOf "rank" "Scene.rank" (defArgs sRank) (defBody sRank) (defScope sRank) .none kV_Scene_rank dc_Scene_rank pm_Scene_rank an_Scene_rank cd_Scene_rank ct_Scene_rank), sl_Scene_rank⟩)
    (c_Scene_rank : PySem.W.codeIn K cd_Scene_rank "Scene.rank" = true)
    (k_Scene_rank : PySem.W.keepIn K (.ref f_Scene_rank) = true)
    (pg_Scene : PySem.W.plainGet K CS PySem.Str.empty = true)
    (hd_Scene : PySem.W.hasDictIn K CS = true)
    (po_Scene : PySem.W.plainOver K CS = true)
    (sa_Scene : PySem.W.findIn K (.ref CS) "__setattr__" = some (some (.builtin "object.__setattr__")))
    (mk_Scene : PySem.W.makesIn K CS = true)
    (kc_Scene : PySem.W.keepIn K (.ref CS) = true)
    (bg_Scene_rank : PySem.W.specialIn K (.ref f_Scene_rank) "__get__" = some (some (.builtin "function.__get__")))
    (bt_Scene_rank : PySem.W.takesIn K (.ref f_Scene_rank) = some false)
    (bf_Scene_rank : PySem.W.fnIn K f_Scene_rank = true)
    (na_Scene_channels : PySem.W.findIn K (.ref CS) "channels" = some none)
    (na_Scene_calls : PySem.W.findIn K (.ref CS) "calls" = some none)
    (a_Kept : PySem.W.nsIn K mainGlobals "Kept" = some (some (.ref CT)))
    (a_Kept_init : PySem.W.findIn K (.ref CT) "__init__" = some (some (.ref f_Kept_init)))
    (i_Kept_init : PySem.W.isFn K (.ref f_Kept_init) = true)
    (l_Kept_init : K.lookup f_Kept_init = some ⟨oc_Kept_init, od_Kept_init, .func (PySem.W.fnOf "__init__" "Kept.__init__" (defArgs sTInit) (defBody sTInit) (defScope sTInit) .none kV_Kept_init dc_Kept_init pm_Kept_init an_Kept_init cd_Kept_init ct_Kept_init), sl_Kept_init⟩)
    (c_Kept_init : PySem.W.codeIn K cd_Kept_init "Kept.__init__" = true)
    (k_Kept_init : PySem.W.keepIn K (.ref f_Kept_init) = true)
    (pg_Kept : PySem.W.plainGet K CT PySem.Str.empty = true)
    (hd_Kept : PySem.W.hasDictIn K CT = true)
    (po_Kept : PySem.W.plainOver K CT = true)
    (sa_Kept : PySem.W.findIn K (.ref CT) "__setattr__" = some (some (.builtin "object.__setattr__")))
    (mk_Kept : PySem.W.makesIn K CT = true)
    (kc_Kept : PySem.W.keepIn K (.ref CT) = true)
    (na_Kept_lot : PySem.W.findIn K (.ref CT) "lot" = some none)
    (na_Kept_seating : PySem.W.findIn K (.ref CT) "seating" = some none)
    (na_Kept_papers : PySem.W.findIn K (.ref CT) "papers" = some none)
    (a_BadName : PySem.W.nsIn K mainGlobals "BadName" = some (some (.ref CB)))
    (a_BadName_init : PySem.W.findIn K (.ref CB) "__init__" = some (some (.ref f_BadName_init)))
    (i_BadName_init : PySem.W.isFn K (.ref f_BadName_init) = true)
    (l_BadName_init : K.lookup f_BadName_init = some ⟨oc_BadName_init, od_BadName_init, .func (PySem.W.fnOf "__init__" "BadName.__init__" (defArgs sBadI) (defBody sBadI) (defScope sBadI) .none kV_BadName_init dc_BadName_init pm_BadName_init an_BadName_init cd_BadName_init ct_BadName_init), sl_BadName_init⟩)
    (c_BadName_init : PySem.W.codeIn K cd_BadName_init "BadName.__init__" = true)
    (k_BadName_init : PySem.W.keepIn K (.ref f_BadName_init) = true)
    (xi_BadName : PySem.W.excInitIn K CB exT "Exception.__new__" = true)
    (xo_BadName : PySem.W.excOver K CB exT = true)
    (hd_BadName : PySem.W.hasDictIn K CB = true)
    (sa_BadName : PySem.W.findIn K (.ref CB) "__setattr__" = some (some (.builtin "object.__setattr__")))
    (sb_BadName : PySem.W.subIn K (.ref CB) (.type "BaseException") = some true)
    (ty_BadName : PySem.W.typeIn K (.ref CB) = some (.type "type"))
    (kc_BadName : PySem.W.keepIn K (.ref CB) = true)
    (ga_BadName : PySem.W.findIn K (.ref CB) "__getattribute__" = some (some (.builtin "BaseException.__getattribute__")))
    (gg_BadName : PySem.W.findIn K (.ref CB) "__getattr__" = some none)
    (ic_BadName : PySem.W.isClsIn K CB = true)
    (ss_BadName : PySem.W.subIn K (.ref CB) (.ref CB) = some true)
    (na_BadName_name : PySem.W.findIn K (.ref CB) "name" = some none)
    (a_is_number : PySem.W.nsIn K mainGlobals "is_number" = some (some (.ref f_is_number)))
    (l_is_number : K.lookup f_is_number = some ⟨oc_is_number, od_is_number, .func (PySem.W.fnOf "is_number" "is_number" (defArgs sIsNum) (defBody sIsNum) (defScope sIsNum) .none kV_is_number dc_is_number pm_is_number an_is_number cd_is_number ct_is_number), sl_is_number⟩)
    (c_is_number : PySem.W.codeIn K cd_is_number "is_number" = true)
    (k_is_number : PySem.W.keepIn K (.ref f_is_number) = true)
    (a_has_key : PySem.W.nsIn K mainGlobals "has_key" = some (some (.ref f_has_key)))
    (l_has_key : K.lookup f_has_key = some ⟨oc_has_key, od_has_key, .func (PySem.W.fnOf "has_key" "has_key" (defArgs sHasKey) (defBody sHasKey) (defScope sHasKey) .none kV_has_key dc_has_key pm_has_key an_has_key cd_has_key ct_has_key), sl_has_key⟩)
    (c_has_key : PySem.W.codeIn K cd_has_key "has_key" = true)
    (k_has_key : PySem.W.keepIn K (.ref f_has_key) = true)
    (a_put_in_order : PySem.W.nsIn K mainGlobals "put_in_order" = some (some (.ref f_put_in_order)))
    (l_put_in_order : K.lookup f_put_in_order = some ⟨oc_put_in_order, od_put_in_order, .func (PySem.W.fnOf "put_in_order" "put_in_order" (defArgs sPut) (defBody sPut) (defScope sPut) .none kV_put_in_order dc_put_in_order pm_put_in_order an_put_in_order cd_put_in_order ct_put_in_order), sl_put_in_order⟩)
    (c_put_in_order : PySem.W.codeIn K cd_put_in_order "put_in_order" = true)
    (k_put_in_order : PySem.W.keepIn K (.ref f_put_in_order) = true)
    (a_is_name : PySem.W.nsIn K mainGlobals "is_name" = some (some (.ref f_is_name)))
    (l_is_name : K.lookup f_is_name = some ⟨oc_is_name, od_is_name, .func (PySem.W.fnOf "is_name" "is_name" (defArgs sIsName) (defBody sIsName) (defScope sIsName) .none kV_is_name dc_is_name pm_is_name an_is_name cd_is_name ct_is_name), sl_is_name⟩)
    (c_is_name : PySem.W.codeIn K cd_is_name "is_name" = true)
    (k_is_name : PySem.W.keepIn K (.ref f_is_name) = true)
    (a_check_mast : PySem.W.nsIn K mainGlobals "check_mast" = some (some (.ref f_check_mast)))
    (l_check_mast : K.lookup f_check_mast = some ⟨oc_check_mast, od_check_mast, .func (PySem.W.fnOf "check_mast" "check_mast" (defArgs sChkM) (defBody sChkM) (defScope sChkM) .none kV_check_mast dc_check_mast pm_check_mast an_check_mast cd_check_mast ct_check_mast), sl_check_mast⟩)
    (c_check_mast : PySem.W.codeIn K cd_check_mast "check_mast" = true)
    (k_check_mast : PySem.W.keepIn K (.ref f_check_mast) = true)
    (a_check_heard : PySem.W.nsIn K mainGlobals "check_heard" = some (some (.ref f_check_heard)))
    (l_check_heard : K.lookup f_check_heard = some ⟨oc_check_heard, od_check_heard, .func (PySem.W.fnOf "check_heard" "check_heard" (defArgs sChkH) (defBody sChkH) (defScope sChkH) .none kV_check_heard dc_check_heard pm_check_heard an_check_heard cd_check_heard ct_check_heard), sl_check_heard⟩)
    (c_check_heard : PySem.W.codeIn K cd_check_heard "check_heard" = true)
    (k_check_heard : PySem.W.keepIn K (.ref f_check_heard) = true)
    (a_check_call : PySem.W.nsIn K mainGlobals "check_call" = some (some (.ref f_check_call)))
    (l_check_call : K.lookup f_check_call = some ⟨oc_check_call, od_check_call, .func (PySem.W.fnOf "check_call" "check_call" (defArgs sChkC) (defBody sChkC) (defScope sChkC) .none kV_check_call dc_check_call pm_check_call an_check_call cd_check_call ct_check_call), sl_check_call⟩)
    (c_check_call : PySem.W.codeIn K cd_check_call "check_call" = true)
    (k_check_call : PySem.W.keepIn K (.ref f_check_call) = true)
    (a_law_number : PySem.W.nsIn K mainGlobals "_law_number" = some (some (.ref f_law_number)))
    (l_law_number : K.lookup f_law_number = some ⟨oc_law_number, od_law_number, .func (PySem.W.fnOf "_law_number" "_law_number" (defArgs sNum) (defBody sNum) (defScope sNum) .none kV_law_number dc_law_number pm_law_number an_law_number cd_law_number ct_law_number), sl_law_number⟩)
    (c_law_number : PySem.W.codeIn K cd_law_number "_law_number" = true)
    (k_law_number : PySem.W.keepIn K (.ref f_law_number) = true)
    (a_law_take : PySem.W.nsIn K mainGlobals "_law_take" = some (some (.ref f_law_take)))
    (l_law_take : K.lookup f_law_take = some ⟨oc_law_take, od_law_take, .func (PySem.W.fnOf "_law_take" "_law_take" (defArgs sTake) (defBody sTake) (defScope sTake) .none kV_law_take dc_law_take pm_law_take an_law_take cd_law_take ct_law_take), sl_law_take⟩)
    (c_law_take : PySem.W.codeIn K cd_law_take "_law_take" = true)
    (k_law_take : PySem.W.keepIn K (.ref f_law_take) = true)
    (a_law_pick : PySem.W.nsIn K mainGlobals "_law_pick" = some (some (.ref f_law_pick)))
    (l_law_pick : K.lookup f_law_pick = some ⟨oc_law_pick, od_law_pick, .func (PySem.W.fnOf "_law_pick" "_law_pick" (defArgs sPick) (defBody sPick) (defScope sPick) .none kV_law_pick dc_law_pick pm_law_pick an_law_pick cd_law_pick ct_law_pick), sl_law_pick⟩)
    (c_law_pick : PySem.W.codeIn K cd_law_pick "_law_pick" = true)
    (k_law_pick : PySem.W.keepIn K (.ref f_law_pick) = true)
    (a_law_masts : PySem.W.nsIn K mainGlobals "_law_masts" = some (some (.ref f_law_masts)))
    (l_law_masts : K.lookup f_law_masts = some ⟨oc_law_masts, od_law_masts, .func (PySem.W.fnOf "_law_masts" "_law_masts" (defArgs sLMasts) (defBody sLMasts) (defScope sLMasts) .none kV_law_masts dc_law_masts pm_law_masts an_law_masts cd_law_masts ct_law_masts), sl_law_masts⟩)
    (c_law_masts : PySem.W.codeIn K cd_law_masts "_law_masts" = true)
    (k_law_masts : PySem.W.keepIn K (.ref f_law_masts) = true)
    (a_law_heard : PySem.W.nsIn K mainGlobals "_law_heard" = some (some (.ref f_law_heard)))
    (l_law_heard : K.lookup f_law_heard = some ⟨oc_law_heard, od_law_heard, .func (PySem.W.fnOf "_law_heard" "_law_heard" (defArgs sLHeard) (defBody sLHeard) (defScope sLHeard) .none kV_law_heard dc_law_heard pm_law_heard an_law_heard cd_law_heard ct_law_heard), sl_law_heard⟩)
    (c_law_heard : PySem.W.codeIn K cd_law_heard "_law_heard" = true)
    (k_law_heard : PySem.W.keepIn K (.ref f_law_heard) = true)
    (a_law_scene : PySem.W.nsIn K mainGlobals "_law_scene" = some (some (.ref f_law_scene)))
    (l_law_scene : K.lookup f_law_scene = some ⟨oc_law_scene, od_law_scene, .func (PySem.W.fnOf "_law_scene" "_law_scene" (defArgs sLScene) (defBody sLScene) (defScope sLScene) .none kV_law_scene dc_law_scene pm_law_scene an_law_scene cd_law_scene ct_law_scene), sl_law_scene⟩)
    (c_law_scene : PySem.W.codeIn K cd_law_scene "_law_scene" = true)
    (k_law_scene : PySem.W.keepIn K (.ref f_law_scene) = true)
    (a_kept : PySem.W.nsIn K mainGlobals "kept" = some (some (.ref f_kept)))
    (l_kept : K.lookup f_kept = some ⟨oc_kept, od_kept, .func (PySem.W.fnOf "kept" "kept" (defArgs sKept) (defBody sKept) (defScope sKept) .none kV_kept dc_kept pm_kept an_kept cd_kept ct_kept), sl_kept⟩)
    (c_kept : PySem.W.codeIn K cd_kept "kept" = true)
    (k_kept : PySem.W.keepIn K (.ref f_kept) = true)
    (a_with_channels : PySem.W.nsIn K mainGlobals "with_channels" = some (some (.ref f_with_channels)))
    (l_with_channels : K.lookup f_with_channels = some ⟨oc_with_channels, od_with_channels, .func (PySem.W.fnOf "with_channels" "with_channels" (defArgs sWith) (defBody sWith) (defScope sWith) .none kV_with_channels dc_with_channels pm_with_channels an_with_channels cd_with_channels ct_with_channels), sl_with_channels⟩)
    (c_with_channels : PySem.W.codeIn K cd_with_channels "with_channels" = true)
    (k_with_channels : PySem.W.keepIn K (.ref f_with_channels) = true)
    (a_cheapest_mast : PySem.W.nsIn K mainGlobals "cheapest_mast" = some (some (.ref f_cheapest_mast)))
    (l_cheapest_mast : K.lookup f_cheapest_mast = some ⟨oc_cheapest_mast, od_cheapest_mast, .func (PySem.W.fnOf "cheapest_mast" "cheapest_mast" (defArgs sCheapM) (defBody sCheapM) (defScope sCheapM) .none kV_cheapest_mast dc_cheapest_mast pm_cheapest_mast an_cheapest_mast cd_cheapest_mast ct_cheapest_mast), sl_cheapest_mast⟩)
    (c_cheapest_mast : PySem.W.codeIn K cd_cheapest_mast "cheapest_mast" = true)
    (k_cheapest_mast : PySem.W.keepIn K (.ref f_cheapest_mast) = true)
    (a_priced_scene : PySem.W.nsIn K mainGlobals "priced_scene" = some (some (.ref f_priced_scene)))
    (l_priced_scene : K.lookup f_priced_scene = some ⟨oc_priced_scene, od_priced_scene, .func (PySem.W.fnOf "priced_scene" "priced_scene" (defArgs sPricedS) (defBody sPricedS) (defScope sPricedS) .none kV_priced_scene dc_priced_scene pm_priced_scene an_priced_scene cd_priced_scene ct_priced_scene), sl_priced_scene⟩)
    (c_priced_scene : PySem.W.codeIn K cd_priced_scene "priced_scene" = true)
    (k_priced_scene : PySem.W.keepIn K (.ref f_priced_scene) = true)
    (a_cheapest : PySem.W.nsIn K mainGlobals "cheapest" = some (some (.ref f_cheapest)))
    (l_cheapest : K.lookup f_cheapest = some ⟨oc_cheapest, od_cheapest, .func (PySem.W.fnOf "cheapest" "cheapest" (defArgs sCheapest) (defBody sCheapest) (defScope sCheapest) .none kV_cheapest dc_cheapest pm_cheapest an_cheapest cd_cheapest ct_cheapest), sl_cheapest⟩)
    (c_cheapest : PySem.W.codeIn K cd_cheapest "cheapest" = true)
    (k_cheapest : PySem.W.keepIn K (.ref f_cheapest) = true)
    (a_saved : PySem.W.nsIn K mainGlobals "saved" = some (some (.ref f_saved)))
    (l_saved : K.lookup f_saved = some ⟨oc_saved, od_saved, .func (PySem.W.fnOf "saved" "saved" (defArgs sSaved) (defBody sSaved) (defScope sSaved) .none kV_saved dc_saved pm_saved an_saved cd_saved ct_saved), sl_saved⟩)
    (c_saved : PySem.W.codeIn K cd_saved "saved" = true)
    (k_saved : PySem.W.keepIn K (.ref f_saved) = true)
    (a_law : PySem.W.nsIn K mainGlobals "law" = some (some (.ref f_law)))
    (l_law : K.lookup f_law = some ⟨oc_law, od_law, .func (PySem.W.fnOf "law" "law" (defArgs s_law) (defBody s_law) (defScope s_law) .none kV_law dc_law pm_law an_law cd_law ct_law), sl_law⟩)
    (c_law : PySem.W.codeIn K cd_law "law" = true)
    (k_law : PySem.W.keepIn K (.ref f_law) = true)
    (a_SMALL_LETTERS : PySem.W.nsIn K mainGlobals "SMALL_LETTERS" = some (some (.str letters t_SMALL_LETTERS)))
    (a_FIGURES : PySem.W.nsIn K mainGlobals "FIGURES" = some (some (.str figures t_FIGURES)))
    (a_LONGEST_NAME : PySem.W.nsIn K mainGlobals "LONGEST_NAME" = some (some (.int 8 t_LONGEST_NAME)))
    (a_LIMIT : PySem.W.nsIn K mainGlobals "LIMIT" = some (some (.int 1000 t_LIMIT)))
    (a_DEAREST : PySem.W.nsIn K mainGlobals "DEAREST" = some (some (.int 1000 t_DEAREST)))
    (z_abs : PySem.W.nsIn K mainGlobals "abs" = some none)
    (z_all : PySem.W.nsIn K mainGlobals "all" = some none)
    (z_any : PySem.W.nsIn K mainGlobals "any" = some none)
    (z_bool : PySem.W.nsIn K mainGlobals "bool" = some none)
    (z_dict : PySem.W.nsIn K mainGlobals "dict" = some none)
    (z_int : PySem.W.nsIn K mainGlobals "int" = some none)
    (z_isinstance : PySem.W.nsIn K mainGlobals "isinstance" = some none)
    (z_len : PySem.W.nsIn K mainGlobals "len" = some none)
    (z_list : PySem.W.nsIn K mainGlobals "list" = some none)
    (z_min : PySem.W.nsIn K mainGlobals "min" = some none)
    (z_range : PySem.W.nsIn K mainGlobals "range" = some none)
    (z_set : PySem.W.nsIn K mainGlobals "set" = some none)
    (z_sorted : PySem.W.nsIn K mainGlobals "sorted" = some none)
    (z_str : PySem.W.nsIn K mainGlobals "str" = some none)
    (z_sum : PySem.W.nsIn K mainGlobals "sum" = some none)
    (z_tuple : PySem.W.nsIn K mainGlobals "tuple" = some none)
    (ht_cheapest_mast : h.get? tp_cheapest_mast = some (PySem.W.tabObj #[]))
    (cc_cheapest_mast : cd_cheapest_mast = .ref tc_cheapest_mast)
    (ch_cheapest_mast : PySem.W.codeHdIn K tc_cheapest_mast tp_cheapest_mast = true)
    (np_cheapest_mast : K.lookup tp_cheapest_mast = none) :
    LamX.LawAtS l w K CX0 9 63 "script" mg fa h := by
  have e := hfa.symm.trans (PySem.W.mg_of X G a_law)
  cases e
  have F_Seats_init := fun_mk (st := sKInit) l_Seats_init c_Seats_init k_Seats_init
  have b_Seats_init := F_Seats_init.binds (ps := ["self", "scene"]) fun _ _ _ _ _ _ us hl => match us, hl with | [_, _], _ => rfl
  have F_Seats_has_room := fun_mk (st := sRoom) l_Seats_has_room c_Seats_has_room k_Seats_has_room
  have b_Seats_has_room := F_Seats_has_room.binds (ps := ["self", "mast"]) fun _ _ _ _ _ _ us hl => match us, hl with | [_, _], _ => rfl
  have M_Seats_has_room : Meth K CK "has_room" f_Seats_has_room := ⟨a_Seats_has_room, i_Seats_has_room, k_Seats_has_room⟩
  have F_Seats_add := fun_mk (st := sAdd) l_Seats_add c_Seats_add k_Seats_add
  have b_Seats_add := F_Seats_add.binds (ps := ["self", "name"]) fun _ _ _ _ _ _ us hl => match us, hl with | [_, _], _ => rfl
  have M_Seats_add : Meth K CK "add" f_Seats_add := ⟨a_Seats_add, i_Seats_add, k_Seats_add⟩
  have F_Seats_way_for := fun_mk (st := sWay) l_Seats_way_for c_Seats_way_for k_Seats_way_for
  have b_Seats_way_for := F_Seats_way_for.binds (ps := ["self", "name"]) fun _ _ _ _ _ _ us hl => match us, hl with | [_, _], _ => rfl
  have M_Seats_way_for : Meth K CK "way_for" f_Seats_way_for := ⟨a_Seats_way_for, i_Seats_way_for, k_Seats_way_for⟩
  have F_Seats_lead := fun_mk (st := sLead) l_Seats_lead c_Seats_lead k_Seats_lead
  have b_Seats_lead := F_Seats_lead.binds (ps := ["self", "mast", "came"]) fun _ _ _ _ _ _ us hl => match us, hl with | [_, _, _], _ => rfl
  have M_Seats_lead : Meth K CK "lead" f_Seats_lead := ⟨a_Seats_lead, i_Seats_lead, k_Seats_lead⟩
  have F_Seats_put := fun_mk (st := sSPut) l_Seats_put c_Seats_put k_Seats_put
  have b_Seats_put := F_Seats_put.binds (ps := ["self", "name", "mast"]) fun _ _ _ _ _ _ us hl => match us, hl with | [_, _, _], _ => rfl
  have M_Seats_put : Meth K CK "put" f_Seats_put := ⟨a_Seats_put, i_Seats_put, k_Seats_put⟩
  have F_Seats_paper := fun_mk (st := sPaper) l_Seats_paper c_Seats_paper k_Seats_paper
  have b_Seats_paper := F_Seats_paper.binds (ps := ["self", "name"]) fun _ _ _ _ _ _ us hl => match us, hl with | [_, _], _ => rfl
  have M_Seats_paper : Meth K CK "paper" f_Seats_paper := ⟨a_Seats_paper, i_Seats_paper, k_Seats_paper⟩
  have cls_Seats : Cls K CK := ⟨pg_Seats, hd_Seats, po_Seats, sa_Seats⟩
  have g_Seats := PySem.W.mg_of X G a_Seats
  have Mk_Seats : Mk K CK f_Seats_init := ⟨mk_Seats, a_Seats_init, i_Seats_init, kc_Seats⟩
  have F_Call_init := fun_mk (st := sCInit) l_Call_init c_Call_init k_Call_init
  have b_Call_init := F_Call_init.binds (ps := ["self", "worth", "heard"]) fun _ _ _ _ _ _ us hl => match us, hl with | [_, _, _], _ => rfl
  have cls_Call : Cls K CC := ⟨pg_Call, hd_Call, po_Call, sa_Call⟩
  have g_Call := PySem.W.mg_of X G a_Call
  have Mk_Call : Mk K CC f_Call_init := ⟨mk_Call, a_Call_init, i_Call_init, kc_Call⟩
  have F_Scene_init := fun_mk (st := sSInit) l_Scene_init c_Scene_init k_Scene_init
  have b_Scene_init := F_Scene_init.binds (ps := ["self", "channels", "calls"]) fun _ _ _ _ _ _ us hl => match us, hl with | [_, _, _], _ => rfl
  have F_Scene_order := fun_mk (st := sOrder) l_Scene_order c_Scene_order k_Scene_order
  have b_Scene_order := F_Scene_order.binds (ps := ["self"]) fun _ _ _ _ _ _ us hl => match us, hl with | [_], _ => rfl
  have M_Scene_order : Meth K CS "order" f_Scene_order := ⟨a_Scene_order, i_Scene_order, k_Scene_order⟩
  have F_Scene_rank := fun_mk (st := sRank) l_Scene_rank c_Scene_rank k_Scene_rank
  have b_Scene_rank := F_Scene_rank.binds (ps := ["self", "name"]) fun _ _ _ _ _ _ us hl => match us, hl with | [_, _], _ => rfl
  have M_Scene_rank : Meth K CS "rank" f_Scene_rank := ⟨a_Scene_rank, i_Scene_rank, k_Scene_rank⟩
  have B_Scene_rank : BMeth K CS "rank" f_Scene_rank := ⟨M_Scene_rank, bg_Scene_rank, bt_Scene_rank, by decide +kernel, bf_Scene_rank⟩
  have cls_Scene : Cls K CS := ⟨pg_Scene, hd_Scene, po_Scene, sa_Scene⟩
  have g_Scene := PySem.W.mg_of X G a_Scene
  have Mk_Scene : Mk K CS f_Scene_init := ⟨mk_Scene, a_Scene_init, i_Scene_init, kc_Scene⟩
  have F_Kept_init := fun_mk (st := sTInit) l_Kept_init c_Kept_init k_Kept_init
  have b_Kept_init := F_Kept_init.binds (ps := ["self", "scene"]) fun _ _ _ _ _ _ us hl => match us, hl with | [_, _], _ => rfl
  have cls_Kept : Cls K CT := ⟨pg_Kept, hd_Kept, po_Kept, sa_Kept⟩
  have g_Kept := PySem.W.mg_of X G a_Kept
  have Mk_Kept : Mk K CT f_Kept_init := ⟨mk_Kept, a_Kept_init, i_Kept_init, kc_Kept⟩
  have F_BadName_init := fun_mk (st := sBadI) l_BadName_init c_BadName_init k_BadName_init
  have b_BadName_init := F_BadName_init.binds (ps := ["self", "name"]) fun _ _ _ _ _ _ us hl => match us, hl with | [_, _], _ => rfl
  have g_BadName := PySem.W.mg_of X G a_BadName
  have O_BadName : OexB K CB := ⟨xi_BadName, xo_BadName, hd_BadName, sa_BadName, sb_BadName, ty_BadName, kc_BadName⟩
  have xf_BadName : XfC K CB := ⟨ga_BadName, gg_BadName, sb_BadName, hd_BadName⟩
  have te_BadName := exm_self sb_BadName ic_BadName ty_BadName ss_BadName
  have F_is_number := fun_mk (st := sIsNum) l_is_number c_is_number k_is_number
  have b_is_number := F_is_number.binds (ps := ["thing", "low", "high"]) fun _ _ _ _ _ _ us hl => match us, hl with | [_, _, _], _ => rfl
  have g_is_number := PySem.W.mg_of X G a_is_number
  have F_has_key := fun_mk (st := sHasKey) l_has_key c_has_key k_has_key
  have b_has_key := F_has_key.binds (ps := ["table", "thing"]) fun _ _ _ _ _ _ us hl => match us, hl with | [_, _], _ => rfl
  have g_has_key := PySem.W.mg_of X G a_has_key
  have F_put_in_order := fun_mk (st := sPut) l_put_in_order c_put_in_order k_put_in_order
  have b_put_in_order := F_put_in_order.binds (ps := ["table", "key", "value"]) fun _ _ _ _ _ _ us hl => match us, hl with | [_, _, _], _ => rfl
  have g_put_in_order := PySem.W.mg_of X G a_put_in_order
  have F_is_name := fun_mk (st := sIsName) l_is_name c_is_name k_is_name
  have b_is_name := F_is_name.binds (ps := ["thing"]) fun _ _ _ _ _ _ us hl => match us, hl with | [_], _ => rfl
  have g_is_name := PySem.W.mg_of X G a_is_name
  have F_check_mast := fun_mk (st := sChkM) l_check_mast c_check_mast k_check_mast
  have b_check_mast := F_check_mast.binds (ps := ["mast", "many"]) fun _ _ _ _ _ _ us hl => match us, hl with | [_, _], _ => rfl
  have g_check_mast := PySem.W.mg_of X G a_check_mast
  have F_check_heard := fun_mk (st := sChkH) l_check_heard c_check_heard k_check_heard
  have b_check_heard := F_check_heard.binds (ps := ["heard", "channels"]) fun _ _ _ _ _ _ us hl => match us, hl with | [_, _], _ => rfl
  have g_check_heard := PySem.W.mg_of X G a_check_heard
  have F_check_call := fun_mk (st := sChkC) l_check_call c_check_call k_check_call
  have b_check_call := F_check_call.binds (ps := ["name", "call", "channels"]) fun _ _ _ _ _ _ us hl => match us, hl with | [_, _, _], _ => rfl
  have g_check_call := PySem.W.mg_of X G a_check_call
  have F_law_number := fun_mk (st := sNum) l_law_number c_law_number k_law_number
  have b_law_number := F_law_number.binds (ps := ["script", "index"]) fun _ _ _ _ _ _ us hl => match us, hl with | [_, _], _ => rfl
  have g_law_number := PySem.W.mg_of X G a_law_number
  have F_law_take := fun_mk (st := sTake) l_law_take c_law_take k_law_take
  have b_law_take := F_law_take.binds (ps := ["draw", "many"]) fun _ _ _ _ _ _ us hl => match us, hl with | [_, _], _ => rfl
  have g_law_take := PySem.W.mg_of X G a_law_take
  have F_law_pick := fun_mk (st := sPick) l_law_pick c_law_pick k_law_pick
  have b_law_pick := F_law_pick.binds (ps := ["draw", "items"]) fun _ _ _ _ _ _ us hl => match us, hl with | [_, _], _ => rfl
  have g_law_pick := PySem.W.mg_of X G a_law_pick
  have F_law_masts := fun_mk (st := sLMasts) l_law_masts c_law_masts k_law_masts
  have b_law_masts := F_law_masts.binds (ps := ["draw", "most"]) fun _ _ _ _ _ _ us hl => match us, hl with | [_, _], _ => rfl
  have g_law_masts := PySem.W.mg_of X G a_law_masts
  have F_law_heard := fun_mk (st := sLHeard) l_law_heard c_law_heard k_law_heard
  have b_law_heard := F_law_heard.binds (ps := ["draw", "channels"]) fun _ _ _ _ _ _ us hl => match us, hl with | [_, _], _ => rfl
  have g_law_heard := PySem.W.mg_of X G a_law_heard
  have F_law_scene := fun_mk (st := sLScene) l_law_scene c_law_scene k_law_scene
  have b_law_scene := F_law_scene.binds (ps := ["draw", "masts", "calls"]) fun _ _ _ _ _ _ us hl => match us, hl with | [_, _, _], _ => rfl
  have g_law_scene := PySem.W.mg_of X G a_law_scene
  have F_kept := fun_mk (st := sKept) l_kept c_kept k_kept
  have b_kept := F_kept.binds (ps := ["scene"]) fun _ _ _ _ _ _ us hl => match us, hl with | [_], _ => rfl
  have g_kept := PySem.W.mg_of X G a_kept
  have F_with_channels := fun_mk (st := sWith) l_with_channels c_with_channels k_with_channels
  have b_with_channels := F_with_channels.binds (ps := ["scene", "more"]) fun _ _ _ _ _ _ us hl => match us, hl with | [_, _], _ => rfl
  have g_with_channels := PySem.W.mg_of X G a_with_channels
  have F_cheapest_mast := fun_mk (st := sCheapM) l_cheapest_mast c_cheapest_mast k_cheapest_mast
  have b_cheapest_mast := F_cheapest_mast.binds (ps := ["call", "prices"]) fun _ _ _ _ _ _ us hl => match us, hl with | [_, _], _ => rfl
  have g_cheapest_mast := PySem.W.mg_of X G a_cheapest_mast
  have F_priced_scene := fun_mk (st := sPricedS) l_priced_scene c_priced_scene k_priced_scene
  have b_priced_scene := F_priced_scene.binds (ps := ["scene", "prices"]) fun _ _ _ _ _ _ us hl => match us, hl with | [_, _], _ => rfl
  have g_priced_scene := PySem.W.mg_of X G a_priced_scene
  have F_cheapest := fun_mk (st := sCheapest) l_cheapest c_cheapest k_cheapest
  have b_cheapest := F_cheapest.binds (ps := ["scene", "prices"]) fun _ _ _ _ _ _ us hl => match us, hl with | [_, _], _ => rfl
  have g_cheapest := PySem.W.mg_of X G a_cheapest
  have F_saved := fun_mk (st := sSaved) l_saved c_saved k_saved
  have b_saved := F_saved.binds (ps := ["scene", "prices"]) fun _ _ _ _ _ _ us hl => match us, hl with | [_, _], _ => rfl
  have g_saved := PySem.W.mg_of X G a_saved
  have F_law := fun_mk (st := s_law) l_law c_law k_law
  have g_SMALL_LETTERS := PySem.W.mg_of X G a_SMALL_LETTERS
  have g_FIGURES := PySem.W.mg_of X G a_FIGURES
  have g_LONGEST_NAME := PySem.W.mg_of X G a_LONGEST_NAME
  have g_LIMIT := PySem.W.mg_of X G a_LIMIT
  have g_DEAREST := PySem.W.mg_of X G a_DEAREST
  have n_abs := PySem.W.mg_none_of X G z_abs
  have n_all := PySem.W.mg_none_of X G z_all
  have n_any := PySem.W.mg_none_of X G z_any
  have n_bool := PySem.W.mg_none_of X G z_bool
  have n_dict := PySem.W.mg_none_of X G z_dict
  have n_int := PySem.W.mg_none_of X G z_int
  have n_isinstance := PySem.W.mg_none_of X G z_isinstance
  have n_len := PySem.W.mg_none_of X G z_len
  have n_list := PySem.W.mg_none_of X G z_list
  have n_min := PySem.W.mg_none_of X G z_min
  have n_range := PySem.W.mg_none_of X G z_range
  have n_set := PySem.W.mg_none_of X G z_set
  have n_sorted := PySem.W.mg_none_of X G z_sorted
  have n_str := PySem.W.mg_none_of X G z_str
  have n_sum := PySem.W.mg_none_of X G z_sum
  have n_tuple := PySem.W.mg_none_of X G z_tuple
  refine ⟨PySem.W.fnOf "law" "law" (defArgs s_law) (defBody s_law) (defScope s_law) .none kV_law dc_law pm_law an_law cd_law ct_law, [(tc_cheapest_mast, tp_cheapest_mast)], spLaw K [(tp_cheapest_mast, fun _ _ => "cheapest_mast.<locals>.<lambda>")], List.forall_mem_cons.mpr ⟨ht_cheapest_mast, fun _ z => nomatch z⟩, List.forall_mem_cons.mpr ⟨np_cheapest_mast, fun _ z => nomatch z⟩, List.forall_mem_cons.mpr ⟨PySem.W.codeHd_of_K X ch_cheapest_mast, fun _ z => nomatch z⟩, fun s v => .of_eq rfl, fun H a ns hl _ ht hS => ⟨a, ns, rfl, hS, hl, ?_, fun _ => rfl⟩, fun base KB GB TB => ?_⟩
  · exact List.forall_mem_cons.mpr ⟨NdefX.TabN.nil (ht (tc_cheapest_mast, tp_cheapest_mast) (by simp)), fun _ z => nomatch z⟩
  have tb_cheapest_mast := TB (tc_cheapest_mast, tp_cheapest_mast) (by simp)
  have TD : TxD K mg f_law_number f_law_take := ⟨n_len, n_int, n_abs, g_law_number, g_law_take⟩
  have TN : TxN mg := ⟨n_isinstance, n_int, n_bool, n_str, n_len, n_all, ⟨_, g_SMALL_LETTERS⟩, ⟨_, g_FIGURES⟩, ⟨_, g_LONGEST_NAME⟩⟩
  have TS : TxS K mg CC := ⟨cls_Call, na_Call_worth, na_Call_heard, ⟨_, g_LIMIT⟩, n_len, n_set, n_tuple, n_sorted⟩
  have TC : TxC K mg CS := ⟨cls_Scene, na_Scene_channels, na_Scene_calls, n_sorted⟩
  have TK : TxK K mg CK CS CC := ⟨cls_Seats, na_Seats_scene, na_Seats_seating, na_Seats_seated, cls_Scene, na_Scene_channels, na_Scene_calls, cls_Call, na_Call_heard, n_len, n_list⟩
  have TW : TxW mg := ⟨n_range, n_str, n_dict⟩
  have c_take : Cal l.prog w K mg base 2 "_law_take" ["draw", "many"] (spTake K) := ⟨_, _, g_law_take, F_law_take.kp, b_law_take, ok_take F_law_take TD F_law_number b_law_number⟩
  have c_pick : Cal l.prog w K mg base 3 "_law_pick" ["draw", "items"] (spPick K) := ⟨_, _, g_law_pick, F_law_pick.kp, b_law_pick, ok_pick F_law_pick TD F_law_number b_law_number F_law_take b_law_take⟩
  have c_name : Cal l.prog w K mg base 1 "is_name" ["thing"] spIsName := ⟨_, _, g_is_name, F_is_name.kp, b_is_name, ok_isname F_is_name TN⟩
  have c_num : Cal l.prog w K mg base 1 "is_number" ["thing", "low", "high"] spIsNum := ⟨_, _, g_is_number, F_is_number.kp, b_is_number, ok_isnum F_is_number TN⟩
  have c_put : Cal l.prog w K mg base 1 "put_in_order" ["table", "key", "value"] spPutO := ⟨_, _, g_put_in_order, F_put_in_order.kp, b_put_in_order, ok_put F_put_in_order⟩
  have c_chkm : Cal l.prog w K mg base 2 "check_mast" ["mast", "many"] spChkM := ⟨_, _, g_check_mast, F_check_mast.kp, b_check_mast, ok_chkM F_check_mast TS c_name c_num⟩
  have c_hk : Cal l.prog w K mg base 1 "has_key" ["table", "thing"] spHasKey := ⟨_, _, g_has_key, F_has_key.kp, b_has_key, ok_haskey F_has_key n_isinstance n_str⟩
  have c_chkh : Cal l.prog w K mg base 2 "check_heard" ["heard", "channels"] spChkH := ⟨_, _, g_check_heard, F_check_heard.kp, b_check_heard, ok_chkH F_check_heard TS c_hk⟩
  have c_chkc : Cal l.prog w K mg base 3 "check_call" ["name", "call", "channels"] (spChkC K CC) := ⟨_, _, g_check_call, F_check_call.kp, b_check_call, ok_chkC F_check_call TS c_name c_num c_chkh⟩
  have c_Call : CalI l.prog w K mg base CC 1 "Call" ["self", "worth", "heard"] (spCInit K CC) := ⟨_, _, g_Call, Mk_Call, b_Call_init, ok_cinit F_Call_init TS⟩
  have c_Scene : CalI l.prog w K mg base CS 4 "Scene" ["self", "channels", "calls"] (spSInit K CS CC) := ⟨_, _, g_Scene, Mk_Scene, b_Scene_init, ok_sinit F_Scene_init TC c_chkm c_chkc⟩
  have c_sput : CalM l.prog w K mg base CK 2 "put" ["self", "name", "mast"] (spSPut CK) := ⟨_, _, M_Seats_put, b_Seats_put, ok_sput F_Seats_put TK c_put⟩
  have c_room : CalM l.prog w K mg base CK 1 "has_room" ["self", "mast"] (spRoom K CK CS CC) := ⟨_, _, M_Seats_has_room, b_Seats_has_room, ok_room F_Seats_has_room TK⟩
  have c_lead : CalM l.prog w K mg base CK 3 "lead" ["self", "mast", "came"] (spLead CK) := ⟨_, _, M_Seats_lead, b_Seats_lead, ok_lead F_Seats_lead TK c_sput⟩
  have c_way : CalM l.prog w K mg base CK 2 "way_for" ["self", "name"] (spWay K CK CS CC) := ⟨_, _, M_Seats_way_for, b_Seats_way_for, ok_way F_Seats_way_for TK c_room⟩
  have c_add : CalM l.prog w K mg base CK 4 "add" ["self", "name"] (spAdd K CK CS CC) := ⟨_, _, M_Seats_add, b_Seats_add, ok_add F_Seats_add TK c_way c_lead⟩
  have c_Seats : CalI l.prog w K mg base CK 1 "Seats" ["self", "scene"] (spKInit K CK CS CC) := ⟨_, _, g_Seats, Mk_Seats, b_Seats_init, ok_kinit F_Seats_init TK⟩
  have c_lm : Cal l.prog w K mg base 4 "_law_masts" ["draw", "most"] (spMasts K) := ⟨_, _, g_law_masts, F_law_masts.kp, b_law_masts, ok_lmasts F_law_masts TW c_take c_pick⟩
  have c_lh : Cal l.prog w K mg base 3 "_law_heard" ["draw", "channels"] (spHeard K) := ⟨_, _, g_law_heard, F_law_heard.kp, b_law_heard, ok_lheard F_law_heard c_take⟩
  have c_ls : Cal l.prog w K mg base 6 "_law_scene" ["draw", "masts", "calls"] (spScene K CS CC) := ⟨_, _, g_law_scene, F_law_scene.kp, b_law_scene, ok_lscene F_law_scene TW c_take c_lm c_lh c_Call c_Scene⟩
  have TO : TxO K mg CS CC := ⟨cls_Scene, na_Scene_calls, cls_Call, na_Call_worth, n_sorted⟩
  have c_rank : CalB l.prog w K mg base CS 1 "rank" ["self", "name"] (spRank K CS CC) := ⟨_, _, B_Scene_rank, b_Scene_rank, ok_rank F_Scene_rank TO⟩
  have c_order : CalM l.prog w K mg base CS 4 "order" ["self"] (spOrder K CS CC) := ⟨_, _, M_Scene_order, b_Scene_order, ok_order F_Scene_order TO c_rank⟩
  have TP : TxP K mg CK := ⟨cls_Seats, na_Seats_seated, n_tuple, n_sorted⟩
  have c_paper : CalM l.prog w K mg base CK 3 "paper" ["self", "name"] (spPaper K CK CS CC) := ⟨_, _, M_Seats_paper, b_Seats_paper, ok_paper F_Seats_paper TP c_way⟩
  have TT : TxT K mg CT CK CS := ⟨cls_Kept, na_Kept_lot, na_Kept_seating, na_Kept_papers, cls_Seats, na_Seats_seating, cls_Scene, n_tuple, n_sorted⟩
  have c_Kept : CalI l.prog w K mg base CT 5 "Kept" ["self", "scene"] (spTInit K CT CS CC) := ⟨_, _, g_Kept, Mk_Kept, b_Kept_init, ok_tinit F_Kept_init TT c_Seats c_order c_add c_paper⟩
  have TLk : TxLk K mg CS CC CT := ⟨cls_Scene, na_Scene_channels, na_Scene_calls, cls_Call, na_Call_heard, cls_Kept, na_Kept_papers, n_sorted, n_set⟩
  have cB : CalBd l.prog w K mg base CB "name" := ⟨_, _, a_BadName_init, i_BadName_init, b_BadName_init, ok_badI F_BadName_init O_BadName na_BadName_name scBadI fun _ _ _ _ _ _ _ => pss_one (ps_ostB (pv 0) (pv 1))⟩
  have c_CallT : CalI l.prog w K mg base CC 1 "Call" ["self", "worth", "heard"] (spCInitT K CC) := ⟨_, _, g_Call, Mk_Call, b_Call_init, ok_cinitT F_Call_init TS⟩
  have c_kept : Cal l.prog w K mg base 7 "kept" ["scene"] (spKeptS K CS CC) := ⟨_, _, g_kept, F_kept.kp, b_kept, ok_keptS F_kept TT c_Kept⟩
  have c_with : Cal l.prog w K mg base 6 "with_channels" ["scene", "more"] (spWith K CS CC) := ⟨_, _, g_with_channels, F_with_channels.kp, b_with_channels, ok_with F_with_channels TLk c_Scene⟩
  have TPc : TxPrc K mg CS CC := ⟨cls_Scene, na_Scene_channels, na_Scene_calls, cls_Call, na_Call_heard, ⟨_, g_DEAREST⟩⟩
  have TCh : TxCh K mg CS CC CT := ⟨cls_Scene, na_Scene_calls, cls_Call, na_Call_worth, cls_Kept, na_Kept_papers, n_sorted, n_set, n_sum⟩
  have c_cm : Cal l.prog w K mg base 3 "cheapest_mast" ["call", "prices"] (spCM K CC [(tp_cheapest_mast, fun _ _ => "cheapest_mast.<locals>.<lambda>")]) := ⟨_, _, g_cheapest_mast, F_cheapest_mast.kp, b_cheapest_mast, ok_cm F_cheapest_mast cc_cheapest_mast tb_cheapest_mast cls_Call na_Call_heard n_min⟩
  have c_prc : Cal l.prog w K mg base 6 "priced_scene" ["scene", "prices"] (spPrc K CS CC [(tp_cheapest_mast, fun _ _ => "cheapest_mast.<locals>.<lambda>")]) := ⟨_, _, g_priced_scene, F_priced_scene.kp, b_priced_scene, ok_prc F_priced_scene TPc c_num c_cm c_CallT c_Scene⟩
  have c_chp : Cal l.prog w K mg base 7 "cheapest" ["scene", "prices"] (spChp K CS CC [(tp_cheapest_mast, fun _ _ => "cheapest_mast.<locals>.<lambda>")]) := ⟨_, _, g_cheapest, F_cheapest.kp, b_cheapest, ok_chp F_cheapest TCh c_prc c_cm c_Kept⟩
  have c_sav : Cal l.prog w K mg base 8 "saved" ["scene", "prices"] (spSaved K CS CC [(tp_cheapest_mast, fun _ _ => "cheapest_mast.<locals>.<lambda>")]) := ⟨_, _, g_saved, F_saved.kp, b_saved, ok_saved F_saved TCh c_prc c_chp⟩
  have c_numV : Cal l.prog w K mg base 1 "is_number" ["thing", "low", "high"] spNumV := ⟨_, _, g_is_number, F_is_number.kp, b_is_number, ok_numV F_is_number TN⟩
  have c_prcX : CalX l.prog w K mg base 4 "priced_scene" ["scene", "prices"] (spPrcX CS CB) := ⟨_, _, g_priced_scene, F_priced_scene.kp, b_priced_scene, ok_prcX F_priced_scene TPc O_BadName g_BadName c_numV cB⟩
  have c_chpX : CalX l.prog w K mg base 5 "cheapest" ["scene", "prices"] (spPrcX CS CB) := ⟨_, _, g_cheapest, F_cheapest.kp, b_cheapest, ok_chpX F_cheapest c_prcX⟩
  have TL : TxL K mg CT CS CC CB := ⟨cls_Scene, na_Scene_channels, na_Scene_calls, cls_Call, na_Call_heard, n_len, n_range, n_dict, n_list, n_sorted, n_min, n_sum, n_any, g_BadName, xf_BadName, na_BadName_name, te_BadName⟩
  exact ok_law F_law TL c_ls c_take c_pick c_chp c_sav c_kept c_with c_chpX

theorem walk {l : PySem.W.OpenLaw} {q : Program} {loose : List PySem.Str} {XP : (PySem.Str → Option Value) → Heap → Prop} {YP : World → Heap → Prop} {d : DefRec} {K : Params → PySem.W.Frag} (hn : l.most = some 63) (hdf : d.params.defaults = [])
    (hY : ∀ (w : World) (h : Heap), YP w h → (K w.params).In h)
    (F : ∀ (w : World) (mg : PySem.Str → Option Value) (fa : Addr) (h : Heap), YP w h → (K w.params).In h → h.Ns mainGlobals mg → mg d.name = some (.ref fa) → LamX.LawAtS l w (K w.params) CX0 9 63 "script" mg fa h) :
    PySem.W.WalkO q loose XP YP l.row.toRowW d [] (fun f vs => PySem.call f vs) :=
  LamX.walk_ofTs (n := 63) (k := 9) (x := "script") (CX := fun _ => CX0) hn (by decide) hdf ⟨rfl, by decide, by decide⟩ hY F fun _ _ _ _ _ z => z
end Mc
open PySem PySem.W PyProof.Rows
set_option maxRecDepth 100000 in
set_option maxHeartbeats 0 in
theorem PySem.Challenge.cw_mastcalls_k36_whole_buying_holds : PySem.Challenge.rw_mastcalls_k36_whole_buying.Holds := by
  w_on; o_law; k_head; (case hw => w_witness2)
  k_fill
  refine Mc.walk (l := PySem.Challenge.rw_mastcalls_k36_whole_buying) rfl rfl (fun w h Y => PySem.W.km_in_of Y) ?F
  case F =>
    intro w mg fa h Y KX G hmg
    refine' Mc.all_mk KX G hmg ?a_Seats ?a_Seats_init ?i_Seats_init ?l_Seats_init ?c_Seats_init ?k_Seats_init ?a_Seats_has_room ?i_Seats_has_room ?l_Seats_has_room ?c_Seats_has_room ?k_Seats_has_room ?a_Seats_add ?i_Seats_add ?l_Seats_add ?c_Seats_add ?k_Seats_add ?a_Seats_way_for ?i_Seats_way_for ?l_Seats_way_for ?c_Seats_way_for ?k_Seats_way_for ?a_Seats_lead ?i_Seats_lead ?l_Seats_lead ?c_Seats_lead ?k_Seats_lead ?a_Seats_put ?i_Seats_put ?l_Seats_put ?c_Seats_put ?k_Seats_put ?a_Seats_paper ?i_Seats_paper ?l_Seats_paper ?c_Seats_paper ?k_Seats_paper ?pg_Seats ?hd_Seats ?po_Seats ?sa_Seats ?mk_Seats ?kc_Seats ?na_Seats_scene ?na_Seats_seating ?na_Seats_seated ?a_Call ?a_Call_init ?i_Call_init ?l_Call_init ?c_Call_init ?k_Call_init ?pg_Call ?hd_Call ?po_Call ?sa_Call ?mk_Call ?kc_Call ?na_Call_worth ?na_Call_heard ?a_Scene ?a_Scene_init ?i_Scene_init ?l_Scene_init ?c_Scene_init ?k_Scene_init ?a_Scene_order ?i_Scene_order ?l_Scene_order ?c_Scene_order ?k_Scene_order ?a_Scene_rank ?i_Scene_rank ?l_Scene_rank ?c_Scene_rank ?k_Scene_rank ?pg_Scene ?hd_Scene ?po_Scene ?sa_Scene ?mk_Scene ?kc_Scene ?bg_Scene_rank ?bt_Scene_rank ?bf_Scene_rank ?na_Scene_channels ?na_Scene_calls ?a_Kept ?a_Kept_init ?i_Kept_init ?l_Kept_init ?c_Kept_init ?k_Kept_init ?pg_Kept ?hd_Kept ?po_Kept ?sa_Kept ?mk_Kept ?kc_Kept ?na_Kept_lot ?na_Kept_seating ?na_Kept_papers ?a_BadName ?a_BadName_init ?i_BadName_init ?l_BadName_init ?c_BadName_init ?k_BadName_init ?xi_BadName ?xo_BadName ?hd_BadName ?sa_BadName ?sb_BadName ?ty_BadName ?kc_BadName ?ga_BadName ?gg_BadName ?ic_BadName ?ss_BadName ?na_BadName_name ?a_is_number ?l_is_number ?c_is_number ?k_is_number ?a_has_key ?l_has_key ?c_has_key ?k_has_key ?a_put_in_order ?l_put_in_order ?c_put_in_order ?k_put_in_order ?a_is_name ?l_is_name ?c_is_name ?k_is_name ?a_check_mast ?l_check_mast ?c_check_mast ?k_check_mast ?a_check_heard ?l_check_heard ?c_check_heard ?k_check_heard ?a_check_call ?l_check_call ?c_check_call ?k_check_call ?a_law_number ?l_law_number ?c_law_number ?k_law_number ?a_law_take ?l_law_take ?c_law_take ?k_law_take ?a_law_pick ?l_law_pick ?c_law_pick ?k_law_pick ?a_law_masts ?l_law_masts ?c_law_masts ?k_law_masts ?a_law_heard ?l_law_heard ?c_law_heard ?k_law_heard ?a_law_scene ?l_law_scene ?c_law_scene ?k_law_scene ?a_kept ?l_kept ?c_kept ?k_kept ?a_with_channels ?l_with_channels ?c_with_channels ?k_with_channels ?a_cheapest_mast ?l_cheapest_mast ?c_cheapest_mast ?k_cheapest_mast ?a_priced_scene ?l_priced_scene ?c_priced_scene ?k_priced_scene ?a_cheapest ?l_cheapest ?c_cheapest ?k_cheapest ?a_saved ?l_saved ?c_saved ?k_saved ?a_law ?l_law ?c_law ?k_law ?a_SMALL_LETTERS ?a_FIGURES ?a_LONGEST_NAME ?a_LIMIT ?a_DEAREST ?z_abs ?z_all ?z_any ?z_bool ?z_dict ?z_int ?z_isinstance ?z_len ?z_list ?z_min ?z_range ?z_set ?z_sorted ?z_str ?z_sum ?z_tuple ?ht_cheapest_mast ?cc_cheapest_mast ?ch_cheapest_mast ?np_cheapest_mast
    (case a_Seats => k_is)
    (case a_Seats_init => k_is)
    (case i_Seats_init => k_is)
    (case l_Seats_init => k_is)
    (case c_Seats_init => k_is)
    (case k_Seats_init => k_is)
    (case a_Seats_has_room => k_is)
    (case i_Seats_has_room => k_is)
    (case l_Seats_has_room => k_is)
    (case c_Seats_has_room => k_is)
    (case k_Seats_has_room => k_is)
    (case a_Seats_add => k_is)
    (case i_Seats_add => k_is)
    (case l_Seats_add => k_is)
    (case c_Seats_add => k_is)
    (case k_Seats_add => k_is)
    (case a_Seats_way_for => k_is)
    (case i_Seats_way_for => k_is)
    (case l_Seats_way_for => k_is)
    (case c_Seats_way_for => k_is)
    (case k_Seats_way_for => k_is)
    (case a_Seats_lead => k_is)
    (case i_Seats_lead => k_is)
    (case l_Seats_lead => k_is)
    (case c_Seats_lead => k_is)
    (case k_Seats_lead => k_is)
    (case a_Seats_put => k_is)
    (case i_Seats_put => k_is)
    (case l_Seats_put => k_is)
    (case c_Seats_put => k_is)
    (case k_Seats_put => k_is)
    (case a_Seats_paper => k_is)
    (case i_Seats_paper => k_is)
    (case l_Seats_paper => k_is)
    (case c_Seats_paper => k_is)
    (case k_Seats_paper => k_is)
    (case pg_Seats => k_is)
    (case hd_Seats => k_is)
    (case po_Seats => k_is)
    (case sa_Seats => k_is)
    (case mk_Seats => k_is)
    (case kc_Seats => k_is)
    (case na_Seats_scene => k_is)
    (case na_Seats_seating => k_is)
    (case na_Seats_seated => k_is)
    (case a_Call => k_is)
    (case a_Call_init => k_is)
    (case i_Call_init => k_is)
    (case l_Call_init => k_is)
    (case c_Call_init => k_is)
    (case k_Call_init => k_is)
    (case pg_Call => k_is)
    (case hd_Call => k_is)
    (case po_Call => k_is)
    (case sa_Call => k_is)
    (case mk_Call => k_is)
    (case kc_Call => k_is)
    (case na_Call_worth => k_is)
    (case na_Call_heard => k_is)
    (case a_Scene => k_is)
    (case a_Scene_init => k_is)
    (case i_Scene_init => k_is)
    (case l_Scene_init => k_is)
    (case c_Scene_init => k_is)
    (case k_Scene_init => k_is)
    (case a_Scene_order => k_is)
    (case i_Scene_order => k_is)
    (case l_Scene_order => k_is)
    (case c_Scene_order => k_is)
    (case k_Scene_order => k_is)
    (case a_Scene_rank => k_is)
    (case i_Scene_rank => k_is)
    (case l_Scene_rank => k_is)
    (case c_Scene_rank => k_is)
    (case k_Scene_rank => k_is)
    (case pg_Scene => k_is)
    (case hd_Scene => k_is)
    (case po_Scene => k_is)
    (case sa_Scene => k_is)
    (case mk_Scene => k_is)
    (case kc_Scene => k_is)
    (case bg_Scene_rank => first | k_is | rfl | decide +kernel)
    (case bt_Scene_rank => first | k_is | rfl | decide +kernel)
    (case bf_Scene_rank => first | k_is | rfl | decide +kernel)
    (case na_Scene_channels => k_is)
    (case na_Scene_calls => k_is)
    (case a_Kept => k_is)
    (case a_Kept_init => k_is)
    (case i_Kept_init => k_is)
    (case l_Kept_init => k_is)
    (case c_Kept_init => k_is)
    (case k_Kept_init => k_is)
    (case pg_Kept => k_is)
    (case hd_Kept => k_is)
    (case po_Kept => k_is)
    (case sa_Kept => k_is)
    (case mk_Kept => k_is)
    (case kc_Kept => k_is)
    (case na_Kept_lot => k_is)
    (case na_Kept_seating => k_is)
    (case na_Kept_papers => k_is)
    (case a_BadName => k_is)
    (case a_BadName_init => k_is)
    (case i_BadName_init => k_is)
    (case l_BadName_init => k_is)
    (case c_BadName_init => k_is)
    (case k_BadName_init => k_is)
    (case xi_BadName => first | k_is | rfl | decide +kernel)
    (case xo_BadName => first | k_is | rfl | decide +kernel)
    (case hd_BadName => k_is)
    (case sa_BadName => k_is)
    (case sb_BadName => k_is)
    (case ty_BadName => k_is)
    (case kc_BadName => k_is)
    (case ga_BadName => k_is)
    (case gg_BadName => k_is)
    (case ic_BadName => k_is)
    (case ss_BadName => first | rfl | k_is)
    (case na_BadName_name => k_is)
    (case a_is_number => k_is)
    (case l_is_number => k_is)
    (case c_is_number => k_is)
    (case k_is_number => k_is)
    (case a_has_key => k_is)
    (case l_has_key => k_is)
    (case c_has_key => k_is)
    (case k_has_key => k_is)
    (case a_put_in_order => k_is)
    (case l_put_in_order => k_is)
    (case c_put_in_order => k_is)
    (case k_put_in_order => k_is)
    (case a_is_name => k_is)
    (case l_is_name => k_is)
    (case c_is_name => k_is)
    (case k_is_name => k_is)
    (case a_check_mast => k_is)
    (case l_check_mast => k_is)
    (case c_check_mast => k_is)
    (case k_check_mast => k_is)
    (case a_check_heard => k_is)
    (case l_check_heard => k_is)
    (case c_check_heard => k_is)
    (case k_check_heard => k_is)
    (case a_check_call => k_is)
    (case l_check_call => k_is)
    (case c_check_call => k_is)
    (case k_check_call => k_is)
    (case a_law_number => k_is)
    (case l_law_number => k_is)
    (case c_law_number => k_is)
    (case k_law_number => k_is)
    (case a_law_take => k_is)
    (case l_law_take => k_is)
    (case c_law_take => k_is)
    (case k_law_take => k_is)
    (case a_law_pick => k_is)
    (case l_law_pick => k_is)
    (case c_law_pick => k_is)
    (case k_law_pick => k_is)
    (case a_law_masts => k_is)
    (case l_law_masts => k_is)
    (case c_law_masts => k_is)
    (case k_law_masts => k_is)
    (case a_law_heard => k_is)
    (case l_law_heard => k_is)
    (case c_law_heard => k_is)
    (case k_law_heard => k_is)
    (case a_law_scene => k_is)
    (case l_law_scene => k_is)
    (case c_law_scene => k_is)
    (case k_law_scene => k_is)
    (case a_kept => k_is)
    (case l_kept => k_is)
    (case c_kept => k_is)
    (case k_kept => k_is)
    (case a_with_channels => k_is)
    (case l_with_channels => k_is)
    (case c_with_channels => k_is)
    (case k_with_channels => k_is)
    (case a_cheapest_mast => k_is)
    (case l_cheapest_mast => k_is)
    (case c_cheapest_mast => k_is)
    (case k_cheapest_mast => k_is)
    (case a_priced_scene => k_is)
    (case l_priced_scene => k_is)
    (case c_priced_scene => k_is)
    (case k_priced_scene => k_is)
    (case a_cheapest => k_is)
    (case l_cheapest => k_is)
    (case c_cheapest => k_is)
    (case k_cheapest => k_is)
    (case a_saved => k_is)
    (case l_saved => k_is)
    (case c_saved => k_is)
    (case k_saved => k_is)
    (case a_law => k_is)
    (case l_law => k_is)
    (case c_law => k_is)
    (case k_law => k_is)
    (case a_SMALL_LETTERS => k_is)
    (case a_FIGURES => k_is)
    (case a_LONGEST_NAME => k_is)
    (case a_LIMIT => k_is)
    (case a_DEAREST => k_is)
    (case z_abs => k_is)
    (case z_all => k_is)
    (case z_any => k_is)
    (case z_bool => k_is)
    (case z_dict => k_is)
    (case z_int => k_is)
    (case z_isinstance => k_is)
    (case z_len => k_is)
    (case z_list => k_is)
    (case z_min => k_is)
    (case z_range => k_is)
    (case z_set => k_is)
    (case z_sorted => k_is)
    (case z_str => k_is)
    (case z_sum => k_is)
    (case z_tuple => k_is)
    (case ht_cheapest_mast => exact PySem.W.km_tabs_of Y _ (by first | exact List.mem_cons_self | exact List.mem_cons_of_mem _ List.mem_cons_self))
    (case cc_cheapest_mast => rfl)
    (case ch_cheapest_mast => kernel_rfl)
    (case np_cheapest_mast => kernel_rfl)
