import PyProof.Rows.All
import Wide.All
import OpenK.AllK
import Wide.FinOn
import HandS.ForMost
import HandS.Style
import HandS.Conv
import HandS.DictComp
import HandS.Evl
import HandS.SortRule
import KE.KDictPairs
import HandS.SetKeys
import HandS.Walk
import HandS.IsInst
import KE.SortKeyHeap
import HandS.FromBytesMap
import HandS.SortKw
import KE.DataCmp
import HandS.Nested
import KE.KMinKey
import HandS.SetFor
import HandS.ListItems
import KE.KDictList
import HandS.More
import HandS.TupAny
import KE.KNestM
import HandS.EndTab
import PySem.Challenge.RW_mastcalls_k37_whole_tours
set_option Elab.async false
set_option maxRecDepth 100000
set_option maxHeartbeats 4000000
namespace Mc
open PySem L2 PySem.Spec PyProof.Rows
/-! rules that the layer lacks -/
theorem get_list {X : Cx} : PGet X (rIxL X.K) := by
  intro pins s σ H o i ov iv Q I ro ri h
  obtain ⟨p, xs, k, v, rfl, rfl, hs, hv, q⟩ := h
  cases ro
  obtain ⟨t, rfl⟩ := ri
  obtain ⟨its, r, pl, hz⟩ := I.list hs
  obtain ⟨j, h1, h2, h3, h4, h5⟩ := atI_get hv
  obtain ⟨w, ew, rw'⟩ := r.get h2
  have hl := r.length
  have hn := line63
  have fin : EP X pins σ Q w s := ⟨v, H, I, rw', q⟩
  by_cases h0 : 0 ≤ k
  · have hj : k.toNat = j := by
      rw [seqIndex_of h0 h5] at h1
      exact Option.some.inj h1
    exact wpAny_getItem_list pl.isList h0 (by omega) (by rw [hj]; simpa using ew) fin
  · have hj : (k + (its.toArray.size : Int)).toNat = j := by
      rw [seqIndex_neg (by omega) h4] at h1
      rw [List.size_toArray, ← hl]
      exact Option.some.inj h1
    exact wpAny_getItem_list_neg pl.isList (by omega) (by rw [List.size_toArray] <;> omega) (by omega) (by rw [hj]; simpa using ew) fin

/-! ### a heap that is kept but for some objects -/
def Kp (M : List Addr) (H H' : Hp) : Prop := ∀ b o, H b = some o → b ∉ M → H' b = some o
theorem Kp.refl (M : List Addr) (H : Hp) : Kp M H H := fun _ _ h _ => h
theorem Kp.trans {M : List Addr} {H H1 H2 : Hp} (a : Kp M H H1) (b : Kp M H1 H2) : Kp M H H2 := fun c o h n => b c o (a c o h n) n
theorem Kp.mono {M N : List Addr} {H H' : Hp} (k : Kp M H H') (h : ∀ b ∈ M, b ∈ N) : Kp N H H' := fun b o e n => k b o e fun z => n (h b z)
theorem Kp.new {M : List Addr} {p : Addr} {H : Hp} {o : HO} (h : H p = none) : Kp M H (upd H p o) := fun b u e _ => by
  rw [upd_ne (ne_of_none e h)]
  exact e
theorem Kp.at {M : List Addr} {d : Addr} {H : Hp} {o : HO} (h : d ∈ M) : Kp M H (upd H d o) := fun b u e n => by
  rw [upd_ne fun z => n (by rw [z]; exact h)]
  exact e
theorem Kp.same {M : List Addr} {H H' : Hp} (h : Same H H') : Kp M H H' := fun b o e _ => h b o e
/-- nothing tracked is lost -/
def Lv (H H' : Hp) : Prop := ∀ b, H' b = none → H b = none
theorem Kp.live {M : List Addr} {H H' : Hp} (k : Kp M H H') (h : ∀ d ∈ M, ∃ o, H' d = some o) {p : Addr} (e : H' p = none) : H p = none := by
  cases q : H p with
  | none => rfl
  | some u =>
    by_cases n : p ∈ M
    · obtain ⟨o, z⟩ := h p n
      rw [z] at e; cases e
    · rw [k p u q n] at e; cases e
/-- what was not there may be changed freely -/
theorem Kp.drop {M : List Addr} {p : Addr} {H H' : Hp} (k : Kp (p :: M) H H') (h : H p = none) : Kp M H H' := fun b o e n => k b o e fun z => by
  rcases List.mem_cons.mp z with rfl | z
  · rw [h] at e; cases e
  · exact n z

/-- the draw stands at d: the script, and how many were drawn; M: all that may be changed -/
structure Dr (K : PySem.W.Frag) (M : List Addr) (d a : Addr) (H : Hp) : Prop where
  at_ : ∃ k : Int, H d = some (.lst [.ref a, .int k])
  mem : d ∈ M
  sc : ∃ ns : List Int, ns.length ≤ 63 ∧ ∀ H', Kp M H H' → SqL K H' a (ns.map V.int)
section
variable {K : PySem.W.Frag} {M : List Addr} {d a : Addr} {H H' : Hp}
theorem Dr.keep (D : Dr K M d a H) (k : Kp M H H') (e : ∀ o, H d = some o → H' d = some o) : Dr K M d a H' := by
  obtain ⟨⟨k0, h⟩, m, ns, hl, hs⟩ := D
  exact ⟨⟨k0, e _ h⟩, m, ns, hl, fun H2 k2 => hs H2 (k.trans k2)⟩
theorem Dr.same (D : Dr K M d a H) (k : Same H H') : Dr K M d a H' := D.keep (Kp.same k) fun o h => k _ o h
theorem Dr.new {p : Addr} {o : HO} (D : Dr K M d a H) (h : H p = none) : Dr K M d a (upd H p o) := D.same fun b u e => by rw [upd_ne (ne_of_none e h)]; exact e
theorem Dr.next (D : Dr K M d a H) (k : Kp M H H') {j : Int} (h : H' d = some (.lst [.ref a, .int j])) : Dr K M d a H' := by
  obtain ⟨_, m, ns, hl, hs⟩ := D
  exact ⟨⟨j, h⟩, m, ns, hl, fun H2 k2 => hs H2 (k.trans k2)⟩
/-- one more object may be changed, that was not there -/
theorem Dr.grow {p : Addr} (D : Dr K M d a H) (h : H p = none) : Dr K (p :: M) d a H := by
  obtain ⟨k0, m, ns, hl, hs⟩ := D
  exact ⟨k0, List.mem_cons_of_mem _ m, ns, hl, fun H2 k2 => hs H2 (k2.drop h)⟩
/-- fewer may be changed -/
theorem Dr.sub {N : List Addr} (D : Dr K M d a H) (h : ∀ b ∈ N, b ∈ M) (hd : d ∈ N) : Dr K N d a H := by
  obtain ⟨k0, _, ns, hl, hs⟩ := D
  exact ⟨k0, hd, ns, hl, fun H2 k2 => hs H2 (k2.mono h)⟩
/-- a draw made of the script -/
theorem Dr.mk' {ns : List Int} {j : Int} (hs : SqL K H a (ns.map V.int)) (hl : ns.length ≤ 63) (hd : H d = none) : Dr K [d] d a (upd H d (.lst [.ref a, .int j])) := by
  refine ⟨⟨j, upd_same⟩, List.mem_singleton.mpr rfl, ns, hl, fun H' k => ?_⟩
  have ne : ∀ {o}, H a = some o → a ∉ [d] := fun h z => ne_of_none h hd (List.mem_singleton.mp z)
  rcases hs with (h | ⟨o, h⟩) | h
  · exact .inl (.inl (k a _ (by rw [upd_ne (ne_of_none h hd)]; exact h) (ne h)))
  · exact .inl (.inr ⟨o, k a _ (by rw [upd_ne (ne_of_none h hd)]; exact h) (ne h)⟩)
  · exact .inr h
end

theorem rel_int {i : Int} {t : Tok} : RelV (.int i) (.int i t) := ⟨t, rfl⟩
theorem rel_str {x : PySem.Str} {t : Tok} : RelV (.str x) (.str x t) := ⟨t, rfl⟩
/-! ### rules for a comprehension's block: K by its name -/
section
variable {X : Cx} {K : PySem.W.Frag} {e : Expr} {f : PySem.Str} {pos : Pos} {ta : TE}
theorem pe_fldK (h : X.K = K) (he : PE X e ta) (hb : attributeBase e f X.env (eval e X.env) = eval e X.env) : PE X (.Attribute e f pos) (tFld K ta f) := by
  subst h
  exact pe_fld he hb
theorem ix_listK (h : X.K = K) : IxR X (rIxL K) := by
  subst h
  exact ix_list
theorem ix_tupK (h : X.K = K) : IxR X (rIxT K) := by
  subst h
  exact ix_tup
theorem sl_listK (h : X.K = K) : SlR X (rSlL K) := by
  subst h
  exact sl_list
theorem call_len_seqK (h : X.K = K) : CallR X (.builtin "len") (fun xs H Q => ∃ p ys, xs = [.ref p] ∧ (SqL K H p ys ∨ SqT K H p ys) ∧ Q (.int ys.length) H) := by
  subst h
  exact call_len_seq
theorem op_eqDK (h : X.K = K) (hu : X.A.units + 64 < cLine) : OpR X (compareOp .Eq) (rEqD K) := by
  subst h
  exact op_eqD hu
theorem op_neDK (h : X.K = K) (hu : X.A.units + 64 < cLine) : OpR X (compareOp .NotEq) (rNeD K) := by
  subst h
  exact op_neD hu
theorem pe_tupleOfK (h : X.K = K) {a : Expr} {p pos : Pos} (hg : Gl X "tuple") (hm : X.mg "tuple" = none) (ha : PE X a ta) (na : starEach [a] X.env = (false, eval a X.env) :: starEach [] X.env := by rfl) :
    PE X (.Call (.Name "tuple" p) [a] [] pos) (tThen ta (kTup K)) := by
  subst h
  exact pe_tupleOf hg hm ha na
end
/-! ### defs, methods, classes: what a caller needs -/
/-- a def of the module keeps its promise -/
def Cal (P : Program) (w : World) (K : PySem.W.Frag) (mg : PySem.Str → Option Value) (base : Heap) (k : Nat) (x : PySem.Str) (ps : List PySem.Str) (sp : Sp) : Prop :=
  ∃ (f : Addr) (fd : FuncData), mg x = some (.ref f) ∧ PySem.W.keepIn K (.ref f) = true ∧ Binds K fd ps [] ∧ FnOk P w K mg base CX0 k f fd ps sp
/-- a method of the class at C -/
def CalM (P : Program) (w : World) (K : PySem.W.Frag) (mg : PySem.Str → Option Value) (base : Heap) (C : Addr) (k : Nat) (m : PySem.Str) (ps : List PySem.Str) (sp : Sp) : Prop :=
  ∃ (f : Addr) (fd : FuncData), Meth K C m f ∧ Binds K fd ps [] ∧ FnOk P w K mg base CX0 k f fd ps sp
/-- the class of that name, made by its __init__ -/
def CalI (P : Program) (w : World) (K : PySem.W.Frag) (mg : PySem.Str → Option Value) (base : Heap) (C : Addr) (k : Nat) (x : PySem.Str) (ps : List PySem.Str) (sp : Sp) : Prop :=
  ∃ (f : Addr) (fd : FuncData), mg x = some (.ref C) ∧ Mk K C f ∧ Binds K fd ps [] ∧ FnOk P w K mg base CX0 k f fd ps sp
section
variable {X : Cx} {k : Nat} {x m : PySem.Str} {ps : List PySem.Str} {sp : Sp} {C : Addr} {p pos apos : Pos} {e o : Expr} {es : List Expr} {t : TA} {ta : TE}
theorem pe_cal (c : Cal X.prog X.w X.K X.mg X.base k x ps sp) (hr : Room k X.A) (hg : Gl X x) (ha : PA X (e :: es) t) (hdb : (x == ("__debug__" : PySem.Str)) = false := by decide)
    (he : starEach (e :: es) X.env = (false, eval e X.env) :: starEach es X.env := by rfl) (hpl : (backTo pos (starEach es X.env)).any (·.1) = false := by rfl) : PE X (.Call (.Name x p) (e :: es) [] pos) (tCall sp [] E0 t) := by
  obtain ⟨f, fd, hm, hk, hb, F⟩ := c
  exact pe_call F hr hg hm hk hb .nil pass0 ha hdb he hpl
theorem pe_cal0 (c : Cal X.prog X.w X.K X.mg X.base k x ps sp) (hr : Room k X.A) (hg : Gl X x) (hdb : (x == ("__debug__" : PySem.Str)) = false := by decide) : PE X (.Call (.Name x p) [] [] pos) (tCall sp [] E0 tNil) := by
  obtain ⟨f, fd, hm, hk, hb, F⟩ := c
  exact pe_call0 F hr hg hm hk hb .nil pass0 hdb
theorem pe_calM {pl : Sem Bool} (he : PE X o ta) (cl : Cls X.K C) (c : CalM X.prog X.w X.K X.mg X.base C k m ps sp) (hr : Room k X.A) (ha : PA X (e :: es) t)
    (hst : starEach (e :: es) X.env = (false, eval e X.env) :: starEach es X.env := by rfl) (hpl : (backTo pos (starEach es X.env)).any (·.1) = false := by rfl)
    (ht : eval (.Call (.Attribute o m apos) (e :: es) [] pos) X.env = (do
      let ov ← eval o X.env
      standAt apos.atName
      let (f, first) ← holding [ov] (getMethod ov m pl)
      callWith pos f first (backTo pos (starEach (e :: es) X.env)) (backToKw pos (keywordEach [] X.env))) := by rfl) :
    PE X (.Call (.Attribute o m apos) (e :: es) [] pos) (tMeth C m sp [] E0 ta t) := by
  obtain ⟨f, fd, hm, hb, F⟩ := c
  exact pe_meth he cl hm F hr hb .nil pass0 ha hst hpl ht
theorem pe_calM0 {pl : Sem Bool} (he : PE X o ta) (cl : Cls X.K C) (c : CalM X.prog X.w X.K X.mg X.base C k m ps sp) (hr : Room k X.A)
    (ht : eval (.Call (.Attribute o m apos) [] [] pos) X.env = (do
      let ov ← eval o X.env
      standAt apos.atName
      let (f, first) ← holding [ov] (getMethod ov m pl)
      callWith pos f first (backTo pos (starEach [] X.env)) (backToKw pos (keywordEach [] X.env))) := by rfl) :
    PE X (.Call (.Attribute o m apos) [] [] pos) (tMeth C m sp [] E0 ta tNil) := by
  obtain ⟨f, fd, hm, hb, F⟩ := c
  exact pe_meth0 he cl hm F hr hb .nil pass0 ht
theorem pe_calI (c : CalI X.prog X.w X.K X.mg X.base C k x ps sp) (hr : Room (k + 1) X.A) (hg : Gl X x) (ha : PA X (e :: es) t) (hdb : (x == ("__debug__" : PySem.Str)) = false := by decide)
    (he : starEach (e :: es) X.env = (false, eval e X.env) :: starEach es X.env := by rfl) (hpl : (backTo pos (starEach es X.env)).any (·.1) = false := by rfl) : PE X (.Call (.Name x p) (e :: es) [] pos) (tMake C sp [] E0 t) := by
  obtain ⟨f, fd, hm, M, hb, F⟩ := c
  exact pe_make M F hr hg hm hb .nil pass0 ha hdb he hpl
theorem pe_calI0 (c : CalI X.prog X.w X.K X.mg X.base C k x ps sp) (hr : Room (k + 1) X.A) (hg : Gl X x) (hdb : (x == ("__debug__" : PySem.Str)) = false := by decide) : PE X (.Call (.Name x p) [] [] pos) (tMake C sp [] E0 tNil) := by
  obtain ⟨f, fd, hm, M, hb, F⟩ := c
  exact pe_make0 M F hr hg hm hb .nil pass0 hdb
end
/-! ### data of ints -/
def pdI (ns : List Int) : PyData := .list (ns.map PyData.int)
theorem dpAll_ints (K : PySem.W.Frag) (H : Hp) : ∀ ns : List Int, DpAll K H (ns.map V.int) (ns.map PyData.int)
  | [] => .nil
  | n :: ns => .cons (.int n) (dpAll_ints K H ns)
theorem dp_ints {K : PySem.W.Frag} {H : Hp} {a : Addr} {ns : List Int} (h : SqL K H a (ns.map V.int)) : Dp K H (.ref a) (pdI ns) := .lst h (dpAll_ints K H ns)
theorem canLay_ints : ∀ ns : List Int, PyData.canLayAll0 (ns.map PyData.int) = true
  | [] => rfl
  | n :: ns => by
    show (PyData.canLay0 (.int n) && PyData.canLayAll0 (ns.map PyData.int)) = true
    rw [canLay_ints ns]
    rfl
theorem depth_ints : ∀ ns : List Int, PyData.depthAll (ns.map PyData.int) = 0
  | [] => rfl
  | n :: ns => by
    show max (PyData.depth (.int n)) (PyData.depthAll (ns.map PyData.int)) = 0
    rw [depth_ints ns]
    rfl
theorem shaped_ints (ns : List Int) : SeqAt.shaped (pdI ns) = true := by
  have h : PyData.depth (pdI ns) = PyData.depthAll (ns.map PyData.int) + 1 := by unfold pdI; rw [PyData.depth]
  unfold SeqAt.shaped
  rw [h, depth_ints]
  have h2 : (pdI ns).canLay0 = true := by unfold pdI; rw [PyData.canLay0]; exact canLay_ints ns
  rw [h2]
  rfl
theorem eqvAll_ints : ∀ ns ms : List Int, PyData.eqvAll (ns.map PyData.int) (ms.map PyData.int) = decide (ns = ms)
  | [], [] => rfl
  | [], m :: ms => by simp [PyData.eqvAll]
  | n :: ns, [] => by simp [PyData.eqvAll]
  | n :: ns, m :: ms => by
    show (PyData.eqv (.int n) (.int m) && PyData.eqvAll (ns.map PyData.int) (ms.map PyData.int)) = _
    rw [eqvAll_ints ns ms]
    have : PyData.eqv (.int n) (.int m) = (n == m) := by rw [PyData.eqv]
    rw [this]
    by_cases h : n = m <;> simp [h]
theorem eqv_ints (ns ms : List Int) : PyData.eqv (pdI ns) (pdI ms) = decide (ns = ms) := by
  unfold pdI
  rw [PyData.eqv]
  exact eqvAll_ints ns ms
end Mc
namespace Mc
open PySem PySem.Spec PyProof.Rows SrtO
/-! ### sorted of pairs of a text and an int, out of a list or a tuple -/
def IsPairS (h : Heap) (v : Value) (x : PySem.Str) (y : Int) : Prop := ∃ a o t u n, v = .ref a ∧ h.get? a = some o ∧ o.cls = .type "tuple" ∧ o.data = .seq #[.str x t, .int y u] n
theorem IsPairS.keeps {h h' : Heap} {v : Value} {x : PySem.Str} {y : Int} (p : IsPairS h v x y) (k : ∀ b o, h.get? b = some o → o.cls = .type "tuple" → h'.get? b = some o) : IsPairS h' v x y := by
  obtain ⟨a, o, t, u, n, e, ho, hc, hd⟩ := p
  exact ⟨a, o, t, u, n, e, k _ _ ho hc, hc, hd⟩
def lexS (p q : PySem.Str × Int) : Bool := if p.1 = q.1 then decide (p.2 < q.2) else decide (p.1.cps.toList < q.1.cps.toList)
theorem str_ext {a b : PySem.Str} (h : a.cps.toList = b.cps.toList) : a = b := by
  obtain ⟨x⟩ := a
  obtain ⟨y⟩ := b
  have : x = y := by simpa using congrArg List.toArray h
  rw [this]
theorem swo_lexS {α : Type} (k : α → PySem.Str × Int) : Swo fun v u => lexS (k v) (k u) := by
  have irr : ∀ l : List Nat, ¬ l < l := fun l => List.lt_irrefl l
  refine ⟨fun x y h => ?_, fun x y z h1 h2 => ?_⟩
  · unfold lexS at h ⊢
    by_cases e : (k x).1 = (k y).1
    · rw [if_pos e, decide_eq_true_eq] at h
      rw [if_pos e.symm, decide_eq_false_iff_not]
      omega
    · rw [if_neg e, decide_eq_true_eq] at h
      rw [if_neg (Ne.symm e), decide_eq_false_iff_not]
      exact fun z => irr _ (List.lt_trans h z)
  · unfold lexS at h1 h2 ⊢
    generalize (k x).1 = a at *
    generalize (k y).1 = b at *
    generalize (k z).1 = c at *
    by_cases e1 : b = a
    · subst e1
      rw [if_pos rfl, decide_eq_false_iff_not] at h1
      by_cases e2 : c = b
      · subst e2
        rw [if_pos rfl, decide_eq_false_iff_not] at h2
        rw [if_pos rfl, decide_eq_false_iff_not]
        omega
      · rw [if_neg e2] at h2
        rw [if_neg e2]
        exact h2
    · rw [if_neg e1, decide_eq_false_iff_not] at h1
      by_cases e2 : c = b
      · subst e2
        rw [if_neg e1, decide_eq_false_iff_not]
        exact h1
      · rw [if_neg e2, decide_eq_false_iff_not] at h2
        have l1 : a.cps.toList ≤ b.cps.toList := List.not_lt.mp h1
        have l2 : b.cps.toList ≤ c.cps.toList := List.not_lt.mp h2
        by_cases e3 : c = a
        · subst e3
          exact absurd (str_ext (List.le_antisymm l2 l1)) e1
        · rw [if_neg e3, decide_eq_false_iff_not]
          exact List.not_lt.mpr (List.le_trans l1 l2)
section
variable {prog : Program} {w : World} {A : Around} {E : Value → Shared → Prop} {s : Shared}
theorem pairS_cmp {vs : List Value} {k : Value → PySem.Str × Int} (hp : ∀ v ∈ vs, IsPairS s.heap v (k v).1 (k v).2) : Cmp prog w A s (tuples' true) (fun p => p.1 ∈ vs) (lt2 fun v u => lexS (k v) (k u)) := by
  intro p q hm hm'
  have h1 := hp _ hm
  have h2 := hp _ hm'
  show wpAny (model prog w) A (keyLt' (tuples' true) p.1 q.1) (fun r s' => s' = s ∧ r = lexS (k p.1) (k q.1)) (fun _ _ => False) s
  unfold lexS
  generalize (k p.1).1 = x at h1 ⊢
  generalize (k p.1).2 = y at h1 ⊢
  generalize (k q.1).1 = x' at h2 ⊢
  generalize (k q.1).2 = y' at h2 ⊢
  obtain ⟨a, o, t, u, n, e, ho, hc, hd⟩ := h1
  obtain ⟨a', o', t', u', n', e', ho', hc', hd'⟩ := h2
  rw [e, e']
  refine PySem.W.kat_lt ho hd ho' hd' ?_
  show PySem.W.KatLex prog w A true (decide (2 < 2)) _ [(.str x t, .str x' t'), (.int y u, .int y' u')] 0 s
  refine PySem.W.kat_cons (SeqAt.EqAt.str_str x t x' t' prog w _ _ ?_)
  refine PySem.W.kat_go (fun e1 => ?_) (fun e1 => ?_)
  · have ex : x = x' := by simpa using e1
    refine PySem.W.kat_yes (PySem.W.kat_cons (SeqAt.EqAt.int_int y u y' u' prog w _ _ ?_))
    refine PySem.W.kat_go (fun e2 => ?_) (fun e2 => ?_)
    · have ey : y = y' := by simpa using e2
      have e3 : (if x = x' then decide (y < y') else decide (x.cps.toList < x'.cps.toList)) = false := by
        rw [if_pos ex, ey]
        exact decide_eq_false (Int.lt_irrefl _)
      exact PySem.W.kat_yes (PySem.W.kat_nil ⟨rfl, e3.symm⟩)
    · have e3 : (if x = x' then decide (y < y') else decide (x.cps.toList < x'.cps.toList)) = decide (y < y') := if_pos ex
      refine PySem.W.kat_no (PySem.W.kat_one _ _ (PyProof.Rows.lt_int ?_))
      exact (show s = s ∧ decide (y < y') = (if x = x' then decide (y < y') else decide (x.cps.toList < x'.cps.toList)) from ⟨rfl, e3.symm⟩)
  · have ex : ¬ x = x' := by simpa using e1
    have e3 : (if x = x' then decide (y < y') else decide (x.cps.toList < x'.cps.toList)) = decide (x.cps.toList < x'.cps.toList) := if_neg ex
    exact PySem.W.kat_no (oneLt_str ⟨rfl, e3.symm⟩)
theorem firstsS_of {h : Heap} : ∀ {vs : List Value}, (∀ v ∈ vs, ∃ x y, IsPairS h v x y) → ∃ fs : List Value, PySem.W.KatTups h vs fs ∧ fs.length = vs.length ∧ ∀ f ∈ fs, ∃ x t, f = Value.str x t
  | [], _ => ⟨[], PySem.W.KatTups.nil, rfl, fun _ hm => by simp at hm⟩
  | v :: vs, hp => by
    obtain ⟨fs, h1, h2, h3⟩ := firstsS_of (vs := vs) fun v' hm => hp v' (List.mem_cons_of_mem _ hm)
    obtain ⟨x, y, a, o, t, u, n, e, ho, hc, hd⟩ := hp v (List.mem_cons_self ..)
    subst e
    refine ⟨.str x t :: fs, PySem.W.KatTups.cons ho hc hd rfl h1, by rw [List.length_cons, List.length_cons, h2], fun f hm => ?_⟩
    rcases List.mem_cons.mp hm with rfl | hm
    · exact ⟨x, t, rfl⟩
    · exact h3 f hm
theorem pairsS_sortable {a : Addr} {vs : List Value} {k : Value → PySem.Str × Int} (h0 : 0 < vs.length) (hp : ∀ v ∈ vs, IsPairS s.heap v (k v).1 (k v).2) (ha : ∀ o, s.heap.get? a = some o → o.cls ≠ .type "tuple") : SortableO prog w A s a vs fun v u => lexS (k v) (k u) := by
  intro h' keep
  have hp' : ∀ v ∈ vs, IsPairS h' v (k v).1 (k v).2 := fun v hm => (hp v hm).keeps fun b o e c => keep b o (fun z => by subst z; exact ha o e c) e
  obtain ⟨fs, h1, h2, h3⟩ := firstsS_of fun v hm => ⟨_, _, hp' v hm⟩
  refine ⟨tuples' true, fun Q E hq => ?_, pairS_cmp hp'⟩
  refine PySem.W.kat_kind (T := .type "str") h1 (by omega) (fun f hm => ?_) (by rfl) ?_
  · obtain ⟨x, t, rfl⟩ := h3 f hm
    exact PySem.W.Looks.now
  · have e : (Value.type "str" != Value.type "tuple") = true := by first | decide +kernel | rfl | decide
    rw [e]
    exact hq
/-- what a tuple gives out, told with the heap behind -/
theorem collect_tupE {it : Addr} {o : Obj} {vs : List Value} {n : Nat} {Q : List Value → Shared → Prop} (ho : s.heap.get? it = some o) (hc : o.cls = .type "tuple") (hd : o.data = .seq vs.toArray n) (hz : vs.length ≤ sizeLine)
    (hQ : Q vs { s with heap := (s.heap.push (seqObj "list" #[] 0)).update s.heap.objs.size (Obj.mapSeq (· ++ vs.toArray)) }) : wpAny (model prog w) A (collect (.ref it)) Q E s := by
  have hz' : vs.toArray.size ≤ sizeLine := by rw [List.size_toArray]; exact hz
  have h0 : (s.heap.push (seqObj "list" #[] 0)).get? s.heap.objs.size = some { cls := .type "list", data := .seq #[] 0 } := Heap.get?_push_size _ rfl
  have h1 := Heap.get?_update_self (Obj.mapSeq (· ++ vs.toArray)) h0 rfl
  unfold collect
  refine wpAny_bind (wpAny_runValue (codeAny_builtin F.entry_proto_collect ?_))
  rw [Around.under_plainId F.plain_proto_collect _]
  refine wpAny_bind (m := newList []) (wpAny_newList ?_ (Nat.zero_le _))
  refine wpAny_pure ⟨plainId_quiet F.plain_list_iadd _, codeAny_builtin F.entry_list_iadd ?_⟩
  rw [Around.under_plainId F.plain_list_iadd _]
  have last : wpAny (model prog w) A (load s.heap.objs.size >>= fun o => match o.data with | .seq xs _ => pure xs.toList | _ => unsupported "internal:collect") Q E { s with heap := (s.heap.push (seqObj "list" #[] 0)).update s.heap.objs.size (Obj.mapSeq (· ++ vs.toArray)) } := by
    refine wpAny_bind (wpAny_load h1 (wpAny_pure ?_))
    have e : ((#[] : Array Value) ++ vs.toArray).toList = vs := by simp
    show Q ((#[] : Array Value) ++ vs.toArray).toList _
    rw [e]
    exact hQ
  refine wpAny_mono (wpAny_extend_seq (hsz := hz') (A := A) (R := fun r s' => r = .ok (.ret (.ref s.heap.objs.size)) ∧ s' = { s with heap := (s.heap.push (seqObj "list" #[] 0)).update s.heap.objs.size (Obj.mapSeq (· ++ vs.toArray)) })
    (s := { s with heap := s.heap.push (seqObj "list" #[] 0) }) _ it _ 0 (.inr rfl) h0 (Heap.get?_push_of_some _ ho) hc hd ⟨rfl, rfl⟩) (fun fin s' h => ?_) (fun e s' h => absurd h.1 (by simp))
  cases fin with
  | done f =>
    obtain ⟨e, rfl⟩ := h
    cases e
    exact last
  | again c' => exact ⟨h.1, codeAny_mono h.2 fun r s'' hr => by obtain ⟨rfl, rfl⟩ := hr; exact last⟩
/-- sorted(t), t a tuple of such pairs -/
theorem sorted_pairsS {it : Addr} {o : Obj} {vs : List Value} {n : Nat} {k : Value → PySem.Str × Int} {Q : Value → Shared → Prop} (ho : s.heap.get? it = some o) (hc : o.cls = .type "tuple") (hd : o.data = .seq vs.toArray n)
    (hz : vs.length ≤ sizeLine) (hp : ∀ v ∈ vs, IsPairS s.heap v (k v).1 (k v).2)
    (h : ∀ (h' : Heap) (d : Addr) (out : List Value), Srtd (fun v u => lexS (k v) (k u)) out → Stb (fun v u => lexS (k v) (k u)) out vs → (∀ b o, s.heap.get? b = some o → h'.get? b = some o) → s.heap.objs.size ≤ d → (∃ n, h'.get? d = some (seqObj "list" out.toArray n)) → Q (.ref d) { s with heap := h' }) :
    wpAny (model prog w) A (call (.builtin "sorted") [.ref it]) Q E s := by
  refine Calls.call_function_entry kind_sorted plain_sorted entry_sorted (args_sorted1 _) ?_
  unfold Builtin.«sorted»
  refine wpAny_bind (m := checkCount "sorted" 1 1 _) (wpAny_pure ?_)
  refine wpAny_bind (collect_tupE ho hc hd hz ?_)
  have k' : ∀ b o, s.heap.get? b = some o → ((s.heap.push (seqObj "list" #[] 0)).update s.heap.objs.size (Obj.mapSeq (· ++ vs.toArray))).get? b = some o := fun b o q => by
    rw [Heap.get?_update_ne _ _ _ _ (Nat.ne_of_lt (Heap.lt_size q))]
    exact Heap.get?_push_of_some _ q
  have hsz : ((s.heap.push (seqObj "list" #[] 0)).update s.heap.objs.size (Obj.mapSeq (· ++ vs.toArray))).objs.size = s.heap.objs.size + 1 := by rw [Heap.size_update, size_push']
  generalize (s.heap.push (seqObj "list" #[] 0)).update s.heap.objs.size (Obj.mapSeq (· ++ vs.toArray)) = h' at k' hsz ⊢
  refine wpAny_bind (wpAny_newList ?_ hz)
  have hoL : (h'.push (seqObj "list" vs.toArray 0)).get? h'.objs.size = some (seqObj "list" vs.toArray 0) := Heap.get?_push_size _ rfl
  have kp : ∀ b o, s.heap.get? b = some o → b ≠ h'.objs.size ∧ (h'.push (seqObj "list" vs.toArray 0)).get? b = some o := fun b o q => ⟨Nat.ne_of_lt (Heap.lt_size (k' b o q)), Heap.get?_push_of_some _ (k' b o q)⟩
  refine wpAny_bind (wpAny_holding (wpAny_call_entry slot_list_sort ⟨_, hoL, rfl⟩ entry_list_sort (list_sort_ord (s := { s with heap := h'.push (seqObj "list" vs.toArray 0) }) (swo_lexS k) hoL hz (fun h2 => ?_) fun out hs hb => ⟨_, rfl, ?_⟩) (args_list_sort _)))
  · refine pairsS_sortable (s := { s with heap := h'.push (seqObj "list" vs.toArray 0) }) (by omega) (fun v hm => (hp v hm).keeps fun b o e _ => (kp b o e).2) fun o e => ?_
    have e' : some o = some (seqObj "list" vs.toArray 0) := e.symm.trans hoL
    cases e'
    intro c
    exact absurd (Value.type.inj c) (by decide)
  · refine wpAny_pure ⟨_, rfl, h _ _ out hs hb (fun b o e => ?_) (by rw [hsz]; exact Nat.le_succ _) (sortedHeap_at hoL)⟩
    rw [sortedHeap_old (kp b o e).1 (Heap.lt_size (kp b o e).2)]
    exact (kp b o e).2
end
open L2
/-- x before y: by its text, then by its int -/
abbrev ltS (k : V → PySem.Str × Int) (x y : V) : Bool := lexS (k x) (k y)
/-! ### a tuple whose object is known whole -/
def TupR (h : Heap) (a : Addr) (xs : List V) : Prop := xs.length ≤ sizeLine ∧ ∃ (its : List Value) (n : Nat), Vals xs its ∧ h.get? a = some { cls := .type "tuple", data := .seq its.toArray n }
def TupO (a : Addr) (xs : List V) : HO := .ext fun h => TupR h a xs
theorem tupO_new {P : Program} {w : World} {H : Hp} {h : Heap} {a : Addr} {xs : List V} (R : TupR h a xs) : ObjOk P w H h a (TupO a xs) := by
  obtain ⟨z, its, n, r, e⟩ := id R
  exact ⟨R, ⟨_, e⟩, fun h1 h2 ⟨z1, its1, n1, r1, e1⟩ k => ⟨z1, its1, n1, r1, k _ e1⟩⟩
section
variable {X : Cx} {pins : List (Addr × Obj)} {σ : L2.St} {H : Hp} {s : Shared} {a : Addr} {xs : List V}
theorem tupO_get (I : Inv X pins σ H s) (h : H a = some (TupO a xs)) : TupR s.heap a xs := (I.hok a _ h).1
end
section
variable {X : Cx} {es : List Expr} {t : TA} {pos : Pos} {x1 : Nat}
def tTupO (t : TA) : TE := fun σ H Q => t σ H fun xs H1 => xs.length ≤ sizeLine ∧ ∀ p, H1 p = none → Q (.ref p) (upd H1 p (TupO p xs))
theorem pe_tupO (h : PA X es t) : PE X (.Tuple es x1 pos) (tTupO t) := by
  refine ⟨fun pins s σ H Q I hq => ?_⟩
  refine wpAny_Tuple_spliced (thn (h.run pos pins s σ H _ I hq) fun us s1 ⟨xs, H1, I1, r, z, q⟩ => ⟨by rw [← r.length]; exact z, ?_⟩)
  exact ⟨.ref s1.heap.objs.size, upd H1 s1.heap.objs.size (TupO s1.heap.objs.size xs), I1.laid (t' := s1.toks) (fun b u e => Heap.get?_push_of_some _ e) (Nat.le_refl _) (tupO_new ⟨z, us, _, r, Heap.get?_push_size _ rfl⟩), rfl, q _ (I1.hok.fresh (Nat.le_refl _))⟩
/-- tuple(xs), xs a list -/
def kTupO (K : PySem.W.Frag) (x : V) (H : Hp) (Q : VK) : Prop := ∃ p xs, x = .ref p ∧ SqL K H p xs ∧ ∀ q, H q = none → Q (.ref q) (upd H q (TupO q xs))
theorem rl_tupO {K : PySem.W.Frag} (hK : X.K = K) (pins : List (Addr × Obj)) (s : Shared) (σ : L2.St) (H : Hp) (x : V) (v : Value) (Q : VK) (I : Inv X pins σ H s) (r : RelV x v) (h : kTupO K x H Q) :
    wpAny (model X.prog X.w) X.A (call (.type "tuple") [v]) (EP X pins σ Q) X.xe s := by
  subst hK
  obtain ⟨p, xs, rfl, hs, q⟩ := h
  obtain rfl : v = .ref p := r
  obtain ⟨its, rv, pl, hz⟩ := I.list hs
  refine call_tuple_list pl.isList (fun h' hk => ?_) (by rw [List.size_toArray, ← rv.length]; exact hz)
  have I1 : Inv X pins σ H { s with heap := h' } := I.kept (t' := s.toks) hk
  have I2 := I1.laid (t' := s.toks) (o := TupO h'.objs.size xs) (h' := h'.push { cls := .type "tuple", data := .seq its.toArray }) (fun b o e => Heap.get?_push_of_some _ e) (Nat.le_refl _) (tupO_new ⟨hz, its, _, rv, Heap.get?_push_size _ rfl⟩)
  exact ⟨.ref h'.objs.size, _, I2, rfl, q _ (I1.hok.fresh (Nat.le_refl _))⟩
theorem pe_tupleOfO {K : PySem.W.Frag} (hK : X.K = K) {a : Expr} {ta : TE} {p pos : Pos} (hg : Gl X "tuple") (hm : X.mg "tuple" = none) (ha : PE X a ta) (na : starEach [a] X.env = (false, eval a X.env) :: starEach [] X.env := by rfl) :
    PE X (.Call (.Name "tuple" p) [a] [] pos) (tThen ta (kTupO K)) := by
  refine ⟨fun pins s σ H Q I h => ?_⟩
  exact Call_ (ld_blt I hg hm boot_tuple (PyProof.Rows.callWith_type1 (one_arg ha I h (fun v s2 x H2 I2 r q => rl_tupO hK pins s2 σ H2 x v Q I2 r q) na) na))
end
def rSortedPS : List V → Hp → VK → Prop := fun vs H Q => ∃ (a : Addr) (xs : List V) (k : V → PySem.Str × Int), vs = [V.ref a] ∧ H a = some (TupO a xs) ∧ (∀ x ∈ xs, ∃ t, x = V.ref t ∧ H t = some (.tup [.str (k x).1, .int (k x).2])) ∧
  ∀ ys p, Srtd (ltS k) ys → Stb (ltS k) ys xs → H p = none → Q (.ref p) (upd H p (.lst ys))
theorem cr_sortedPS {X : Cx} : CallR X (.builtin "sorted") rSortedPS := by
  intro pins s σ H vs us Q I r h
  obtain ⟨a, xs, k, rfl, hs, hx, q⟩ := h
  obtain ⟨hz, its, n, rv, ho⟩ := tupO_get I hs
  obtain ⟨u, rfl, ru⟩ := vals1 r
  obtain rfl : u = Value.ref a := ru
  obtain ⟨e1, e2⟩ := refs_back rv fun x m => (hx x m).imp fun t e => e.1
  refine sorted_pairsS (k := fun u => k (backV u)) ho rfl rfl (by rw [← rv.length]; exact hz) (fun v hv => ?_) fun h' d out h1 h2 kp hd hn => ?_
  · obtain ⟨t, rfl⟩ := e2 v hv
    obtain ⟨t', e, ht⟩ := hx (V.ref t) (by rw [e1]; exact List.mem_map.mpr ⟨_, hv, rfl⟩)
    cases e
    obtain ⟨_, its2, r2, o2, ho2, hc2, n2, hd2⟩ := I.hok _ _ ht
    obtain ⟨u1, u2, rfl, ri, rj⟩ := vals2 r2
    obtain ⟨t1, rfl⟩ := ri
    obtain ⟨t2, rfl⟩ := rj
    exact ⟨t, o2, t1, t2, n2, rfl, ho2, hc2, hd2⟩
  · have h3 : ∀ u ∈ out, ∃ a, u = Value.ref a := fun u hu => e2 u (h2.perm.mem_iff.mp hu)
    obtain ⟨m, hn⟩ := hn
    have hb : Stb (ltS k) (out.map backV) xs := by
      rw [e1]
      exact Stb.map (swo_lexS k) backV h2
    exact ⟨.ref d, upd H d (.lst (out.map backV)), I.laid (t' := s.toks) kp hd ⟨by rw [hb.len]; exact hz, out, m, vals_back h3, hn⟩, rfl, q _ d (srtd_map h1) hb (I.hok.fresh hd)⟩
theorem pairsV_of {X : Cx} {pins : List (Addr × Obj)} {σ : L2.St} {H : Hp} {s : Shared} (I : Inv X pins σ H s) : ∀ {ps : List Addr} {kvs : List (L2.Key × V)}, Paired (fun p kv => SqT X.K H p [kV kv.1, kv.2]) ps kvs →
    ∃ (prs : List (L2.Key × Value)) (pvs : List (Value × Value)), KV kvs prs ∧ pvs.length = ps.length ∧ prs.length = ps.length ∧
      ∀ (j : Nat) k v, pvs[j]? = some (k, v) → (∃ b, ps[j]? = some b ∧ PairAt s.heap b k v) ∧ ∃ key, prs[j]? = some (key, v) ∧ (mixKind X.prog X.w).is key k = true
  | _, _, .nil => ⟨[], [], .nil, rfl, rfl, fun j k v e => by simp at e⟩
  | _, _, .cons (a := p) (b := kv) h t => by
    obtain ⟨prs, pvs, r, l1, l2, hp⟩ := pairsV_of I t
    obtain ⟨its, rv, ht, _⟩ := I.tuple h
    obtain ⟨u, y, ei, ru, ry⟩ := vals2 rv
    subst ei
    refine ⟨(kv.1, y) :: prs, (u, y) :: pvs, .cons ⟨rfl, ry⟩ r, congrArg Nat.succ l1, congrArg Nat.succ l2, fun j k v e => ?_⟩
    cases j with
    | zero =>
      cases Option.some.inj e
      exact ⟨⟨p, rfl, .inl ht⟩, kv.1, rfl, kV_is (P := X.prog) (w := X.w) ru⟩
    | succ j => exact hp j k v e
/-- dict(t), t a tuple of pairs -/
def rDictO (K : PySem.W.Frag) : List V → Hp → VK → Prop := fun vs H Q => ∃ (a : Addr) (ps : List Addr) (kvs : List (L2.Key × V)), vs = [.ref a] ∧ H a = some (TupO a (ps.map V.ref)) ∧ Paired (fun p kv => SqT K H p [kV kv.1, kv.2]) ps kvs ∧
  ∀ p, H p = none → Q (.ref p) (upd H p (.dK (mergeK [] kvs)))
theorem call_dictO {X : Cx} (hcalm : X.calm = true) : CallR X (.type "dict") (rDictO X.K) := by
  intro pins s σ H vs us Q I r h
  obtain ⟨a, ps, kvs, rfl, hs, hp, q⟩ := h
  obtain ⟨hz, its, n, rv, ho⟩ := tupO_get I hs
  obtain ⟨u, rfl, ru⟩ := vals1 r
  obtain rfl : u = Value.ref a := ru
  have ei := refs_at rv
  subst ei
  rw [List.length_map] at hz
  obtain ⟨prs, pvs, rel, l1, l2, hpr⟩ := pairsV_of I hp
  have hq : ∀ j, j < ps.length → ∃ k v, pvs[j]? = some (k, v) := fun j hj => ⟨_, _, List.getElem?_eq_getElem (by omega)⟩
  refine PySem.call_dict_pairs (knd := mixKind X.prog X.w) (kvs := prs) (PairArg.tuple a (ps.map Value.ref).toArray (fun j => ps.getD j 0) pvs) (I.ok.hd hcalm)
    ⟨⟨_, n, ho, rfl, rfl, rfl⟩, by rw [List.size_toArray, List.length_map, l1], fun j k v e => ?_⟩ ⟨by omega, fun i key v e => ?_⟩ (by omega) fun h' tk hd' k => ?_
  · obtain ⟨⟨b, hb, hat⟩, _⟩ := hpr j k v e
    have e2 : ps.getD j 0 = b := by rw [List.getD_eq_getElem?_getD, hb]; rfl
    show (ps.map Value.ref).toArray[j]? = some (Value.ref (ps.getD j 0)) ∧ PairAt s.heap (ps.getD j 0) k v
    rw [e2]
    exact ⟨by simp [hb], hat⟩
  · obtain ⟨_, key', e1, e2⟩ := hpr i key v e
    exact ⟨key', e1, e2⟩
  · have hm : (s.heap.objs.size == sysModules) = false := beq_eq_false_iff_ne.mpr (Nat.ne_of_gt I.big)
    have hlen : (mergeK [] kvs).length ≤ sizeLine := by
      refine Nat.le_trans (length_mergeK kvs []) ?_
      rw [List.length_nil, Nat.zero_add, rel.length, l2]
      exact hz
    exact ⟨.ref s.heap.objs.size, upd H s.heap.objs.size (.dK (mergeK [] kvs)), I.laid (t' := tk) (fun b o e => k b o (by simp) e) (Nat.le_refl _) (show ObjOk X.prog X.w _ _ _ (.dK (mergeK [] kvs)) from ⟨hlen, hm, merged [] prs, KV.merge rel .nil, hd'⟩), rfl, q _ (I.hok.fresh (Nat.le_refl _))⟩
/-- what is sorted already stays as it is -/
theorem sorted_same {k : V → PySem.Str × Int} {xs ys : List V} (hx : xs.Pairwise fun x y => (k x).1.cps.toList < (k y).1.cps.toList) (hs : Srtd (ltS k) ys) (hb : Stb (ltS k) ys xs) : ys = xs := by
  refine stb_uniq (swo_lexS k) hs ?_ hb
  refine hx.imp fun {x y} h => ?_
  have ne : ¬ (k x).1 = (k y).1 := fun e => by rw [e] at h; exact List.lt_irrefl _ h
  show lexS (k y) (k x) = false
  unfold lexS
  rw [if_neg (Ne.symm ne), decide_eq_false_iff_not]
  exact fun w => List.lt_irrefl _ (List.lt_trans h w)
/-- a dict comprehension over a list that stays -/
theorem dc_list {K : PySem.W.Frag} {a : Addr} {xs : List V} {g : TG} {tt : TT} {tk tv : TE} {vs : List Nat} {σ : L2.St} {H1 : Hp} {D : Addr} {Qd : Hp → Prop} (Pv : Nat → Hp → Prop) (h0 : Pv 0 (upd H1 D (.dK []))) (hl : ∀ i H, i ≤ xs.length → Pv i H → SqL K H a xs)
    (hs : ∀ i x H, xs[i]? = some x → Pv i H → g x (wipe σ vs) H fun σ2 H2 => wipe σ2 vs = wipe σ vs ∧ tt σ2 H2 fun b H3 =>
      if b = true then tk σ2 H3 fun y H4 => tv σ2 H4 fun z H5 => ∃ kvs k, y = kV k ∧ H5 D = some (.dK kvs) ∧ kvs.length < sizeLine ∧ Pv (i + 1) (upd H5 D (.dK (putK kvs k z))) else Pv (i + 1) H3) (hd : ∀ H, Pv xs.length H → Qd H) :
    ∃ W : Nat → Nat → Hp → Prop, (∃ m, W 0 m (upd H1 D (.dK []))) ∧ ∀ i m H, W i m H →
      ((Itl K a).stop i H ∧ Qd H) ∨ ((Itl K a).go i H ∧ ∃ Nx : Hp → Prop, (∀ H', Nx H' → ∃ m', m' < m ∧ W (i + 1) m' H') ∧ ∀ x H', (Itl K a).yld i H x H' → g x (wipe σ vs) H' fun σ2 H2 => wipe σ2 vs = wipe σ vs ∧ tt σ2 H2 fun b H3 =>
        if b = true then tk σ2 H3 fun y H4 => tv σ2 H4 fun z H5 => ∃ kvs k, y = kV k ∧ H5 D = some (.dK kvs) ∧ kvs.length < sizeLine ∧ Nx (upd H5 D (.dK (putK kvs k z))) else Nx H3) := by
  refine ⟨fun i m H => m = xs.length - i ∧ i ≤ xs.length ∧ Pv i H, ⟨xs.length, by simp, Nat.zero_le _, h0⟩, ?_⟩
  rintro i m H ⟨rfl, hi, p⟩
  have q := hl i H hi p
  by_cases hlt : i < xs.length
  · refine .inr ⟨⟨xs, xs[i], q, by simp [hlt]⟩, Pv (i + 1), fun H' p' => ⟨xs.length - (i + 1), by omega, rfl, hlt, p'⟩, fun x H' y => ?_⟩
    obtain ⟨e, y⟩ := y
    subst e
    exact hs i x _ (y xs q) p
  · have e : i = xs.length := by omega
    subst e
    exact .inl ⟨⟨xs, q, Nat.le_refl _⟩, hd H p⟩
end Mc
namespace Mc
open PySem L2 PySem.Spec PyProof.Rows
theorem erase_at [DecidableEq α] {k : α} : ∀ {xs : List α}, k ∈ xs → ∃ j, xs[j]? = some k ∧ (∀ m : Nat, m < j → ∀ y, xs[m]? = some y → y ≠ k) ∧ xs.eraseIdx j = xs.erase k
  | x :: xs, h => by
    by_cases e : x = k
    · exact ⟨0, by rw [e]; rfl, fun m z => absurd z (Nat.not_lt_zero _), by rw [e]; simp⟩
    · obtain ⟨j, a, b, c⟩ := erase_at (xs := xs) ((List.mem_cons.mp h).resolve_left fun z => e z.symm)
      refine ⟨j + 1, a, fun m hm y hy => ?_, by rw [List.erase_cons_tail (by simpa using e), List.eraseIdx_cons_succ, c]⟩
      cases m with
      | zero => cases Option.some.inj hy; exact e
      | succ m => exact b m (Nat.lt_of_succ_lt_succ hm) y hy
theorem eraseIdx_map' (f : α → β) : ∀ (l : List α) (j : Nat), (l.map f).eraseIdx j = (l.eraseIdx j).map f
  | [], _ => by simp
  | _ :: _, 0 => by simp
  | _ :: r, j + 1 => by simp [eraseIdx_map' f r j]
def isS (k : PySem.Str) : Value → Bool
  | .str y _ => y.cps.toList == k.cps.toList
  | _ => false
section
variable {X : Cx}
def rRemS : V → List V → Hp → VK → Prop := fun x vs H Q => ∃ (l : Addr) (xs : List PySem.Str) (k : PySem.Str), x = .ref l ∧ vs = [.str k] ∧ H l = some (.lst (xs.map V.str)) ∧ k ∈ xs ∧ Q .non (upd H l (.lst ((xs.erase k).map V.str)))
theorem mt_removeS : MtM X "list.remove" rRemS := by
  intro pins s σ H x vs v us Q I rx rv ⟨l, xs, k, ex, ev, hl, hk, q⟩
  subst ex; subst ev; cases rx
  obtain ⟨u, eu, ⟨t, et⟩⟩ := rv.one
  subst eu; subst et
  obtain ⟨_, its, n, r, hlen, hg⟩ := I.lstM hl
  obtain ⟨j, a, b, c⟩ := erase_at hk
  have look : ∀ (i : Nat) (w : Value), its[i]? = some w → ∃ y t', xs[i]? = some y ∧ w = .str y t' := by
    intro i w hw
    cases hx : xs[i]? with
    | none => rw [r.none_of (by rw [List.getElem?_map, hx]; rfl)] at hw; cases hw
    | some y =>
      obtain ⟨w', h1, ⟨t', h2⟩⟩ := r.get (i := i) (x := .str y) (by rw [List.getElem?_map, hx]; rfl)
      rw [hw] at h1; cases h1
      exact ⟨y, t', rfl, h2⟩
  have lenx : its.length = xs.length := by rw [← r.length, List.length_map]
  have hj : j < xs.length := (List.getElem?_eq_some_iff.mp a).1
  have hj' : j < its.toArray.size := by simp; omega
  refine call_meets PySem.F.slot_list_remove ⟨_, hg, rfl⟩ PySem.F.entry_list_remove (PySem.F.args_list_remove_2 _ _)
    (MeetsSeq.list_remove l its.toArray n (.str k t) (isS k) ?g1 j hj' ?g2 ?g3 (by simp at *; omega)) ⟨hg, .non, _, I.lset (its' := its.eraseIdx j) (t' := s.toks) hl hg (by simp) (r.eraseIdx j) ?g4, rfl, ?g5⟩
  case g1 =>
    intro y hy
    obtain ⟨i, hi⟩ := List.mem_iff_getElem?.mp (show y ∈ its by simpa using hy)
    obtain ⟨z, t', _, e⟩ := look i y hi
    rw [e]
    exact SeqRoads2.EqGives.str z k t' t
  case g2 =>
    obtain ⟨z, t', hz, e⟩ := look j _ (List.getElem?_eq_getElem (by omega : j < its.length))
    rw [a] at hz; cases hz
    have e2 : its.toArray[j] = .str k t' := by simpa using e
    rw [e2]
    exact beq_self_eq_true k.cps.toList
  case g3 =>
    intro m hm hmj
    obtain ⟨z, t', hz, e⟩ := look m _ (List.getElem?_eq_getElem (by simpa using hm : m < its.length))
    have e2 : its.toArray[m] = .str z t' := by simpa using e
    rw [e2]
    have ne := b m hmj z hz
    refine beq_eq_false_iff_ne.mpr fun w => ne ?_
    obtain ⟨⟨z⟩⟩ := z
    obtain ⟨⟨k⟩⟩ := k
    exact congrArg (fun l => PySem.Str.mk (Array.mk l)) w
  case g4 =>
    have z2 := len_erase (xs.map V.str) j
    rw [List.length_map] at z2
    simp at *; omega
  case g5 =>
    have : (xs.map V.str).eraseIdx j = (xs.erase k).map V.str := by rw [← c, eraseIdx_map']
    rw [this]; exact q
end
end Mc
namespace Mc
open PySem L2 PySem.Spec PyProof.Rows
def inK (ys : List PySem.Str) (k : L2.Key) : Bool := ys.any fun y => decide (k = Sum.inr y)
/-- a set under way: it holds the first i of ys -/
structure Part (P : Program) (w : World) (ys : List PySem.Str) (a : Addr) (h : Heap) (i : Nat) (c : Nat) : Prop where
  of : h.SetOf (mixKind P w) a (inK (ys.take i)) c
  le : c ≤ i
  nd : ys.Nodup → c = i
abbrev so (b : Bool) : Obj := { cls := .type "set", dict := none, data := .set #[] 0 (.fresh 0 0 b) }
section
variable {P : Program} {w : World} {A : Around} {E : Value → Shared → Prop} {s : Shared} {ys : List PySem.Str}
theorem Part.at {a : Addr} {h h' : Heap} {i c : Nat} (p : Part P w ys a h i c) (k : ∀ o, h.get? a = some o → h'.get? a = some o) : Part P w ys a h' i c := ⟨setOf_at p.of k, p.le, p.nd⟩
theorem Part.more {a : Addr} {h : Heap} {i c : Nat} {y : PySem.Str} (p : Part P w ys a h i c) (hy : ys[i]? = some y) {h' : Heap}
    (q : h'.SetOf (mixKind P w) a (fun k' => inK (ys.take i) k' || decide (k' = Sum.inr y)) (if inK (ys.take i) (Sum.inr y) then c else c + 1)) :
    ∃ c', Part P w ys a h' (i + 1) c' := by
  have e1 : ys.take (i + 1) = ys.take i ++ [y] := by rw [List.take_add_one, hy]; rfl
  refine ⟨if inK (ys.take i) (Sum.inr y) then c else c + 1, ⟨?_, ?_, ?_⟩⟩
  rotate_left 2
  · intro nd
    have no : inK (ys.take i) (Sum.inr y) = false := by
      refine Bool.eq_false_iff.mpr fun z => ?_
      obtain ⟨x, hx, ex⟩ := List.any_eq_true.mp z
      cases Sum.inr.inj (of_decide_eq_true ex)
      have h2 : (ys.take (i + 1)).Nodup := nd.sublist (List.take_sublist _ _)
      rw [e1] at h2
      exact (List.nodup_append.mp h2).2.2 y hx y (by simp) rfl
    rw [no, p.nd nd]; rfl
  · have e2 : (fun k' => inK (ys.take i) k' || decide (k' = Sum.inr y)) = inK (ys.take (i + 1)) := by
      funext k'
      unfold inK
      rw [e1, List.any_append]
      simp
    rw [← e2]
    exact q
  · have := p.le
    split <;> omega
theorem fill {I : Addr} {fp wr : List Addr} {G : Array GenState → Array GenState → Prop} {n : Nat} {Pv : Nat → Value → Prop} {St : Nat → Shared → Prop} {R : Result → Shared → Prop} (W : WalksS P w A.in1 I fp wr G n Pv St)
    {a : Addr} (ha : a ∉ fp) (hn : n = ys.length) (hb : n + 1 < scanBound) (hv : ∀ i v, Pv i v → ∃ y t, ys[i]? = some y ∧ v = .str y t) (fin : ∀ s' c, Moved (a :: wr) G s s' → Part P w ys a s'.heap n c → R (.ok (.ret .none)) s') :
    ∀ (k i c : Nat) (s1 : Shared), i + k = n → St i s1 → Part P w ys a s1.heap i c → Moved (a :: wr) G s s1 → codeAny (model P w) A (.builtin "set.update.loop" ⟨[.ref a, .ref I], []⟩) R s1
  | 0, i, c, s1, e, st, p, mv => codeAny_builtin F.entry_set_update_loop <| by
    cases (Nat.add_zero i).symm.trans e
    rw [Around.under_plainId F.plain_set_update_loop _]
    refine wpAny_bind (m := pyNext (.ref I)) (W.done s1 _ _ st fun s2 hm => wpAny_pure ?_)
    exact fin s2 c (mv.trans W.gtrans (hm.mono fun b z => .tail _ z)) (p.at fun o => hm.heap a o fun z => ha (W.sub _ z))
  | k + 1, i, c, s1, e, st, p, mv => codeAny_builtin F.entry_set_update_loop <| by
    rw [Around.under_plainId F.plain_set_update_loop _]
    refine wpAny_bind (m := pyNext (.ref I)) (W.item i s1 _ _ (by omega) st fun v s2 pv st2 hm => ?_)
    obtain ⟨y, t, hy, ev⟩ := hv i v pv
    subst ev
    have p2 := p.at fun o => hm.heap a o fun z => ha (W.sub _ z)
    refine wpAny_bind (m := holding [Value.str y t] (setAdd a (.str y t))) (wpAny_holding (wpAny_holding ?_))
    refine wpAny_bind ((mixKind P w).pyHash (k := Sum.inr y) (beq_self_eq_true y) ?_)
    refine wpAny_setAddHashed_of (knd := mixKind P w) (k := Sum.inr y) (s := { s2 with toks := s2.toks + 1 }) (beq_self_eq_true y) rfl p2.of (by have := p2.le; omega) fun h' but so' => wpAny_pure ?_
    obtain ⟨c', p3⟩ := p2.more hy so'
    have far : ∀ b, b ≠ a → ∀ o, s2.heap.get? b = some o → h'.get? b = some o := fun b ne o z => (but.2 b ne).trans z
    refine ⟨plainId_quiet F.plain_set_update_loop _, fill W ha hn hb hv fin k (i + 1) c' _ (by omega) ?_ p3 ?_⟩
    · exact W.frame _ s2 _ _ st2 (Nat.le_succ _) fun b hb o z => far b (fun q => ha (by rw [← q]; exact hb)) o z
    · exact mv.trans W.gtrans (((hm.mono fun b z => .tail _ z)).then_heap (Nat.le_succ _) fun b o hb z => far b (fun q => hb (by rw [q]; exact .head _)) o z)
end
section
variable {P : Program} {w : World} {A : Around} {E : Value → Shared → Prop} {s : Shared} {ys : List PySem.Str}
theorem Part.start (led : Bool) {h : Heap} {a : Addr} (ho : h.get? a = some (so led)) : Part P w ys a h 0 0 :=
  ⟨⟨_, #[], 0, _, ho, ⟨rfl, rfl, rfl⟩, rfl, (fun e he => by simp at he), (fun k => by simp [inK]), (by decide), (by rfl), rfl⟩, Nat.le_refl _, fun _ => rfl⟩
set_option maxHeartbeats 6400000 in
theorem call_setS {l : Addr} {its : Array Value} {Q : Value → Shared → Prop} (hh : A.handled = none) (hl : s.heap.IsList l its) (hv : ∀ (i : Nat) v, its[i]? = some v → ∃ y t, ys[i]? = some y ∧ v = .str y t) (hn : its.size = ys.length) (hb : its.size + 1 < scanBound)
    (fin : ∀ (h' : Heap) (tk c : Nat), Part P w ys s.heap.objs.size h' ys.length c → (∀ b o, s.heap.get? b = some o → h'.get? b = some o) → Q (.ref s.heap.objs.size) { s with heap := h', toks := tk }) :
    wpAny (model P w) A (call (.type "set") [.ref l]) Q E s := by
  have F0 := PySem.F.called_set
  obtain ⟨cc, tl, m1⟩ := F0.mro
  have m2 := F0.made
  have m3 := F0.sub
  have m4 := F0.notType
  have m5 := F0.canCreate
  have m6 := PySem.F.typeCall_set_1 (.ref l)
  refine wpAny_call <| codeAny_of_tree <| wpAny_pure ⟨Code.quiet_builtin _ (by decide +kernel), codeAny_builtin PySem.F.entry_type_call <| by
    rw [Around.under_plain (weight_type_call_type "set" [.ref l] []) rfl]
    repeat (any_goals (first | assumption | wp_step))
    refine codeAny_mono (code_set_new_1 (.ref l) (E := E) (Q₁ := fun v s1 => ∃ led, v = .ref s.heap.objs.size ∧ s1 = { s with heap := s.heap.push (so led) }) fun led => ⟨led, rfl, rfl⟩) ?_
    intro r s1 hr
    match r, hr with
    | .error e, hr => exact hr
    | .ok (.ret v), ⟨led, e1, e2⟩ =>
      subst e1; subst e2
      have at0 : (s.heap.push (so led)).get? s.heap.objs.size = some (so led) := Heap.get?_push_size _ rfl
      have ty : Shared.TypeIs { s with heap := s.heap.push (so led) } (.ref s.heap.objs.size) "set" := ⟨_, at0, rfl⟩
      have n1 := F0.init.lookup
      have n2 := F0.init.bind (.ref s.heap.objs.size)
      repeat (any_goals (first | assumption | wp_step))
      refine codeAny_mono (codeAny_call_builtin (R := wants (fun r s2 => r = .none ∧ ∃ h' tk c, s2 = { s with heap := h', toks := tk } ∧ Part P w ys s.heap.objs.size h' ys.length c ∧ ∀ b o, s.heap.get? b = some o → h'.get? b = some o) E) F0.init.plain PySem.F.entry_set_init (check_set_init_1 ty ?_)) ?_
      rotate_left 1
      · intro r2 s2 hr2
        match r2, hr2 with
        | .error e, hr2 => exact hr2
        | .ok (.ret r), ⟨e1, h', tk, c, e2, pt, kp⟩ =>
          subst e1; subst e2
          repeat (any_goals (first | assumption | wp_step))
          exact fin h' _ c pt kp
      · have pre : ∀ b o, s.heap.get? b = some o → (s.heap.push (so led)).get? b = some o := fun b o z => Heap.get?_push_of_some _ z
        obtain ⟨ob, hob, hc, nn, hd⟩ := hl
        obtain ⟨c0, d0, dat, sl0⟩ := ob
        cases hc; cases hd
        have hob1 := pre _ _ hob
        have il : (s.heap.push (so led)).IsList l its := ⟨_, hob1, rfl, nn, rfl⟩
        have q1 := PySem.F.sub_list_set
        have q2 := PySem.F.sub_list_frozenset
        have q3 : (Value.type "list" == Value.type "dict") = false := by decide
        unfold Builtin.«set.__init__» noKeywords Builtin.Frozenset.updateFrom
        generalize hPI : pyIter = PI
        wp_walk
        cases hPI
        refine wpAny_pyIter_list il (wpAny_bind (wpAny_runValue ?_))
        have z1 : (s.heap.push (so led)).objs.size = s.heap.objs.size + 1 := Heap.size_push ..
        have z2 : l < s.heap.objs.size := Heap.lt_size hob
        have ne : l ≠ (s.heap.push (so led)).objs.size := by rw [z1]; exact Nat.ne_of_lt (Nat.lt_succ_of_lt z2)
        have out : s.heap.objs.size ∉ [(s.heap.push (so led)).objs.size, l] := by
          rw [z1]; simp only [List.mem_cons, List.not_mem_nil, or_false, not_or]; exact ⟨Nat.ne_of_lt (Nat.lt_succ_self _), Nat.ne_of_gt z2⟩
        have hd3 : A.in1.in1.in1.handled = none := by simp [hh]
        refine fill (ys := ys) ((Walks.list hd3 _ l ne its).toS) out hn hb hv ?_ its.size 0 0 _ (Nat.zero_add _) ⟨⟨_, Heap.get?_push_size _ rfl, rfl, rfl⟩, il.push _⟩ (Part.start led (Heap.get?_push_of_some _ at0)) (Moved.refl fun _ => rfl)
        rintro ⟨h', g', d', tk', os'⟩ c mv pt
        cases show g' = s.gens from mv.gens
        cases show d' = s.drawn from mv.drawn
        cases show os' = s.os from mv.os
        refine wpAny_pure (wpAny_pure ⟨rfl, h', tk', c, rfl, hn ▸ pt, fun b o z => ?_⟩)
        have lt : b < s.heap.objs.size := Heap.lt_size z
        refine mv.heap b o ?_ (Heap.get?_push_of_some _ (pre b o z))
        rw [z1]; simp only [List.mem_cons, List.not_mem_nil, or_false, not_or]; exact ⟨Nat.ne_of_lt lt, Nat.ne_of_lt (Nat.lt_succ_of_lt lt)⟩
  ⟩
end
section
variable {X : Cx}
def rSetS (K : PySem.W.Frag) (P : Program) (w : World) : List V → Hp → VK → Prop := fun xs H Q => ∃ (l : Addr) (ys : List PySem.Str), xs = [.ref l] ∧ SqL K H l (ys.map V.str) ∧ ys.length < 64 ∧
  ∀ (p : Addr) (n : Nat), H p = none → n ≤ ys.length → (ys.Nodup → n = ys.length) → Q (.ref p) (upd H p (SetK P w p (inK ys) n))
theorem cr_setS (hc : X.calm = true) : CallR X (.type "set") (rSetS X.K X.prog X.w) := by
  intro pins s σ H xs us Q I r ⟨l, ys, e, hl, h64, q⟩
  subst e
  obtain ⟨u, eu, ru⟩ := r.one
  subst eu; cases ru
  obtain ⟨its, rv, pl, hz⟩ := I.list hl
  have hlen : its.toArray.size = ys.length := by rw [List.size_toArray, ← rv.length, List.length_map]
  refine call_setS (ys := ys) (I.ok.hd hc) pl.isList (fun i v hv => ?_) hlen (by rw [hlen]; unfold scanBound; omega) fun h' tk c pt kp => ?_
  · have hv' : its[i]? = some v := by simpa using hv
    cases hy : ys[i]? with
    | none => rw [rv.none_of (by rw [List.getElem?_map, hy]; rfl)] at hv'; cases hv'
    | some y =>
      obtain ⟨v', h1, ⟨t, h2⟩⟩ := rv.get (i := i) (x := .str y) (by rw [List.getElem?_map, hy]; rfl)
      rw [hv'] at h1; cases h1
      exact ⟨y, t, rfl, h2⟩
  · have e1 : ys.take ys.length = ys := List.take_length
    have po := pt.of
    rw [e1] at po
    exact ⟨.ref _, upd H s.heap.objs.size (SetK X.prog X.w s.heap.objs.size (inK ys) c), I.laid (t' := tk) kp (Nat.le_refl _) (setK_new po), rfl, q _ c (I.hok.fresh (Nat.le_refl _)) pt.le pt.nd⟩
theorem call_lenK : CallR X (.builtin "len") (fun xs H Q => ∃ (p : Addr) (S : L2.Key → Bool) (n : Nat), xs = [.ref p] ∧ H p = some (SetK X.prog X.w p S n) ∧ n < 64 ∧ Q (.int (n : Nat)) H) := by
  intro pins s σ H xs us Q I r ⟨p, S, n, e, hp, h64, q⟩
  subst e
  obtain ⟨u, eu, ru⟩ := r.one
  subst eu; cases ru
  obtain ⟨o, es, ep, t, h1, h2, h3, _, _, _, h5, h6⟩ := setK_get I hp
  refine call_len_set h1 h2 h3 h5 (by rw [h6]; omega) ⟨.int n, H, I.tok _, ⟨_, by rw [h6]⟩, q⟩
end
end Mc
namespace Mc
section
variable {α : Type} [DecidableEq α]
structure Sc (α : Type) where
  ms : List α
  cap : α → Nat
  heard : α → List α
structure SM (α : Type) where
  pos : α → Option α
  on : α → List α
structure SOk (X : Sc α) (S : SM α) (names : List α) : Prop where
  mem : ∀ c m, S.pos c = some m ↔ c ∈ S.on m
  nd : ∀ m, (S.on m).Nodup
  cap : ∀ m, (S.on m).length ≤ X.cap m
  hd : ∀ c m, c ∈ S.on m → m ∈ X.heard c
  dom : ∀ c, (∃ m, S.pos c = some m) ↔ c ∈ names
def SM.rm (S : SM α) (c x : α) : List α := if S.pos c = some x then (S.on x).erase c else S.on x
def SM.put (S : SM α) (c m : α) : SM α := ⟨fun x => if x = c then some m else S.pos x, fun x => if x = m then S.rm c x ++ [c] else S.rm c x⟩
theorem SM.rm_sub (S : SM α) (c x : α) : ∀ y ∈ S.rm c x, y ∈ S.on x := by
  intro y h; unfold SM.rm at h; split at h
  · exact List.mem_of_mem_erase h
  · exact h
theorem SM.rm_len (S : SM α) (c x : α) : (S.rm c x).length ≤ (S.on x).length := by
  unfold SM.rm; split
  · exact List.length_erase_le
  · exact Nat.le_refl _
theorem SOk.rm_mem {X : Sc α} {S : SM α} {names : List α} (O : SOk X S names) (c x y : α) : y ∈ S.rm c x ↔ y ≠ c ∧ y ∈ S.on x := by
  unfold SM.rm; split
  case isTrue h => rw [List.Nodup.mem_erase_iff (O.nd x)]
  case isFalse h =>
    constructor
    · intro hy; exact ⟨fun e => h (by rw [← e]; exact (O.mem y x).mpr hy), hy⟩
    · exact fun h => h.2
theorem SOk.rm_nd {X : Sc α} {S : SM α} {names : List α} (O : SOk X S names) (c x : α) : (S.rm c x).Nodup := by
  unfold SM.rm; split
  · exact (O.nd x).erase _
  · exact O.nd x
theorem SOk.put {X : Sc α} {S : SM α} {names names' : List α} (O : SOk X S names) {c m : α} (hm : m ∈ X.heard c) (hr : (S.on m).length < X.cap m) (hn : ∀ x, x ∈ names' ↔ x = c ∨ x ∈ names) :
    SOk X (S.put c m) names' := by
  have hc : ∀ x, c ∉ S.rm c x := fun x h => ((O.rm_mem c x c).mp h).1 rfl
  refine ⟨fun y x => ?_, fun x => ?_, fun x => ?_, fun y x h => ?_, fun y => ?_⟩
  · show (if y = c then some m else S.pos y) = some x ↔ y ∈ (if x = m then S.rm c x ++ [c] else S.rm c x)
    by_cases e : y = c
    · subst e; rw [if_pos rfl]
      by_cases e2 : x = m
      · subst e2; simp
      · rw [if_neg e2]; exact ⟨fun z => absurd (Option.some.inj z).symm e2, fun z => absurd z (hc x)⟩
    · rw [if_neg e]
      have := O.rm_mem c x y
      by_cases e2 : x = m
      · rw [if_pos e2]; simp [e, this, O.mem]
      · rw [if_neg e2, this, O.mem]; simp [e]
  · show (if x = m then S.rm c x ++ [c] else S.rm c x).Nodup
    split
    · exact List.nodup_append.mpr ⟨O.rm_nd c x, by simp, fun a ha b hb e => by simp at hb; subst hb; subst e; exact hc x ha⟩
    · exact O.rm_nd c x
  · show (if x = m then S.rm c x ++ [c] else S.rm c x).length ≤ _
    split
    case isTrue e => subst e; rw [List.length_append]; have := S.rm_len c x; simp; omega
    case isFalse e => exact Nat.le_trans (S.rm_len c x) (O.cap x)
  · have h : y ∈ (if x = m then S.rm c x ++ [c] else S.rm c x) := h
    split at h
    case isTrue e =>
      rcases List.mem_append.mp h with h | h
      · exact O.hd _ _ (S.rm_sub c x y h)
      · simp at h; subst h; subst e; exact hm
    case isFalse e => exact O.hd _ _ (S.rm_sub c x y h)
  · show (∃ x, (if y = c then some m else S.pos y) = some x) ↔ _
    by_cases e : y = c
    · rw [if_pos e, hn]; exact ⟨fun _ => .inl e, fun _ => ⟨m, rfl⟩⟩
    · rw [if_neg e, hn, O.dom]; simp [e]
/-- a right seating of some calls -/
def Right (X : Sc α) (names : List α) (T : α → α) : Prop := (∀ c ∈ names, T c ∈ X.heard c) ∧ ∀ m, (names.filter fun c => decide (T c = m)).length ≤ X.cap m
def Seatable (X : Sc α) (names : List α) : Prop := ∃ T, Right X names T
theorem len_sub : ∀ {a b : List α}, a.Nodup → (∀ x ∈ a, x ∈ b) → a.length ≤ b.length
  | [], _, _, _ => Nat.zero_le _
  | x :: a, b, h, s => by
    have hx := List.nodup_cons.mp h
    have h1 := len_sub (a := a) (b := b.erase x) hx.2 fun y hy => (List.mem_erase_of_ne (fun e => by subst e; exact hx.1 hy)).mpr (s y (List.mem_cons_of_mem _ hy))
    have h2 := List.length_erase_of_mem (s x (by simp))
    have h3 : 0 < b.length := List.length_pos_of_mem (s x (by simp))
    simp; omega
theorem sum_le {R : List α} {f g : α → Nat} (h : ∀ m ∈ R, f m ≤ g m) : (R.map f).sum ≤ (R.map g).sum := by
  induction R with
  | nil => exact Nat.le_refl _
  | cons x R ih => simp; have := h x (by simp); have := ih fun m hm => h m (List.mem_cons_of_mem _ hm); omega
theorem sum_cnt {R : List α} (hR : R.Nodup) (T : α → α) : ∀ (A : List α), (∀ a ∈ A, T a ∈ R) → A.length ≤ (R.map fun m => (A.filter fun c => decide (T c = m)).length).sum
  | [], _ => Nat.zero_le _
  | a :: A, h => by
    have ih := sum_cnt hR T A fun x hx => h x (List.mem_cons_of_mem _ hx)
    have key : ∀ (R : List α), T a ∈ R → (R.map fun m => (A.filter fun c => decide (T c = m)).length).sum + 1 ≤ (R.map fun m => ((a :: A).filter fun c => decide (T c = m)).length).sum := by
      intro R
      induction R with
      | nil => intro h; cases h
      | cons r R ihR =>
        intro h
        simp only [List.map_cons, List.sum_cons]
        by_cases e : T a = r
        · have h1 : ((a :: A).filter fun c => decide (T c = r)).length = (A.filter fun c => decide (T c = r)).length + 1 := by rw [List.filter_cons, if_pos (decide_eq_true e)]; rfl
          have h2 : (R.map fun m => (A.filter fun c => decide (T c = m)).length).sum ≤ (R.map fun m => ((a :: A).filter fun c => decide (T c = m)).length).sum := sum_le fun m _ => by
            rw [List.filter_cons]; split <;> simp
          omega
        · have h1 : (A.filter fun c => decide (T c = r)).length ≤ ((a :: A).filter fun c => decide (T c = r)).length := by rw [List.filter_cons]; split <;> simp
          have := ihR ((List.mem_cons.mp h).resolve_left e)
          omega
    have := key R (h a (by simp))
    simp; omega
theorem no_seat {X : Sc α} {S : SM α} {names : List α} (O : SOk X S names) {c : α} (hc : c ∉ names) {R : List α} (hR : R.Nodup) (h1 : ∀ m ∈ X.heard c, m ∈ R) (h2 : ∀ m ∈ R, ¬ (S.on m).length < X.cap m)
    (h3 : ∀ m ∈ R, ∀ y ∈ S.on m, ∀ o ∈ X.heard y, o ∈ R) {names' : List α} (hn : ∀ x, x ∈ names' ↔ x ∈ names ∨ x = c) : ¬ Seatable X names' := by
  rintro ⟨T, T1, T2⟩
  have hmem : ∀ y ∈ R.flatMap S.on, y ∈ names ∧ ∃ m ∈ R, y ∈ S.on m := fun y hy => by
    obtain ⟨m, hm, hy⟩ := List.mem_flatMap.mp hy
    exact ⟨(O.dom y).mp ⟨m, (O.mem y m).mpr hy⟩, m, hm, hy⟩
  have nd : ∀ R : List α, R.Nodup → (R.flatMap S.on).Nodup := by
    intro R hR
    induction R with
    | nil => exact List.nodup_nil
    | cons r R ih =>
      have hr := List.nodup_cons.mp hR
      rw [List.flatMap_cons]
      refine List.nodup_append.mpr ⟨O.nd r, ih hr.2, fun a ha b hb e => ?_⟩
      subst e
      obtain ⟨m, hm, hb⟩ := List.mem_flatMap.mp hb
      have e1 := (O.mem a r).mpr ha
      have e2 := (O.mem a m).mpr hb
      rw [e1] at e2
      cases Option.some.inj e2
      exact hr.1 hm
  have ndA : (c :: R.flatMap S.on).Nodup := List.nodup_cons.mpr ⟨fun h => hc (hmem c h).1, nd R hR⟩
  have hA := sum_cnt hR T (c :: R.flatMap S.on) fun a ha => by
    rcases List.mem_cons.mp ha with e | e
    · subst e; exact h1 _ (T1 _ ((hn a).mpr (.inr rfl)))
    · obtain ⟨h, m, hm, hy⟩ := hmem a e
      exact h3 m hm a hy _ (T1 _ ((hn a).mpr (.inl h)))
  have hB := sum_le (R := R) (f := fun m => ((c :: R.flatMap S.on).filter fun c => decide (T c = m)).length) (g := fun m => (S.on m).length) fun m hm => by
    refine Nat.le_trans (Nat.le_trans (len_sub (b := names'.filter fun c => decide (T c = m)) (ndA.filter _) fun x hx => ?_) (T2 m)) (Nat.le_of_not_lt (h2 m hm))
    rw [List.mem_filter] at hx ⊢
    refine ⟨(hn x).mpr ?_, hx.2⟩
    rcases List.mem_cons.mp hx.1 with e | e
    · exact .inr e
    · exact .inl (hmem x e).1
  have hl : ∀ R : List α, (R.flatMap S.on).length = (R.map fun m => (S.on m).length).sum := fun R => by rw [List.length_flatMap]
  rw [List.length_cons, hl] at hA
  omega
theorem SOk.seatable {X : Sc α} {S : SM α} {names : List α} (O : SOk X S names) (hn : names.Nodup) : Seatable X names := by
  cases names with
  | nil => exact ⟨id, ⟨fun c h => (nomatch h), fun m => Nat.zero_le _⟩⟩
  | cons n ns =>
    refine ⟨fun c => (S.pos c).getD n, fun c hc => ?_, fun m => ?_⟩
    · obtain ⟨m, hm⟩ := (O.dom c).mpr hc
      show (S.pos c).getD n ∈ _
      rw [hm]; exact O.hd c m ((O.mem c m).mp hm)
    · refine Nat.le_trans (len_sub (b := S.on m) (hn.filter _) fun x hx => ?_) (O.cap m)
      rw [List.mem_filter] at hx
      obtain ⟨m', hm⟩ := (O.dom x).mpr hx.1
      have h2 : (S.pos x).getD n = m := of_decide_eq_true hx.2
      rw [hm] at h2
      exact (O.mem x m).mp (by rw [hm]; exact congrArg some h2)
/-- the search: which masts were come to, and how -/
inductive Ch (X : Sc α) (S : SM α) (c : α) : List (α × α × Option α) → Prop
  | nil : Ch X S c []
  | snoc {L : List (α × α × Option α)} {m y : α} {l : Option α} : Ch X S c L → m ∈ X.heard y → (l = none ∧ y = c ∨ ∃ m', l = some m' ∧ m' ∈ L.map (·.1) ∧ y ∈ S.on m') → m ∉ L.map (·.1) → Ch X S c (L ++ [(m, y, l)])
theorem Ch.nodup {X : Sc α} {S : SM α} {c : α} {L : List (α × α × Option α)} (h : Ch X S c L) : (L.map (·.1)).Nodup := by
  induction h with
  | nil => exact List.nodup_nil
  | snoc _ _ _ hn ih => rw [List.map_append]; exact List.nodup_append.mpr ⟨ih, by simp, fun a ha b hb e => by simp at hb; subst hb; subst e; exact hn ha⟩
theorem Ch.at {X : Sc α} {S : SM α} {c : α} {L : List (α × α × Option α)} (h : Ch X S c L) {m : α} (hm : m ∈ L.map (·.1)) :
    ∃ L1 y l L2, L = L1 ++ (m, y, l) :: L2 ∧ Ch X S c L1 ∧ m ∈ X.heard y ∧ (l = none ∧ y = c ∨ ∃ m', l = some m' ∧ m' ∈ L1.map (·.1) ∧ y ∈ S.on m') ∧ m ∉ L1.map (·.1) := by
  induction h with
  | nil => cases hm
  | @snoc L m2 y l hL h1 h2 h3 ih =>
    rw [List.map_append, List.mem_append] at hm
    rcases hm with hm | hm
    · obtain ⟨L1, y', l', L2, e, r⟩ := ih hm
      exact ⟨L1, y', l', L2 ++ [(m2, y, l)], by rw [e]; simp, r⟩
    · simp at hm; subst hm
      exact ⟨L, y, l, [], rfl, hL, h1, h2, h3⟩
/-- the way back: what holds ahead of each move -/
structure Lead (X : Sc α) (S : SM α) (c : α) (L : List (α × α × Option α)) (S' : SM α) (names : List α) (m : α) (n : Nat) : Prop where
  ok : SOk X S' names
  c0 : c ∉ names
  ch : Ch X S c L
  room : (S'.on m).length < X.cap m
  here : m ∈ L.map (·.1)
  pre : ∀ L1 y l L2, L = L1 ++ (m, y, l) :: L2 → L1.length < n ∧ ∀ x ∈ L1.map (·.1), S'.on x = S.on x
theorem Lead.step {X : Sc α} {S : SM α} {c : α} {L : List (α × α × Option α)} {S' : SM α} {names : List α} {m : α} {n : Nat} (I : Lead X S c L S' names m n) :
    ∃ y l, (m, y, l) ∈ L ∧ m ∈ X.heard y ∧ (l = none ∧ y = c ∧ SOk X (S'.put y m) (names ++ [c]) ∨ ∃ m' k, l = some m' ∧ k < n ∧ Lead X S c L (S'.put y m) names m' k) := by
  obtain ⟨L1, y, l, L2, e, hc1, hm, hl, hn⟩ := I.ch.at I.here
  refine ⟨y, l, by rw [e]; simp, hm, ?_⟩
  obtain ⟨hk, hp⟩ := I.pre _ _ _ _ e
  rcases hl with ⟨rfl, rfl⟩ | ⟨m', rfl, hm', hy⟩
  · exact .inl ⟨rfl, rfl, I.ok.put hm I.room fun x => by simp; exact Or.comm⟩
  · right
    obtain ⟨La, ya, la, Lb, ea, ca, _⟩ := hc1.at hm'
    have hy' : y ∈ S'.on m' := by rw [hp m' hm']; exact hy
    have py : S'.pos y = some m' := (I.ok.mem y m').mpr hy'
    have yn : y ∈ names := (I.ok.dom y).mp ⟨m', py⟩
    have mne : m' ≠ m := fun z => hn (by rw [← z]; exact hm')
    refine ⟨m', L1.length, rfl, hk, I.ok.put hm I.room fun x => ⟨fun h => .inr h, fun h => h.elim (fun e => by rw [e]; exact yn) id⟩, I.c0, I.ch, ?_, ?_, ?_⟩
    · show (if m' = m then S'.rm y m' ++ [y] else S'.rm y m').length < _
      rw [if_neg mne]
      unfold SM.rm
      rw [if_pos py, List.length_erase_of_mem hy']
      have := I.ok.cap m'
      have : 0 < (S'.on m').length := List.length_pos_of_mem hy'
      omega
    · rw [e, ea]; simp
    · intro La' ya' la' Lb' e'
      have nd := I.ch.nodup
      -- the place of m' is one only
      have hLa : La' = La := by
        have e1 : L = La ++ (m', ya, la) :: (Lb ++ (m, y, some m') :: L2) := by rw [e, ea]; simp
        have nd1 := nd
        rw [e'] at nd
        rw [e1] at nd1
        have key : ∀ (A A' : List (α × α × Option α)) (z z' : α × Option α) (B B' : List (α × α × Option α)), A ++ (m', z) :: B = A' ++ (m', z') :: B' → m' ∉ A.map (·.1) → m' ∉ A'.map (·.1) → A = A' := by
          intro A
          induction A with
          | nil =>
            intro A' z z' B B' h _ h2
            cases A' with
            | nil => rfl
            | cons a A' => simp at h; exact absurd (by rw [← h.1]; simp) h2
          | cons a A ih =>
            intro A' z z' B B' h h1 h2
            cases A' with
            | nil => simp at h; exact absurd (by rw [h.1]; simp) h1
            | cons a' A' =>
              simp only [List.cons_append, List.cons.injEq] at h
              rw [h.1, ih A' z z' B B' h.2 (fun q => h1 (List.mem_cons_of_mem _ q)) (fun q => h2 (List.mem_cons_of_mem _ q))]
        have n1 : m' ∉ La.map (·.1) := by
          rw [List.map_append] at nd1
          intro q
          exact (List.nodup_append.mp nd1).2.2 m' q m' (by simp) rfl
        have n2 : m' ∉ La'.map (·.1) := by
          rw [List.map_append] at nd
          intro q
          exact (List.nodup_append.mp nd).2.2 m' q m' (by simp) rfl
        exact key La' La _ _ _ _ (e'.symm.trans e1) n2 n1
      subst hLa
      have nd1 := hc1.nodup
      rw [ea, List.map_append] at nd1
      refine ⟨by rw [ea]; simp, fun x hx => ?_⟩
      have xm' : x ≠ m' := fun z => (List.nodup_append.mp nd1).2.2 x hx m' (by simp) z
      have hxL : x ∈ L1.map (·.1) := by rw [ea, List.map_append]; exact List.mem_append_left _ hx
      have xm : x ≠ m := fun z => hn (by rw [← z]; exact hxL)
      show (if x = m then S'.rm y x ++ [y] else S'.rm y x) = S.on x
      rw [if_neg xm]
      unfold SM.rm
      rw [if_neg (fun z => xm' (by rw [py] at z; exact (Option.some.inj z).symm))]
      exact hp x hxL
end
end Mc
namespace Mc
open PySem L2 PySem.Spec PyProof.Rows
/-- a statement that is never come to -/
theorem ps_no {X : Cx} {st : Stmt} : PS X st (fun _ _ _ => False) := ⟨fun _ _ _ _ _ _ h => h.elim⟩
theorem dc_it {J : It} {n : Nat} {G : Hp → Prop} {Y : Nat → Hp → V → Hp → Prop} (w : Walk J n G Y) {g : TG} {tt : TT} {tk tv : TE} {vs : List Nat} {σ : L2.St} {H1 : Hp} {D : Addr} {Qd : Hp → Prop} (Pv : Nat → Hp → Prop) (h0 : Pv 0 (upd H1 D (.dK [])))
    (hG : ∀ i H, i ≤ n → Pv i H → G H)
    (hs : ∀ i x H H', i < n → Pv i H → Y i H x H' → g x (wipe σ vs) H' fun σ2 H2 => wipe σ2 vs = wipe σ vs ∧ tt σ2 H2 fun b H3 =>
      if b = true then tk σ2 H3 fun y H4 => tv σ2 H4 fun z H5 => ∃ kvs k, y = kV k ∧ H5 D = some (.dK kvs) ∧ kvs.length < sizeLine ∧ Pv (i + 1) (upd H5 D (.dK (putK kvs k z))) else Pv (i + 1) H3) (hd : ∀ H, Pv n H → Qd H) :
    ∃ W : Nat → Nat → Hp → Prop, (∃ m, W 0 m (upd H1 D (.dK []))) ∧ ∀ i m H, W i m H →
      (J.stop i H ∧ Qd H) ∨ (J.go i H ∧ ∃ Nx : Hp → Prop, (∀ H', Nx H' → ∃ m', m' < m ∧ W (i + 1) m' H') ∧ ∀ x H', J.yld i H x H' → g x (wipe σ vs) H' fun σ2 H2 => wipe σ2 vs = wipe σ vs ∧ tt σ2 H2 fun b H3 =>
        if b = true then tk σ2 H3 fun y H4 => tv σ2 H4 fun z H5 => ∃ kvs k, y = kV k ∧ H5 D = some (.dK kvs) ∧ kvs.length < sizeLine ∧ Nx (upd H5 D (.dK (putK kvs k z))) else Nx H3) := by
  refine ⟨fun i m H => i + m = n ∧ Pv i H, ⟨n, by omega, h0⟩, fun i m H ⟨e, p⟩ => ?_⟩
  cases m with
  | zero =>
    cases (Nat.add_zero i).symm.trans e
    exact .inl ⟨w.stops H (hG _ H (Nat.le_refl _) p), hd H p⟩
  | succ m =>
    have lt : i < n := by omega
    have q := hG i H (Nat.le_of_lt lt) p
    exact .inr ⟨w.goes i H lt q, fun H' => Pv (i + 1) H', fun H' p' => ⟨m, Nat.lt_succ_self m, by omega, p'⟩, fun x H' y => hs i x H H' lt p (w.yields i H x H' lt q y)⟩
/-! dicts whose keys are texts -/
section
variable {β : Type} {f : β → V} {l : List (PySem.Str × β)} {k : PySem.Str} {v : β}
def kvT (f : β → V) (l : List (PySem.Str × β)) : List (L2.Key × V) := l.map fun x => (Sum.inr x.1, f x.2)
def getT (l : List (PySem.Str × β)) (k : PySem.Str) : Option β := (l.find? fun x => decide (x.1 = k)).map (·.2)
def keysT (l : List (PySem.Str × β)) : List PySem.Str := l.map (·.1)
theorem kvT_app (l' : List (PySem.Str × β)) : kvT f (l ++ l') = kvT f l ++ kvT f l' := List.map_append
theorem getT_nil : getT ([] : List (PySem.Str × β)) k = none := rfl
theorem getT_cons (x : PySem.Str × β) : getT (x :: l) k = if x.1 = k then some x.2 else getT l k := by
  unfold getT
  rw [List.find?_cons]
  by_cases e : x.1 = k
  · rw [decide_eq_true e, if_pos e]; rfl
  · rw [decide_eq_false e, if_neg e]
theorem val_T : valV (kvT f l) (Sum.inr k : L2.Key) = (getT l k).map f := by
  induction l with
  | nil => rfl
  | cons x l ih =>
    rw [getT_cons]
    by_cases e : x.1 = k
    · rw [if_pos e]
      exact valV_pos (p := ((Sum.inr x.1 : L2.Key), f x.2)) (congrArg Sum.inr e)
    · rw [if_neg e, ← ih]
      exact valV_neg (p := ((Sum.inr x.1 : L2.Key), f x.2)) fun z => e (Sum.inr.inj z)
theorem getT_in (h : getT l k = some v) : (k, v) ∈ l := by
  induction l with
  | nil => cases h
  | cons x l ih =>
    rw [getT_cons] at h
    by_cases e : x.1 = k
    · rw [if_pos e] at h
      cases Option.some.inj h
      rw [← e]; exact .head _
    · rw [if_neg e] at h
      exact .tail _ (ih h)
theorem getT_mem (nd : (keysT l).Nodup) (h : (k, v) ∈ l) : getT l k = some v := by
  induction l with
  | nil => cases h
  | cons x l ih =>
    have nd' := List.nodup_cons.mp nd
    rw [getT_cons]
    rcases List.mem_cons.mp h with e | e
    · rw [← e, if_pos rfl]
    · rw [if_neg fun z => nd'.1 (by show x.1 ∈ _; rw [z]; exact List.mem_map.mpr ⟨_, e, rfl⟩)]
      exact ih nd'.2 e
theorem getT_none : getT l k = none ↔ k ∉ keysT l := by
  induction l with
  | nil => exact ⟨fun _ h => (nomatch h), fun _ => rfl⟩
  | cons x l ih =>
    rw [getT_cons]
    by_cases e : x.1 = k
    · rw [if_pos e]
      exact ⟨fun h => (nomatch h), fun h => absurd (by rw [← e]; exact .head _) h⟩
    · rw [if_neg e, ih]
      exact ⟨fun h z => (List.mem_cons.mp z).elim (fun q => e q.symm) h, fun h z => h (.tail _ z)⟩
theorem getT_key (h : k ∈ keysT l) : ∃ v, getT l k = some v := by
  cases e : getT l k with
  | none => exact absurd h (getT_none.mp e)
  | some v => exact ⟨v, rfl⟩
theorem put_new (h : k ∉ keysT l) : putK (kvT f l) (Sum.inr k : L2.Key) (f v) = kvT f (l ++ [(k, v)]) := by
  rw [putK_new _ (by rw [val_T, getT_none.mpr h]; rfl), kvT_app]; rfl
theorem put_old (h : k ∈ keysT l) : putK (kvT f l) (Sum.inr k : L2.Key) (f v) = kvT f (l.map fun x => if x.1 = k then (x.1, v) else x) := by
  unfold putK
  rw [if_pos (by
    obtain ⟨v', hv⟩ := getT_key h
    rw [valV_any, val_T, hv]; rfl)]
  unfold kvT
  rw [List.map_map, List.map_map]
  refine List.map_congr_left fun x _ => ?_
  show (if (Sum.inr x.1 : L2.Key) = Sum.inr k then _ else _) = _
  by_cases e : x.1 = k
  · rw [if_pos (congrArg Sum.inr e)]
    show _ = ((Sum.inr (if x.1 = k then (x.1, v) else x).1 : L2.Key), f (if x.1 = k then (x.1, v) else x).2)
    rw [if_pos e]
  · rw [if_neg fun z => e (Sum.inr.inj z)]
    show _ = ((Sum.inr (if x.1 = k then (x.1, v) else x).1 : L2.Key), f (if x.1 = k then (x.1, v) else x).2)
    rw [if_neg e]
theorem drop_T : dropK (kvT f l) (Sum.inr k : L2.Key) = kvT f (l.filter fun x => decide (x.1 ≠ k)) := by
  unfold dropK kvT
  rw [List.filter_map]
  congr 1
  refine List.filter_congr fun x _ => ?_
  show decide ((Sum.inr x.1 : L2.Key) ≠ Sum.inr k) = decide (x.1 ≠ k)
  simp
/-- the items in another turn of the keys -/
theorem perm_T [Inhabited β] (nd : (keysT l).Nodup) {ys : List PySem.Str} (h : ys.Perm (keysT l)) : (ys.map fun y => (y, (getT l y).getD default)).Perm l := by
  refine (h.map _).trans ?_
  have e : (keysT l).map (fun y => (y, (getT l y).getD default)) = l := by
    unfold keysT
    rw [List.map_map]
    refine (List.map_congr_left fun x hx => ?_).trans (List.map_id l)
    show (x.1, (getT l x.1).getD default) = x
    rw [getT_mem nd (v := x.2) hx]; rfl
  rw [e]
end
theorem kvT_get {β : Type} {f : β → V} {l : List (PySem.Str × β)} {i : Nat} {k : L2.Key} {v : V} (h : (kvT f l)[i]? = some (k, v)) : ∃ x, l[i]? = some x ∧ k = Sum.inr x.1 ∧ v = f x.2 := by
  unfold kvT at h
  rw [List.getElem?_map] at h
  cases e : l[i]? with
  | none => rw [e] at h; cases h
  | some x => rw [e] at h; cases Option.some.inj h; exact ⟨x, rfl, rfl, rfl⟩
theorem un_same {H H' : Hp} {d : Addr} {od : Obj} {u : HO} (s : Same (upd H d (.frz od u)) H') (h : H d = some u) : Same H (upd H' d u) := fun b o z => by
  by_cases e : b = d
  · subst e; rw [h] at z; cases z; exact upd_same
  · rw [upd_ne e]; exact s b o (by rw [upd_ne e]; exact z)
theorem keysT_kv {β : Type} {f : β → V} (l : List (PySem.Str × β)) : (kvT f l).map (·.1) = (keysT l).map Sum.inr := by
  unfold kvT keysT; rw [List.map_map, List.map_map]; rfl
theorem dgetT {β : Type} {f : β → V} {l : List (PySem.Str × β)} {k : PySem.Str} {v : β} {H : Hp} {a : Addr} (h : Rd H a (.dK (kvT f l))) (e : getT l k = some v) : DGet H a (.str k) (some (f v)) := .inl ⟨_, Sum.inr k, h, rfl, by rw [val_T, e]; rfl⟩
theorem dgetN {β : Type} {f : β → V} {l : List (PySem.Str × β)} {k : PySem.Str} {H : Hp} {a : Addr} (h : Rd H a (.dK (kvT f l))) : DGet H a (.str k) ((getT l k).map f) := .inl ⟨_, Sum.inr k, h, rfl, val_T.symm⟩
theorem nd_take {α : Type} {ys : List α} {i : Nat} {m : α} (nd : ys.Nodup) (hi : ys[i]? = some m) : m ∉ ys.take i := by
  have h2 : (ys.take (i + 1)).Nodup := nd.sublist (List.take_sublist _ _)
  rw [List.take_add_one, hi] at h2
  exact fun z => (List.nodup_append.mp h2).2.2 m z m (by simp) rfl
theorem keysT_mk {β : Type} {g : PySem.Str → β} (ys : List PySem.Str) : keysT (ys.map fun y => (y, g y)) = ys := by
  unfold keysT; rw [List.map_map]; exact List.map_id ys
theorem put_mk {β : Type} {f : β → V} {g : PySem.Str → β} {ys : List PySem.Str} {i : Nat} {m : PySem.Str} (nd : ys.Nodup) (hi : ys[i]? = some m) :
    putK (kvT f ((ys.take i).map fun y => (y, g y))) (Sum.inr m : L2.Key) (f (g m)) = kvT f ((ys.take (i + 1)).map fun y => (y, g y)) := by
  rw [put_new (by rw [keysT_mk]; exact nd_take nd hi), List.take_add_one, hi, List.map_append]; rfl
theorem len_mk {β : Type} {f : β → V} {g : PySem.Str → β} {ys : List PySem.Str} {i : Nat} (h : ys.length < 64) : (kvT f ((ys.take i).map fun y => (y, g y))).length < sizeLine := by
  unfold kvT; rw [List.length_map, List.length_map, List.length_take]
  exact Nat.lt_of_le_of_lt (Nat.min_le_right _ _) (Nat.lt_of_lt_of_le h (by decide))
theorem via {α : Type} {R G : α → Prop} {g : Prop} (h : (∀ x, R x → G x) → g) (t : ∀ x, R x → G x) : g := h t
end Mc
namespace Mc
open PySem L2 PySem.Spec PyProof.Rows
def top (i : Nat) : Stmt := PySem.Challenge.pw_mastcalls_k37_whole_tours.main.body.getD i (.Pass ⟨0, 0, 0, 0⟩)
/-! ### the draws -/
abbrev sNum : Stmt := top 10
abbrev sTake : Stmt := top 11
def spNum (K : PySem.W.Frag) : Sp := fun vs H Q _ => ∃ (a : Addr) (ns : List Int) (k : Int), vs = [.ref a, .int k] ∧ SqL K H a (ns.map V.int) ∧ ns.length ≤ 63 ∧
  ∀ (v : Int) (H' : Hp), 0 ≤ v → Same H H' → Q (.int v) H'
def spTake (K : PySem.W.Frag) : Sp := fun vs H Q _ => ∃ (M : List Addr) (d a : Addr) (m : Int), vs = [.ref d, .int m] ∧ Dr K M d a H ∧ 0 < m ∧
  ∀ (v : Int) (H' : Hp), 0 ≤ v → v < m → Dr K M d a H' → Kp [d] H H' → Q (.int v) H'
/-- what the draws ask of the module -/
structure TxD (K : PySem.W.Frag) (mg : Str → Option Value) (fN fT : Addr) : Prop where
  len : mg "len" = none
  int : mg "int" = none
  abs : mg "abs" = none
  num : mg "_law_number" = some (.ref fN)
  take : mg "_law_take" = some (.ref fT)
section
variable {P : Program} {w : World} {K : PySem.W.Frag} {mg : Str → Option Value} {base : Heap}
theorem scNum : FnScope ["script", "index", "cell", "blend"] ["script", "index"] (defScope sNum) := ⟨rfl, rfl, rfl, by decide +kernel, rfl, by decide +kernel, by decide +kernel⟩
theorem ok_num {f fN fT : Addr} {fd : FuncData} (F : Fun K "_law_number" "_law_number" sNum f fd) (T : TxD K mg fN fT) : FnOk P w K mg base CX0 1 f fd ["script", "index"] (spNum K) := by
  refine F.ok scNum (fun vs H Q E h => ?_) (fun cdv A outer s H vs Q E hr h => ?_)
  · obtain ⟨a, ns, k, rfl, _⟩ := h
    rfl
  · obtain ⟨a, ns, k, rfl, hS, hl, q⟩ := h
    refine ⟨_, pss_cons (ps_if (pt_cmpR (op_eqD hr.units) (pv 0) (pe_lst pa_nil) (nomark _)) (pss_one (ps_ret (pe_callTy call_int1 (by rfl) T.int boot_int (pa_cons (pe_op op_mod (pe_op op_add (pe_op op_mul (pv 1) pe_int) pe_int) pe_int) pa_nil)))) pss_nil)
      (pss_cons (ps_set (i := 2) scNum.nd rfl (Or.inl rfl) (pe_ix ix_list (pv 0) (pe_op op_mod (pv 1) (pe_callB call_len_seq (by rfl) T.len PySem.boot_len (pa_cons (pv 0) pa_nil))) (fun _ _ => rfl)))
      (pss_cons (ps_if (pt_cmpR op_ge (pe_callB call_abs (by rfl) T.abs boot_abs (pa_cons (pv 2) pa_nil)) (pe_op op_pow pe_int pe_int) (nomark _)) (pss_one (ps_set (i := 2) scNum.nd rfl (Or.inl rfl) (pe_op op_mod (pv 2) (pe_op op_pow pe_int pe_int)))) pss_nil)
      (pss_cons (ps_set (i := 3) scNum.nd rfl (Or.inl rfl) (pe_op op_mod (pe_op op_add (pe_op op_mul (pe_op op_add (pv 2) (pe_op op_mul pe_int (pv 1))) pe_int) (pe_op op_mul pe_int (pe_callB call_len_seq (by rfl) T.len PySem.boot_len (pa_cons (pv 0) pa_nil)))) pe_int))
      (pss_one (ps_ret (pe_callTy call_int1 (by rfl) T.int boot_int (pa_cons (pe_op op_mod (pe_op op_add (pe_op op_mul (pe_op op_mod (pe_op op_mul (pv 3) pe_int) pe_int) pe_int) (pv 1)) pe_int) pa_nil))))))), ?_⟩
    refine ⟨_, rfl, Nat.zero_le _, fun p hp => ?_⟩
    have s1 : Same H (upd H p (.lst [])) := fun b o e => by rw [upd_ne (ne_of_none e hp)]; exact e
    have hS1 := s1.seq hS
    refine ⟨pdI ns, pdI [], dp_ints hS1, dp_ints (SqL.of upd_same), shaped_ints _, shaped_ints _, _, rfl, ?_⟩
    refine ite2 (fun _ => ?_) (fun e => ?_)
    · refine ⟨_, rfl, _, _, rfl, rfl, .inr (by decide), _, _, rfl, rfl, _, _, rfl, rfl, (by show (0 : Int) < _; decide), .inl ⟨_, rfl, ?_⟩⟩
      exact q _ _ (Int.emod_nonneg _ (by decide)) s1
    · have hn : 0 < ns.length := by
        rw [eqv_ints] at e
        cases ns with
        | nil => exact absurd (decide_eq_true rfl) e
        | cons x r => exact Nat.succ_pos _
      have hlen : ((ns.map V.int).length : Int) = (ns.length : Int) := by rw [List.length_map]
      have hlt : (k % (((ns.map V.int).length : Nat) : Int)).toNat < ns.length := by
        have h1 := Int.emod_nonneg k (b := (((ns.map V.int).length : Nat) : Int)) (by omega)
        have h2 := Int.emod_lt_of_pos k (b := (((ns.map V.int).length : Nat) : Int)) (by omega)
        omega
      refine ⟨_, rfl, _, rfl, _, rfl, a, _, rfl, .inl hS1, _, _, rfl, rfl, (by show (0 : Int) < _; omega), a, _, _, V.int ns[(k % (((ns.map V.int).length : Nat) : Int)).toNat], rfl, rfl, hS1, at_of (j := (k % (((ns.map V.int).length : Nat) : Int)).toNat) (by
        have h1 := Int.emod_nonneg k (b := (((ns.map V.int).length : Nat) : Int)) (by omega)
        omega) (by rw [List.getElem?_map, List.getElem?_eq_getElem hlt]; rfl), ?_⟩
      generalize ns[(k % (((ns.map V.int).length : Nat) : Int)).toNat] = c
      refine ⟨_, rfl, _, rfl, _, _, rfl, rfl, ⟨by decide, by decide, by decide⟩, _, _, rfl, rfl, _, rfl, ?_⟩
      refine ite2 (fun _ => ?_) (fun _ => ?_)
      refine ⟨_, rfl, _, _, rfl, rfl, ⟨by decide, by decide, by decide⟩, _, _, rfl, rfl, (by show (0 : Int) < _; decide), ?_⟩
      all_goals
        refine ⟨_, rfl, _, rfl, _, _, rfl, rfl, .inl ⟨by decide, by decide⟩, _, _, rfl, rfl, _, _, rfl, rfl, .inr (by decide), _, rfl, a, _, rfl, .inl hS1, _, _, rfl, rfl, .inl ⟨by decide, by decide⟩, _, _, rfl, rfl, _, _, rfl, rfl, (by show (0 : Int) < _; decide), ?_⟩
        refine ⟨_, rfl, _, _, rfl, rfl, .inr (by decide), _, _, rfl, rfl, (by show (0 : Int) < _; decide), _, _, rfl, rfl, .inr (by decide), _, rfl, _, _, rfl, rfl, _, _, rfl, rfl, (by show (0 : Int) < _; decide), .inl ⟨_, rfl, ?_⟩⟩
        exact q _ _ (Int.emod_nonneg _ (by decide)) s1
theorem scTake : FnScope ["draw", "many"] ["draw", "many"] (defScope sTake) := ⟨rfl, rfl, rfl, by decide +kernel, rfl, by decide +kernel, by decide +kernel⟩
theorem ok_take {f fN fT : Addr} {fd fdN : FuncData} (F : Fun K "_law_take" "_law_take" sTake f fd) (T : TxD K mg fN fT) (FN : Fun K "_law_number" "_law_number" sNum fN fdN) (bN : Binds K fdN ["script", "index"] []) :
    FnOk P w K mg base CX0 2 f fd ["draw", "many"] (spTake K) := by
  have GN : FnOk P w K mg base CX0 1 fN fdN ["script", "index"] (spNum K) := ok_num FN T
  refine F.ok scTake (fun vs H Q E h => ?_) (fun cdv A outer s H vs Q E hr h => ?_)
  · obtain ⟨M, d, a, m, rfl, _⟩ := h
    rfl
  · obtain ⟨M, d, a, m, rfl, D, hm, q⟩ := h
    obtain ⟨⟨k, hd⟩, hM, ns, hl, hs⟩ := id D
    refine ⟨_, pss_cons (ps_augS (pv 0) pe_int get_list pe_int ip_add set_list)
      (pss_one (ps_ret (pe_op op_mod (pe_callTy call_int1 (by rfl) T.int boot_int (pa_cons (pe_call GN hr rfl T.num FN.kp bN .nil pass0 (pa_cons (pe_ix ix_list (pv 0) pe_int (fun _ _ => rfl)) (pa_cons (pe_callTy call_int1 (by rfl) T.int boot_int (pa_cons (pe_ix ix_list (pv 0) pe_int (fun _ _ => rfl)) pa_nil)) pa_nil))) pa_nil)) (pv 1)))), ?_⟩
    refine ⟨_, rfl, d, _, _, .int k, rfl, rfl, SqL.of hd, rfl, _, _, rfl, rfl, d, _, _, 1, rfl, rfl, hd, rfl, ?_⟩
    have hd1 : (upd H d (HO.lst ([V.ref a, V.int k].set 1 (V.int (k + 1))))) d = some (.lst [.ref a, .int (k + 1)]) := upd_same
    have k1 : Kp [d] H (upd H d (HO.lst ([V.ref a, V.int k].set 1 (V.int (k + 1))))) := Kp.at (List.mem_singleton.mpr rfl)
    have up : ∀ b ∈ [d], b ∈ M := fun b z => by rw [List.mem_singleton.mp z]; exact hM
    refine ⟨_, rfl, d, _, _, .ref a, rfl, rfl, SqL.of hd1, rfl, _, rfl, d, _, _, .int (k + 1), rfl, rfl, SqL.of hd1, rfl, .inl ⟨_, rfl, ?_⟩⟩
    refine ⟨a, ns, k + 1, rfl, hs _ (k1.mono up), hl, fun v H' hv s1 => .inl ⟨_, rfl, ?_⟩⟩
    refine ⟨_, rfl, _, _, rfl, rfl, hm, ?_⟩
    have k2 := k1.trans (Kp.same s1)
    exact q _ H' (Int.emod_nonneg _ (by omega)) (Int.emod_lt_of_pos _ hm) (D.next (k2.mono up) (s1 _ _ hd1)) k2
end
end Mc
namespace Mc
open PySem L2 PySem.Spec PyProof.Rows
abbrev sIsNum : Stmt := top 1
def spIsNum : Sp := fun vs H Q _ => ∃ n lo hi : Int, vs = [.int n, .int lo, .int hi] ∧ Q (.bl (decide (lo ≤ n) && decide (n ≤ hi))) H
structure TxI (mg : PySem.Str → Option Value) : Prop where
  isi : mg "isinstance" = none
  int : mg "int" = none
  bool : mg "bool" = none
section
variable {P : Program} {w : World} {K : PySem.W.Frag} {mg : PySem.Str → Option Value} {base : Heap}
theorem scIsNum : FnScope ["thing", "low", "high"] ["thing", "low", "high"] (defScope sIsNum) := ⟨rfl, rfl, rfl, by decide +kernel, rfl, by decide +kernel, by decide +kernel⟩
theorem ok_isnum {f : Addr} {fd : FuncData} (F : Fun K "is_number" "is_number" sIsNum f fd) (T : TxI mg) : FnOk P w K mg base CX0 1 f fd ["thing", "low", "high"] spIsNum := by
  refine F.ok scIsNum (fun vs H Q E h => ?_) (fun cdv A outer s H vs Q E hr h => ?_)
  · obtain ⟨n, lo, hi, rfl, _⟩ := h
    rfl
  · obtain ⟨n, lo, hi, rfl, q⟩ := h
    refine ⟨_, (pss_one (ps_ret (pe_and (pe_callB call_isi (by rfl) T.isi boot_isinstance (pa_cons (pv 0) (pa_cons (pe_bltn (v := .ty "int") (by rfl) T.int boot_int rfl) pa_nil))) (pe_and (pe_not (pe_callB call_isi (by rfl) T.isi boot_isinstance (pa_cons (pv 0) (pa_cons (pe_bltn (v := .ty "bool") (by rfl) T.bool (by rfl) rfl) pa_nil)))) (pe_one (pe_chain op_le op_le (pv 1) (pv 0) (pv 2))))))), ?_⟩
    refine ⟨_, rfl, _, _, _, _, _, rfl, .ty "int", .base (.int _), by rfl, true, rfl, _, rfl, _, _, _, _, _, rfl, .ty "bool", .base (.int _), by rfl, false, rfl, true, rfl, ?_⟩
    refine ⟨_, rfl, _, rfl, _, _, rfl, rfl, _, rfl, ?_⟩
    refine ite2 (fun h => ?_) (fun h => ?_)
    · refine ⟨_, rfl, _, _, rfl, rfl, ?_⟩
      rw [decide_eq_true (of_decide_eq_true h)] at q
      exact q
    · rw [Bool.eq_false_iff.mpr h] at q
      exact q
end
end Mc
namespace Mc
open PySem L2 PySem.Spec PyProof.Rows
/-! a list comprehension with two fors, by two walks -/
theorem yes_ite {σ : L2.St} {H : Hp} {A B : Hp → Prop} (h : A H) : tYes σ H (fun b H3 => if b = true then A H3 else B H3) := by
  show (if true = true then A H else B H)
  rw [if_pos rfl]
  exact h
theorem pi_listK {X : Cx} {K : PySem.W.Frag} {tg l : Expr} {tl : TE} (h : X.K = K) (hl : PE X l tl) : PI X tg l (iList K tl) := by
  subst h
  exact pi_list hl
section
variable {J J1 : It} {n n1 : Nat} {G G1 : Hp → Prop} {Y Y1 : Nat → Hp → V → Hp → Prop} {g g1 : TG} {tt tt1 : TT} {te : TE} {wi1 : TI} {vs vs1 : List Nat} {σ σ2 : L2.St} {H1 H4 : Hp} {D : Addr} {Qd Nx : Hp → Prop}
theorem lc2_out (w : Walk J n G Y) (Pv : Nat → Hp → Prop) (h0 : Pv 0 (upd H1 D (.lst []))) (hG : ∀ i H, i ≤ n → Pv i H → G H)
    (hs : ∀ i x H H', i < n → Pv i H → Y i H x H' → g x (wipe σ vs) H' fun σ2 H2 => wipe σ2 vs = wipe σ vs ∧ tt σ2 H2 fun b H3 => if b = true then wi1 σ2 H3 fun J1 H4 => ∃ W1 : Nat → Nat → Hp → Prop, (∃ m, W1 0 m H4) ∧ ∀ j k H, W1 j k H →
      (J1.stop j H ∧ Pv (i + 1) H) ∨ (J1.go j H ∧ ∃ Nx1 : Hp → Prop, (∀ H', Nx1 H' → ∃ k', k' < k ∧ W1 (j + 1) k' H') ∧ ∀ x H', J1.yld j H x H' → g1 x (wipe σ2 vs1) H' fun σ3 H5 => wipe σ3 vs1 = wipe σ2 vs1 ∧ tt1 σ3 H5 fun b H6 =>
        if b = true then te σ3 H6 fun y H7 => ∃ acc, H7 D = some (.lst acc) ∧ acc.length < sizeLine ∧ Nx1 (upd H7 D (.lst (acc ++ [y]))) else Nx1 H6) else Pv (i + 1) H3) (hd : ∀ H, Pv n H → Qd H) :
    ∃ W : Nat → Nat → Hp → Prop, (∃ m, W 0 m (upd H1 D (.lst []))) ∧ ∀ i m H, W i m H →
  (J.stop i H ∧ Qd H) ∨ (J.go i H ∧ ∃ Nx : Hp → Prop, (∀ H', Nx H' → ∃ m', m' < m ∧ W (i + 1) m' H') ∧ ∀ x H', J.yld i H x H' → g x (wipe σ vs) H' fun σ2 H2 => wipe σ2 vs = wipe σ vs ∧ tt σ2 H2 fun b H3 =>
    if b = true then wi1 σ2 H3 fun J1 H4 => ∃ W1 : Nat → Nat → Hp → Prop, (∃ m, W1 0 m H4) ∧ ∀ j k H, W1 j k H →
      (J1.stop j H ∧ Nx H) ∨ (J1.go j H ∧ ∃ Nx1 : Hp → Prop, (∀ H', Nx1 H' → ∃ k', k' < k ∧ W1 (j + 1) k' H') ∧ ∀ x H', J1.yld j H x H' → g1 x (wipe σ2 vs1) H' fun σ3 H5 => wipe σ3 vs1 = wipe σ2 vs1 ∧ tt1 σ3 H5 fun b H6 =>
        if b = true then te σ3 H6 fun y H7 => ∃ acc, H7 D = some (.lst acc) ∧ acc.length < sizeLine ∧ Nx1 (upd H7 D (.lst (acc ++ [y]))) else Nx1 H6)
    else Nx H3) := by
  refine ⟨fun i m H => m = n - i ∧ i ≤ n ∧ Pv i H, ⟨n, by simp, Nat.zero_le _, h0⟩, ?_⟩
  rintro i m H ⟨rfl, hi, p⟩
  by_cases hlt : i < n
  · exact .inr ⟨w.goes i H hlt (hG i H hi p), Pv (i + 1), fun H' p' => ⟨n - (i + 1), by omega, rfl, hlt, p'⟩, fun x H' y => hs i x H H' hlt p (w.yields i H x H' hlt (hG i H hi p) y)⟩
  · obtain rfl : i = n := by omega
    exact .inl ⟨w.stops H (hG _ H hi p), hd H p⟩
theorem lc2_in (w : Walk J1 n1 G1 Y1) (Pj : Nat → Hp → Prop) (h0 : Pj 0 H4) (hG : ∀ i H, i ≤ n1 → Pj i H → G1 H)
    (hs : ∀ j x H H', j < n1 → Pj j H → Y1 j H x H' → g1 x (wipe σ2 vs1) H' fun σ3 H5 => wipe σ3 vs1 = wipe σ2 vs1 ∧ tt1 σ3 H5 fun b H6 => if b = true then te σ3 H6 fun y H7 => ∃ acc, H7 D = some (.lst acc) ∧ acc.length < sizeLine ∧ Pj (j + 1) (upd H7 D (.lst (acc ++ [y]))) else Pj (j + 1) H6)
    (hd : ∀ H, Pj n1 H → Nx H) :
    ∃ W1 : Nat → Nat → Hp → Prop, (∃ m, W1 0 m H4) ∧ ∀ j k H, W1 j k H →
      (J1.stop j H ∧ Nx H) ∨ (J1.go j H ∧ ∃ Nx1 : Hp → Prop, (∀ H', Nx1 H' → ∃ k', k' < k ∧ W1 (j + 1) k' H') ∧ ∀ x H', J1.yld j H x H' → g1 x (wipe σ2 vs1) H' fun σ3 H5 => wipe σ3 vs1 = wipe σ2 vs1 ∧ tt1 σ3 H5 fun b H6 =>
        if b = true then te σ3 H6 fun y H7 => ∃ acc, H7 D = some (.lst acc) ∧ acc.length < sizeLine ∧ Nx1 (upd H7 D (.lst (acc ++ [y]))) else Nx1 H6) := by
  refine ⟨fun i m H => m = n1 - i ∧ i ≤ n1 ∧ Pj i H, ⟨n1, by simp, Nat.zero_le _, h0⟩, ?_⟩
  rintro i m H ⟨rfl, hi, p⟩
  by_cases hlt : i < n1
  · exact .inr ⟨w.goes i H hlt (hG i H hi p), Pj (i + 1), fun H' p' => ⟨n1 - (i + 1), by omega, rfl, hlt, p'⟩, fun x H' y => hs i x H H' hlt p (w.yields i H x H' hlt (hG i H hi p) y)⟩
  · obtain rfl : i = n1 := by omega
    exact .inl ⟨w.stops H (hG _ H hi p), hd H p⟩
end
end Mc
namespace Mc
open PySem L2 PySem.Spec PyProof.Rows
theorem lt_tri : ∀ a b : List Nat, ¬ a < b → a ≠ b → b < a
  | [], [], _, h => absurd rfl h
  | [], y :: b, h, _ => absurd (List.nil_lt_cons y b) h
  | x :: a, [], _, _ => List.nil_lt_cons x a
  | x :: a, y :: b, h, n => by
    rw [List.cons_lt_cons_iff] at h ⊢
    by_cases e : x = y
    · subst e
      exact .inr ⟨rfl, lt_tri a b (fun z => h (.inr ⟨rfl, z⟩)) fun z => n (by rw [z])⟩
    · exact .inl (by
        have : ¬ x < y := fun z => h (.inl z)
        omega)
def ltN (a b : PySem.Str) : Prop := a.cps.toList < b.cps.toList
instance (a b : PySem.Str) : Decidable (ltN a b) := inferInstanceAs (Decidable (_ < _))
theorem ltN_irr (a : PySem.Str) : ¬ ltN a a := List.lt_irrefl _
theorem ltN_trans {a b c : PySem.Str} (h : ltN a b) (k : ltN b c) : ltN a c := List.lt_trans h k
theorem ltN_tri {a b : PySem.Str} (h : ¬ ltN a b) (n : a ≠ b) : ltN b a := lt_tri _ _ h fun z => n (str_ext z)
section
variable {β : Type} {l : List (PySem.Str × β)} {k : PySem.Str} {v : β}
def AscT (l : List (PySem.Str × β)) : Prop := l.Pairwise fun x y => ltN x.1 y.1
def hiT (l : List (PySem.Str × β)) (k : PySem.Str) : List (PySem.Str × β) := l.filter fun x => decide (ltN k x.1)
def loT (l : List (PySem.Str × β)) (k : PySem.Str) : List (PySem.Str × β) := l.filter fun x => !decide (ltN k x.1)
theorem AscT.nodup (h : AscT l) : (keysT l).Nodup := by
  unfold keysT
  rw [List.Nodup, List.pairwise_map]
  exact List.Pairwise.imp (fun {a b} z e => by rw [e] at z; exact ltN_irr _ z) h
theorem AscT.split (h : AscT l) (k : PySem.Str) : l = loT l k ++ hiT l k := by
  induction l with
  | nil => rfl
  | cons x l ih =>
    have h' := List.pairwise_cons.mp h
    unfold loT hiT
    rw [List.filter_cons, List.filter_cons]
    by_cases e : ltN k x.1
    · have all : ∀ y ∈ l, ltN k y.1 := fun y hy => ltN_trans e (h'.1 y hy)
      rw [decide_eq_true e]
      have e1 : l.filter (fun x => !decide (ltN k x.1)) = [] := List.filter_eq_nil_iff.mpr fun y hy => by simp [all y hy]
      have e2 : l.filter (fun x => decide (ltN k x.1)) = l := List.filter_eq_self.mpr fun y hy => decide_eq_true (all y hy)
      simp [e1, e2]
    · rw [decide_eq_false e]
      have := ih h'.2
      unfold loT hiT at this
      simp only [Bool.not_false, if_true, Bool.false_eq_true, if_false, List.cons_append]
      rw [← this]
open Classical in
noncomputable def insT (l : List (PySem.Str × β)) (k : PySem.Str) (v : β) : List (PySem.Str × β) := if k ∈ keysT l then l.map (fun x => if x.1 = k then (x.1, v) else x) else loT l k ++ [(k, v)] ++ hiT l k
theorem getT_app (l' : List (PySem.Str × β)) : getT (l ++ l') k = (getT l k).or (getT l' k) := by
  induction l with
  | nil => rfl
  | cons x l ih =>
    rw [List.cons_append, getT_cons, getT_cons, ih]
    split <;> rfl
theorem getT_rep (c : PySem.Str) : getT (l.map fun x => if x.1 = k then (x.1, v) else x) c = if c = k then (getT l c).map (fun _ => v) else getT l c := by
  induction l with
  | nil => split <;> rfl
  | cons x l ih =>
    rw [List.map_cons, getT_cons, getT_cons, ih]
    by_cases e : x.1 = k
    · rw [if_pos e]
      show (if x.1 = c then some v else _) = _
      by_cases e2 : x.1 = c
      · rw [if_pos e2, if_pos e2, if_pos (e2.symm.trans e)]; rfl
      · rw [if_neg e2, if_neg e2]
    · rw [if_neg e]
      by_cases e2 : x.1 = c
      · rw [if_pos e2, if_pos e2, if_neg fun z => e (e2.trans z)]
      · rw [if_neg e2, if_neg e2]
theorem getT_ins (h : AscT l) (c : PySem.Str) : getT (insT l k v) c = if c = k then some v else getT l c := by
  unfold insT
  split
  case isTrue hk =>
    rw [getT_rep]
    split
    case isTrue e => subst e; obtain ⟨w, hw⟩ := getT_key hk; rw [hw]; rfl
    case isFalse e => rfl
  case isFalse hk =>
    have n : getT l k = none := getT_none.mpr hk
    rw [h.split k, getT_app] at n
    have n1 : getT (loT l k) k = none := by cases e : getT (loT l k) k with
      | none => rfl
      | some v => rw [e] at n; cases n
    rw [getT_app, getT_app, getT_cons]
    by_cases e : c = k
    · subst e; rw [if_pos rfl, if_pos rfl, n1]; rfl
    · rw [if_neg fun z => e z.symm, if_neg e]
      conv => rhs; rw [h.split k, getT_app]
      cases getT (loT l k) c <;> rfl
theorem AscT.ins (h : AscT l) : AscT (insT l k v) := by
  unfold insT
  split
  case isTrue hk =>
    unfold AscT
    rw [List.pairwise_map]
    refine List.Pairwise.imp (fun {a b} z => ?_) h
    have e : ∀ x : PySem.Str × β, (if x.1 = k then (x.1, v) else x).1 = x.1 := fun x => by split <;> rfl
    rw [e, e]; exact z
  case isFalse hk =>
    have hi : ∀ x ∈ hiT l k, ltN k x.1 := fun x hx => of_decide_eq_true (List.mem_filter.mp hx).2
    have lo : ∀ x ∈ loT l k, ltN x.1 k := fun x hx => by
      have h2 := List.mem_filter.mp hx
      refine ltN_tri (fun z => by simp [z] at h2) fun z => hk ?_
      rw [z]; exact List.mem_map.mpr ⟨x, h2.1, rfl⟩
    refine List.pairwise_append.mpr ⟨List.pairwise_append.mpr ⟨h.filter _, List.pairwise_singleton _ _, fun x hx y hy => ?_⟩, h.filter _, fun x hx y hy => ?_⟩
    · cases List.mem_singleton.mp hy; exact lo x hx
    · rcases List.mem_append.mp hx with hx | hx
      · exact ltN_trans (lo x hx) (hi y hy)
      · cases List.mem_singleton.mp hx; exact hi y hy
theorem ins_len : (insT l k v).length ≤ l.length + 1 := by
  unfold insT
  split
  · rw [List.length_map]; exact Nat.le_succ _
  · have h1 : (loT l k).length + (hiT l k).length ≤ l.length := by
      unfold loT hiT
      have : ∀ l : List (PySem.Str × β), (l.filter fun x => !decide (ltN k x.1)).length + (l.filter fun x => decide (ltN k x.1)).length = l.length := by
        intro l
        induction l with
        | nil => rfl
        | cons x l ih =>
          rw [List.filter_cons, List.filter_cons]
          cases decide (ltN k x.1) <;> simp <;> omega
      exact Nat.le_of_eq (this l)
    simp; omega
theorem keys_ins (h : AscT l) (c : PySem.Str) : c ∈ keysT (insT l k v) ↔ c = k ∨ c ∈ keysT l := by
  have key : ∀ l : List (PySem.Str × β), c ∈ keysT l ↔ getT l c ≠ none := fun l => by
    rw [Ne, getT_none]; exact ⟨fun h z => z h, fun h => Classical.byContradiction h⟩
  rw [key, key, getT_ins h]
  by_cases e : c = k
  · simp [e]
  · simp [e]
end
section
variable {β : Type} {l : List (PySem.Str × β)} {k : PySem.Str} {v : β}
theorem getT_not {A : List (PySem.Str × β)} {c : PySem.Str} (h : ∀ x ∈ A, x.1 ≠ c) : getT A c = none := getT_none.mpr fun z => by
  obtain ⟨x, hx, e⟩ := List.mem_map.mp z
  exact h x hx e
theorem keep_T {A : List (PySem.Str × β)} {c : PySem.Str} (h : ∀ x ∈ A, x.1 ≠ c) : A.filter (fun x => decide (x.1 ≠ c)) = A := List.filter_eq_self.mpr fun x hx => decide_eq_true (h x hx)
/-- one turn: y is taken out and put at the end -/
theorem turn_T {lo A B : List (PySem.Str × β)} {y z : PySem.Str × β} (h1 : ∀ x ∈ lo, x.1 ≠ y.1) (h2 : ∀ x ∈ A, x.1 ≠ y.1) (h3 : ∀ x ∈ B, x.1 ≠ y.1) (h4 : z.1 ≠ y.1) :
    getT (lo ++ (y :: B) ++ [z] ++ A) y.1 = some y.2 ∧ (lo ++ (y :: B) ++ [z] ++ A).filter (fun x => decide (x.1 ≠ y.1)) = lo ++ B ++ [z] ++ A ∧ y.1 ∉ keysT (lo ++ B ++ [z] ++ A) := by
  refine ⟨?_, ?_, ?_⟩
  · rw [getT_app, getT_app, getT_app, getT_not h1, getT_cons, if_pos rfl]; rfl
  · rw [List.filter_append, List.filter_append, List.filter_append, keep_T h1, keep_T h2, List.filter_cons, if_neg (by simp), keep_T h3, keep_T (A := [z]) (by intro x hx; cases List.mem_singleton.mp hx; exact h4)]
  · refine getT_none.mp (getT_not fun x hx => ?_)
    simp only [List.mem_append, List.mem_singleton] at hx
    rcases hx with ((hx | hx) | hx) | hx
    · exact h1 x hx
    · exact h3 x hx
    · rw [hx]; exact h4
    · exact h2 x hx
theorem hi_turn (h : AscT l) {i : Nat} {y : PySem.Str × β} (hy : (hiT l k)[i]? = some y) : (hiT l k).drop i = y :: (hiT l k).drop (i + 1) ∧ (hiT l k).take (i + 1) = (hiT l k).take i ++ [y] ∧
    (∀ x ∈ loT l k, x.1 ≠ y.1) ∧ (∀ x ∈ (hiT l k).take i, x.1 ≠ y.1) ∧ (∀ x ∈ (hiT l k).drop (i + 1), x.1 ≠ y.1) ∧ k ≠ y.1 := by
  obtain ⟨hl, e⟩ := List.getElem?_eq_some_iff.mp hy
  have ky : ltN k y.1 := of_decide_eq_true (List.mem_filter.mp (List.mem_of_getElem? hy)).2
  have d : (hiT l k).drop i = y :: (hiT l k).drop (i + 1) := by rw [List.drop_eq_getElem_cons hl, e]
  have asc : AscT (hiT l k) := h.filter _
  refine ⟨d, by rw [List.take_add_one, hy]; rfl, fun x hx z => ?_, fun x hx z => ?_, fun x hx z => ?_, fun z => ltN_irr _ (z ▸ ky)⟩
  · have := (List.mem_filter.mp hx).2
    rw [z] at this
    simp [ky] at this
  · have a := asc
    rw [← List.take_append_drop i (hiT l k), d] at a
    exact ltN_irr _ (z ▸ (List.pairwise_append.mp a).2.2 x hx y (by simp))
  · have a := asc
    rw [← List.take_append_drop i (hiT l k), d] at a
    exact ltN_irr _ (z ▸ (List.pairwise_cons.mp (List.pairwise_append.mp a).2.1).1 x hx)
end
theorem ins_map {β γ : Type} (g : β → γ) (l : List (PySem.Str × β)) (k : PySem.Str) (v : β) : insT (l.map fun x => (x.1, g x.2)) k (g v) = (insT l k v).map fun x => (x.1, g x.2) := by
  have ek : keysT (l.map fun x => (x.1, g x.2)) = keysT l := by unfold keysT; rw [List.map_map]; rfl
  unfold insT
  rw [ek]
  split
  · rw [List.map_map, List.map_map]
    refine List.map_congr_left fun x _ => ?_
    show (if x.1 = k then (x.1, g v) else (x.1, g x.2)) = _
    by_cases e : x.1 = k
    · rw [if_pos e]; show _ = ((if x.1 = k then (x.1, v) else x).1, g (if x.1 = k then (x.1, v) else x).2); rw [if_pos e]
    · rw [if_neg e]; show _ = ((if x.1 = k then (x.1, v) else x).1, g (if x.1 = k then (x.1, v) else x).2); rw [if_neg e]
  · rw [List.map_append, List.map_append]
    unfold loT hiT
    rw [List.filter_map, List.filter_map]
    rfl
end Mc
namespace Mc
open PySem L2 PySem.Spec PyProof.Rows
/-! ### comprehensions whose turns change nothing that stood -/
theorem itP {c A B : Prop} [Decidable c] (h : c) (a : A) : if c then A else B := by rw [if_pos h]; exact a
theorem itN {c A B : Prop} [Decidable c] (h : ¬ c) (b : B) : if c then A else B := by rw [if_neg h]; exact b
theorem Same.new {p : Addr} {H : Hp} {o : HO} (h : H p = none) : Same H (upd H p o) := fun b u z => by rw [upd_ne (ne_of_none z h)]; exact z
theorem Same.rfl' {H : Hp} : Same H H := fun _ _ z => z
theorem Same.two {p q : Addr} {H : Hp} {o u : HO} (h : H p = none) (k : upd H p o q = none) : Same H (upd (upd H p o) q u) := (Same.new h).trans (Same.new k)
section
variable {α : Type} {c f : α → V} {ys : List α} {J : It} {n : Nat} {G : Hp → Prop} {te : TE} {vs : List Nat} {σ : L2.St} {H1 : Hp} {D : Addr} {Qd : Hp → Prop} {j : Nat}
/-- [e for x in xs], as a map -/
theorem lc_m (w : Walk J n G (YAt (ys.map c))) (f : α → V) (hn : n = ys.length) (hD : H1 D = none) (hG : ∀ H', Same H1 H' → G H') (hz : ys.length ≤ sizeLine)
    (turn : ∀ (i : Nat) (y : α) (H' : Hp) (k : VK), ys[i]? = some y → Same H1 H' → (∀ H4, Same H' H4 → k (f y) H4) → te ((wipe σ vs).set j (some (c y))) H' k)
    (hd : ∀ H', Same H1 H' → H' D = some (.lst (ys.map f)) → Qd H') (hw : ∀ v, wipe ((wipe σ vs).set j (some v)) vs = wipe σ vs := by intro _; rfl) :
    ∃ W : Nat → Nat → Hp → Prop, (∃ m, W 0 m (upd H1 D (.lst []))) ∧ ∀ i m H, W i m H →
      (J.stop i H ∧ Qd H) ∨ (J.go i H ∧ ∃ Nx : Hp → Prop, (∀ H', Nx H' → ∃ m', m' < m ∧ W (i + 1) m' H') ∧ ∀ x H', J.yld i H x H' → gName j x (wipe σ vs) H' fun σ2 H2 => wipe σ2 vs = wipe σ vs ∧ tYes σ2 H2 fun b H3 =>
        if b = true then te σ2 H3 fun y H4 => ∃ acc, H4 D = some (.lst acc) ∧ acc.length < sizeLine ∧ Nx (upd H4 D (.lst (acc ++ [y]))) else Nx H3) := by
  refine lc_it w (fun i H' => Same H1 H' ∧ H' D = some (.lst ((ys.take i).map f))) ⟨Same.new hD, upd_same⟩ (fun i H' _ z => hG H' z.1) ?_ ?_
  · rintro i x H H' hi ⟨s1, d1⟩ ⟨rfl, hx⟩
    rw [List.getElem?_map] at hx
    cases e : ys[i]? with
    | none => rw [e] at hx; cases hx
    | some y =>
      rw [e] at hx
      obtain rfl := Option.some.inj hx
      refine ⟨hw _, yes_ite (turn i y _ _ e s1 fun H4 s4 => ⟨_, s4 _ _ d1, ?_, ?_, ?_⟩)⟩
      · rw [List.length_map, List.length_take]; omega
      · exact fun b o z => by
          have nb : b ≠ D := ne_of_none z hD
          rw [upd_ne nb]
          exact s4 _ _ (s1 _ _ z)
      · rw [upd_same, List.take_add_one, e, List.map_append]
        rfl
  · rintro H ⟨s1, d1⟩
    subst hn
    rw [List.take_length] at d1
    exact hd H s1 d1
/-- [x for x in xs if t] and the like, as a filter and a map -/
theorem lc_f {tt : TT} (w : Walk J n G (YAt (ys.map c))) (p : α → Bool) (f : α → V) (hn : n = ys.length) (hD : H1 D = none) (hG : ∀ H', Same H1 H' → G H') (hz : ys.length ≤ sizeLine)
    (test : ∀ (i : Nat) (y : α) (H' : Hp) (k : Bool → Hp → Prop), ys[i]? = some y → Same H1 H' → (∀ H4, Same H' H4 → k (p y) H4) → tt ((wipe σ vs).set j (some (c y))) H' k)
    (turn : ∀ (i : Nat) (y : α) (H' : Hp) (k : VK), ys[i]? = some y → p y = true → Same H1 H' → (∀ H4, Same H' H4 → k (f y) H4) → te ((wipe σ vs).set j (some (c y))) H' k)
    (hd : ∀ H', Same H1 H' → H' D = some (.lst ((ys.filter p).map f)) → Qd H') (hw : ∀ v, wipe ((wipe σ vs).set j (some v)) vs = wipe σ vs := by intro _; rfl) :
    ∃ W : Nat → Nat → Hp → Prop, (∃ m, W 0 m (upd H1 D (.lst []))) ∧ ∀ i m H, W i m H →
      (J.stop i H ∧ Qd H) ∨ (J.go i H ∧ ∃ Nx : Hp → Prop, (∀ H', Nx H' → ∃ m', m' < m ∧ W (i + 1) m' H') ∧ ∀ x H', J.yld i H x H' → gName j x (wipe σ vs) H' fun σ2 H2 => wipe σ2 vs = wipe σ vs ∧ tt σ2 H2 fun b H3 =>
        if b = true then te σ2 H3 fun y H4 => ∃ acc, H4 D = some (.lst acc) ∧ acc.length < sizeLine ∧ Nx (upd H4 D (.lst (acc ++ [y]))) else Nx H3) := by
  refine lc_it w (fun i H' => Same H1 H' ∧ H' D = some (.lst (((ys.take i).filter p).map f))) ⟨Same.new hD, upd_same⟩ (fun i H' _ z => hG H' z.1) ?_ ?_
  · rintro i x H H' hi ⟨s1, d1⟩ ⟨rfl, hx⟩
    rw [List.getElem?_map] at hx
    cases e : ys[i]? with
    | none => rw [e] at hx; cases hx
    | some y =>
      rw [e] at hx
      obtain rfl := Option.some.inj hx
      have et : (ys.take (i + 1)).filter p = (ys.take i).filter p ++ (if p y = true then [y] else []) := by
        rw [List.take_add_one, e, List.filter_append]
        show _ ++ [y].filter p = _
        rw [List.filter_cons]
        split <;> rfl
      refine ⟨hw _, test i y _ _ e s1 fun H3 s3 => ?_⟩
      by_cases hp : p y = true
      · rw [if_pos hp]
        refine turn i y _ _ e hp (s1.trans s3) fun H4 s4 => ⟨_, s4 _ _ (s3 _ _ d1), ?_, ?_, ?_⟩
        · have h1 := List.length_filter_le p (ys.take i)
          have h2 := List.length_take_le i ys
          rw [List.length_map]
          have h3 : (ys.take i).length < ys.length := by
            have := (List.getElem?_eq_some_iff.mp e).1
            rw [List.length_take]; omega
          omega
        · exact fun b o z => by
            have nb : b ≠ D := ne_of_none z hD
            rw [upd_ne nb]
            exact s4 _ _ (s3 _ _ (s1 _ _ z))
        · rw [upd_same, et, if_pos hp, List.map_append]
          rfl
      · rw [if_neg hp]
        refine ⟨s1.trans s3, ?_⟩
        rw [et, if_neg hp, List.append_nil]
        exact s3 _ _ d1
  · rintro H ⟨s1, d1⟩
    subst hn
    rw [List.take_length] at d1
    exact hd H s1 d1
/-- [e for x in xs], each item a new object -/
theorem lc_n {R : Hp → α → Addr → Prop} (w : Walk J n G (YAt (ys.map c))) (hn : n = ys.length) (hD : H1 D = none) (hG : ∀ H', Same H1 H' → G H') (hz : ys.length ≤ sizeLine)
    (hR : ∀ H H' y a, R H y a → a ≠ D → (∀ b o, b ≠ D → H b = some o → H' b = some o) → R H' y a)
    (turn : ∀ (i : Nat) (y : α) (H' : Hp) (k : VK), ys[i]? = some y → Same H1 H' → (∀ H4 a, Same H' H4 → H' a = none → R H4 y a → k (.ref a) H4) → te ((wipe σ vs).set j (some (c y))) H' k)
    (hd : ∀ (H' : Hp) (as : List Addr), Same H1 H' → H' D = some (.lst (as.map V.ref)) → as.length = ys.length → (∀ (i : Nat) a y, as[i]? = some a → ys[i]? = some y → R H' y a ∧ a ≠ D ∧ H1 a = none) → Qd H') (hw : ∀ v, wipe ((wipe σ vs).set j (some v)) vs = wipe σ vs := by intro _; rfl) :
    ∃ W : Nat → Nat → Hp → Prop, (∃ m, W 0 m (upd H1 D (.lst []))) ∧ ∀ i m H, W i m H →
      (J.stop i H ∧ Qd H) ∨ (J.go i H ∧ ∃ Nx : Hp → Prop, (∀ H', Nx H' → ∃ m', m' < m ∧ W (i + 1) m' H') ∧ ∀ x H', J.yld i H x H' → gName j x (wipe σ vs) H' fun σ2 H2 => wipe σ2 vs = wipe σ vs ∧ tYes σ2 H2 fun b H3 =>
        if b = true then te σ2 H3 fun y H4 => ∃ acc, H4 D = some (.lst acc) ∧ acc.length < sizeLine ∧ Nx (upd H4 D (.lst (acc ++ [y]))) else Nx H3) := by
  refine lc_it w (fun i H' => ∃ as : List Addr, Same H1 H' ∧ H' D = some (.lst (as.map V.ref)) ∧ as.length = (ys.take i).length ∧ ∀ (l : Nat) a y, as[l]? = some a → (ys.take i)[l]? = some y → R H' y a ∧ a ≠ D ∧ H1 a = none) ⟨[], Same.new hD, upd_same, rfl, fun l a y z => (nomatch z)⟩ (fun i H' _ ⟨_, z, _⟩ => hG H' z) ?_ ?_
  · rintro i x H H' hi ⟨as, s1, d1, l1, r1⟩ ⟨rfl, hx⟩
    rw [List.getElem?_map] at hx
    cases e : ys[i]? with
    | none => rw [e] at hx; cases hx
    | some y =>
      rw [e] at hx
      obtain rfl := Option.some.inj hx
      have hil := (List.getElem?_eq_some_iff.mp e).1
      have ti : (ys.take i).length = i := by rw [List.length_take]; omega
      refine ⟨hw _, yes_ite (turn i y _ _ e s1 fun H4 a s4 na ra => ⟨_, s4 _ _ d1, ?_, as ++ [a], ?_, ?_, ?_, ?_⟩)⟩
      · rw [List.length_map, l1, ti]; omega
      · exact fun b o z => by
          have nb : b ≠ D := ne_of_none z hD
          rw [upd_ne nb]
          exact s4 _ _ (s1 _ _ z)
      · rw [upd_same, List.map_append]
        rfl
      · rw [List.length_append, l1, ti, List.length_take]; simp; omega
      · have naD : a ≠ D := fun e => by rw [e, d1] at na; cases na
        have k4 : ∀ b o, b ≠ D → H4 b = some o → upd H4 D (.lst (as.map V.ref ++ [V.ref a])) b = some o := fun b o nb z => by rw [upd_ne nb]; exact z
        intro l b z hb hz
        have et : ys.take (i + 1) = ys.take i ++ [y] := by rw [List.take_add_one, e]; rfl
        rw [et] at hz
        rcases Nat.lt_trichotomy l i with hl | hl | hl
        · rw [List.getElem?_append_left (by omega)] at hb hz
          obtain ⟨q1, q2, q3⟩ := r1 l b z hb hz
          refine ⟨hR _ _ _ _ q1 q2 fun c o nc h => k4 _ _ nc (s4 _ _ h), q2, q3⟩
        · subst hl
          rw [List.getElem?_append_right (by omega), l1, ti, Nat.sub_self] at hb
          rw [List.getElem?_append_right (by omega), ti, Nat.sub_self] at hz
          cases Option.some.inj hb
          cases Option.some.inj hz
          refine ⟨hR _ _ _ _ ra naD k4, naD, ?_⟩
          cases e1 : H1 a with
          | none => rfl
          | some o => rw [s1 _ _ e1] at na; cases na
        · rw [List.getElem?_eq_none (by rw [List.length_append, l1, ti]; simp; omega)] at hb
          cases hb
  · rintro H ⟨as, s1, d1, l1, r1⟩
    subst hn
    rw [List.take_length] at l1 r1
    exact hd H as s1 d1 l1 r1
end
/-- over a dict's keys, by their texts -/
theorem walk_kT {β : Type} {g : β → V} {l : List (PySem.Str × β)} {d : Addr} {o : Obj} : Walk (Itk d o (kvT g l)) (keysT l).length (fun H => H d = some (.frz o (.dK (kvT g l)))) (YAt ((keysT l).map V.str)) := by
  have e : (kvT g l).length = (keysT l).length := by unfold kvT keysT; rw [List.length_map, List.length_map]
  rw [← e]
  refine walk_keys.mono (fun _ h => h) ?_
  rintro i H x H' hi _ ⟨rfl, k, v, hk, rfl⟩
  refine ⟨rfl, ?_⟩
  unfold kvT at hk
  rw [List.getElem?_map] at hk
  unfold keysT
  rw [List.getElem?_map, List.getElem?_map]
  cases e2 : l[i]? with
  | none => rw [e2] at hk; cases hk
  | some z =>
    rw [e2] at hk
    cases Option.some.inj hk
    rfl
theorem walk_rng {lo : Int} {n : Nat} : Walk (Itr lo n) n (fun _ => True) (YAt ((List.range n).map fun i => V.int (lo + (i : Nat)))) := by
  refine walk_range.mono (fun _ h => h) ?_
  rintro i H x H' hi _ ⟨rfl, rfl⟩
  refine ⟨rfl, ?_⟩
  rw [List.getElem?_map, List.getElem?_range hi]
  rfl
theorem map_bl (p : α → Bool) (l : List α) : l.map (fun x => V.bl (p x)) = (l.map p).map V.bl := by rw [List.map_map]; rfl
theorem all_map_id {α : Type} (p : α → Bool) (l : List α) : (l.map p).all id = l.all p := by rw [List.all_map]; rfl
theorem any_map_id {α : Type} (p : α → Bool) (l : List α) : (l.map p).any id = l.any p := by rw [List.any_map]; rfl
end Mc
namespace Mc
open PySem L2 PySem.Spec PyProof.Rows FbM
/-! ### sorted(d, key=o.m), d a dict with text keys, m a method that gives an int and the key -/
/-- a method that is taken as a value -/
def CalB (P : Program) (w : World) (K : PySem.W.Frag) (mg : PySem.Str → Option Value) (base : Heap) (C : Addr) (k : Nat) (m : PySem.Str) (ps : List PySem.Str) (sp : Sp) : Prop :=
  ∃ (f : Addr) (fd : FuncData), BMeth K C m f ∧ Binds K fd ps [] ∧ FnOk P w K mg base CX0 k f fd ps sp
def kdM (kf : PySem.Str → Int) (x : PySem.Str) : PyData := .tuple [.int (kf x), .str x]
/-- what is asked of the method at each key -/
def RankOk (sp : Sp) (o : Addr) (kf : PySem.Str → Int) (ks : List PySem.Str) (H : Hp) : Prop :=
  ∀ x ∈ ks, ∀ H', Same H H' → sp [.ref o, .str x] H' (fun v H2 => ∃ p, v = .ref p ∧ H' p = none ∧ H2 = upd H' p (.tup [.int (kf x), .str x])) E0
/-- the heap with the object at k thrown away: the records behind a call of ours -/
def rid (h : Heap) (k : Addr) : Heap := h.update k fun _ => { cls := .none, data := .freed }
theorem rid_none {h : Heap} {k : Addr} : (rid h k).get? k = none := by
  by_cases hk : k < h.objs.size
  · unfold rid Heap.get?
    rw [Heap.objs_update_self, Array.getElem?_eq_getElem hk]
    rfl
  · refine Heap.get?_none_of_le ?_
    unfold rid
    rw [Heap.size_update]
    exact Nat.le_of_not_lt hk
theorem rid_ne {h : Heap} {k b : Addr} (n : b ≠ k) : (rid h k).get? b = h.get? b := Heap.get?_update_ne _ _ _ _ n
section
variable {X : Cx} {pins : List (Addr × Obj)} {σ : L2.St} {H : Hp} {s : Shared} {k : Nat} {g o q a kS : Addr} {fd : FuncData} {ps : List PySem.Str} {sp : Sp} {kf : PySem.Str → Int} {ks : List PySem.Str} {vs : List Value} {A : Around} {E : Value → Shared → Prop} {e1 : Nat} {P : PySem.Fin → Shared → Prop}
theorem tup_reads {h : Heap} {p : Addr} {H : Hp} {n : Int} {x : PySem.Str} (hok : HOk X.prog X.w H h) (e : H p = some (.tup [.int n, .str x])) : Reads h (.ref p) (.tuple [.int n, .str x]) [] := by
  obtain ⟨_, its, rv, ob, ho, hc, nn, hd⟩ := hok p _ e
  obtain ⟨v1, v2, rfl, r1, r2⟩ := vals2 rv
  obtain ⟨t1, rfl⟩ := r1
  obtain ⟨t2, rfl⟩ := r2
  exact .tuple ho hc hd (.cons (.int _ _) (.cons (.str _ _) .nil))
theorem km_rest (hr : Room k A) (hA : A.frames = some X.stack) (hb : Binds X.K fd ps []) (F : FnOk X.prog X.w X.K X.mg X.base CX0 k g fd ps sp) (I : Inv X pins σ H s) (hq : H q = some (.met g o)) (ra : Rec X pins a) (rk : Rec X pins kS) (na : H a = none) (nk : H kS = none)
    (hka : kS ≠ a) (ek : s.heap.get? kS = some (seqObj "list" #[] 0)) (ea : s.heap.get? a = some (seqObj "list" #[] e1)) (hv : StrsAre vs ks) (h64 : ks.length < 64) (turn : RankOk sp o kf ks H)
    (done : ∀ s' H' out c, Inv X pins σ H' s' → Same H H' → H' a = none → s'.heap.get? a = some (seqObj "list" (List.toArray out) c) → PySem.W.KeyedOut false (ks.map (kdM kf)) vs out → P (.done (.ret .none)) s') :
    wpAny (model X.prog X.w) A (ksk_rest a (.ref q) false vs.toArray e1 (.ref kS)) P E s := by
  have hlen : vs.length = ks.length := hv.len_eq
  have h16 : vs.length ≤ sizeLine := by rw [hlen, sizeLine_eq]; omega
  unfold ksk_rest
  refine wpAny_bind (wpAny_rule ?_)
  rw [List.forIn_toArray]
  refine wpAny_bind (ksk_fold (fun i s' => ∃ H' kA e, Inv X pins σ H' s' ∧ Same H H' ∧ H' a = none ∧ H' kS = none ∧ s'.heap.get? kS = some (seqObj "list" kA e) ∧ s'.heap.get? a = some (seqObj "list" #[] e1) ∧
    PySem.W.EachIs (fun v x => ∃ p, v = Value.ref p ∧ H' p = some (.tup [.int (kf x), .str x])) kA.toList (ks.take i)) vs 0 s ⟨H, #[], 0, I, fun _ _ h => h, na, nk, ek, ea, by rw [List.take_zero]; exact PySem.W.EachIs.nil⟩ ?step ?done)
  case step =>
    rintro j x s' hx ⟨H', kA, e, I', sm, na', nk', ek', ea', hk⟩
    rw [Nat.zero_add] at hk ⊢
    obtain ⟨y, t, rfl, hy⟩ := hv.item j x hx
    have hz : kA.size ≤ ks.length := by
      have h1 := hk.length
      rw [Array.length_toList, List.length_take] at h1
      omega
    have h64' : kA.size < 64 := by omega
    have em := sm q _ hq
    have e0 := I'.env0
    have e1' : Env0 X.prog X.w X.K X.mg X.base A X.stack s' H' := ⟨hA, e0.mod, e0.bs, e0.bsz, e0.funs, e0.frf, e0.hok, e0.bare⟩
    have D := turn y (List.mem_of_getElem? hy) H' sm
    have hl2 : ([Value.ref o, .str y t] ++ []).length = ps.length := F.len _ _ _ _ D
    have bt := hb s' [Value.ref o, .str y t] I'.kIn hl2
    rw [List.append_nil] at bt
    refine wpAny_bind (wpAny_attempt ?_)
    refine wpAny_call (PySem.W.method_call (I'.hok q _ em) (codeAny_mono (F.run A X.stack s' H' ⟨[.ref o, .str y t], []⟩ _ [.ref o, .str y] _ E0 hr e1' bt (.cons rfl (.cons ⟨t, rfl⟩ .nil)) D) fun rr s2 hrr => ?_))
    cases rr with
    | error er => exact False.elim hrr
    | ok fl =>
      cases fl with
      | next => exact False.elim hrr
      | brk => exact False.elim hrr
      | cont => exact False.elim hrr
      | ret v =>
        obtain ⟨v', H2, os, bare, un, hok, rv', p, ev, hp, eH⟩ := (show CE X.stack X.prog X.w H' s' _ v s2 from hrr)
        subst ev
        cases rv'
        have I2 : Inv X pins σ H2 s2 := I'.call' os un hok bare (fun b z => absurd z List.not_mem_nil)
        have sm2 : Same H' H2 := fun b u e => by
          rw [eH, upd_ne (ne_of_none e hp)]
          exact e
        have keep : ∀ {b : Addr} {ob : Obj}, Rec X pins b → H' b = none → s'.heap.get? b = some ob → s2.heap.get? b = some ob := fun rb ub eb => un.keep _ _ eb ub rb.fr List.not_mem_nil
        have fr2 : ∀ {b : Addr} {ob : Obj}, H' b = none → s'.heap.get? b = some ob → H2 b = none := fun ub eb => un.free _ _ eb ub List.not_mem_nil
        have nk2 := keep rk nk' ek'
        have na2 := keep ra na' ea'
        have uk2 := fr2 nk' ek'
        have ua2 := fr2 na' ea'
        try dsimp only
        obtain ⟨h2, g2, d2, t2, o2⟩ := s2
        obtain ⟨c2, hc2⟩ : ∃ c2, (h2.update kS (Obj.mapSeq (·.push (.ref p)))).get? kS = some (seqObj "list" (kA.push (.ref p)) c2) := ⟨_, get?_update_seq nk2 (·.push (.ref p))⟩
        have sb : Heap.SameBut kS h2 (h2.update kS (Obj.mapSeq (·.push (.ref p)))) := Heap.SameBut.update ..
        refine wpAny_bind (listUpdate_at nk2 rfl ?_ (by rw [sizeLine_eq]; omega) (by rw [Array.size_push, sizeLine_eq]; omega))
        refine wpAny_pure ⟨rfl, H2, kA.push (.ref p), c2, rk.turn (t' := t2) I2 uk2 fun c ob hc e => sb.extBut c ob hc e, fun b u e => sm2 b u (sm b u e), ua2, uk2, hc2, sb.extBut _ _ hka.symm na2, ?_⟩
        have ek3 : ks.take (j + 1) = ks.take j ++ [y] := by rw [List.take_add_one, hy]; rfl
        have ea3 : (kA.push (Value.ref p)).toList = kA.toList ++ [.ref p] := by simp
        rw [ek3, ea3]
        refine PySem.W.each_snoc ⟨p, rfl, by rw [eH, upd_same]⟩ (hk.mono fun u d z => ?_)
        obtain ⟨p', ep, z⟩ := z
        exact ⟨p', ep, sm2 _ _ z⟩
  case done =>
    rintro s' ⟨H', kA, e, I', sm, na', nk', ek', ea', hk⟩
    have hk' : PySem.W.EachIs (fun v k => ∃ as, Reads s'.heap v k as) kA.toList (ks.map (kdM kf)) := by
      have e3 : ks.take (0 + vs.length) = ks := List.take_of_length_le (by omega)
      rw [e3] at hk
      refine PySem.W.each_map (kdM kf) (hk.mono fun v x z => ?_)
      obtain ⟨p, rfl, z⟩ := z
      exact ⟨[], tup_reads I'.hok z⟩
    have hsz : kA.size = vs.length := by
      have h1 := hk'.length
      rw [Array.length_toList, List.length_map] at h1
      omega
    refine wpAny_bind (listItems_at ek' rfl ?_)
    have hal : PySem.W.AllAlike (ks.map (kdM kf)) := PySem.W.AllAlike.of fun _ _ => by simp [kdM, PySem.W.alike, PySem.W.alikeAll]
    refine PySem.W.keyH_end (κ := PySem.W.dataKind s'.heap (ks.map (kdM kf))) (h₁ := rid s'.heap kS) (b := false) (fun b ob hb z => ?_) rid_none ek' ea' hka (PySem.W.SortsAt.data hk' hal (PySem.W.Sortable.tuples fun _ => ⟨_, _, rfl⟩) ?_) hsz h16 fun h' tk c kp hD => ?_
    · by_cases hbk : b = kS
      · subst hbk
        rw [rid_none] at z
        cases z
      · exact (rid_ne hbk).symm.trans z
    · intro d hd
      obtain ⟨x, _, rfl⟩ := List.mem_map.mp hd
      have h2 : (kdM kf x).depth = 1 := by simp [kdM, PyData.depth, PyData.depthAll]
      have := hr.units
      omega
    · have keep : ∀ b ob, b ≠ a → b ≠ kS → s'.heap.get? b = some ob → h'.get? b = some ob := fun b ob ha hk z => kp b ob ha ((rid_ne hk).trans z)
      have nb : ∀ {b u}, H' b = some u → b ≠ a ∧ b ≠ kS := fun {b u} z => ⟨fun e => (by rw [e, na'] at z; cases z), fun e => (by rw [e, nk'] at z; cases z)⟩
      refine done _ H' (PySem.W.sortVals (PySem.W.dataKind s'.heap (ks.map (kdM kf))) false kA.toList vs) c ?_ sm na' hD ⟨s'.heap, kA.toList, hal, rfl, hk'⟩
      obtain ⟨h1, g1, d1, t1, o1⟩ := s'
      refine I'.call' (ch := [a, kS]) rfl ⟨fun b ob z n _ hx => ?_, fun b ob z n _ hx => ⟨ob.slots, ?_⟩, fun b ob z n hx => n, fun b ob z hx => ⟨ob, ?_⟩, fun b xs z => z, fun b ob u z => z, fun b pz z => ⟨#[], by rw [z]; simp⟩⟩ (fun b u z => ?_) I'.bare fun b hb => ?_
      · exact keep b ob (fun e => hx (by simp [e])) (fun e => hx (by simp [e])) z
      · exact keep b ob (fun e => hx (by simp [e])) (fun e => hx (by simp [e])) z
      · exact keep b ob (fun e => hx (by simp [e])) (fun e => hx (by simp [e])) z
      · refine (I'.hok b u z).stay (fun cc v hc q => ?_) (fun _ q => q) fun _ _ q => q
        rcases hc with e | e
        · rw [e] at q ⊢
          exact keep b v (nb z).1 (nb z).2 q
        · exact keep cc v (nb e).1 (nb e).2 q
      · rcases List.mem_cons.mp hb with e | e
        · subst e
          exact ⟨.inr ra.ge, ra.nl, ra.ce, ra.pn⟩
        · obtain rfl := List.mem_singleton.mp e
          exact ⟨.inr rk.ge, rk.nl, rk.ce, rk.pn⟩
/-- what lies raw is named -/
theorem adopt {ob : HO} (I : Inv X pins σ H s) (ra : Rec X pins a) (na : H a = none) (new : ObjOk X.prog X.w (upd H a ob) s.heap a ob) : Inv X pins σ (upd H a ob) s := by
  have ne : ∀ {b u}, H b = some u → b ≠ a := fun {b u} z e => by rw [e, na] at z; cases z
  refine I.call' (ch := [a]) rfl ⟨fun b u z _ _ _ => z, fun b u z _ _ _ => ⟨u.slots, z⟩, fun b u z n hx => ?_, fun b u z _ => ⟨u, z⟩, fun b xs z => ?_, fun b u v z => ?_, fun b pz z => ⟨#[], ?_⟩⟩ (fun b u z => ?_) I.bare fun b hb => ?_
  · rw [upd_ne fun e => hx (by simp [e])]
    exact n
  · rw [upd_ne (ne z)]
    exact z
  · rw [upd_ne (ne z)]
    exact z
  · rw [upd_ne (ne z), z]
    simp
  · by_cases e : b = a
    · subst e
      rw [upd_same] at z
      cases z
      exact new
    · rw [upd_ne e] at z
      exact (I.hok b u z).stay (fun _ _ _ q => q) (fun c q => by rw [upd_ne (ne q)]; exact q) fun c xs q => by rw [upd_ne (ne q)]; exact q
  · obtain rfl := List.mem_singleton.mp hb
    exact ⟨.inr ra.ge, ra.nl, ra.ce, ra.pn⟩
theorem each_vals : ∀ {vs : List Value} {ys : List PySem.Str}, PySem.W.EachIs (fun v x => ∃ t, v = Value.str x t) vs ys → Vals (ys.map V.str) vs
  | _, _, .nil => .nil
  | _, _, .cons ⟨t, e⟩ r => .cons ⟨t, e⟩ (each_vals r)
theorem each_strs : ∀ {vs : List Value} {ys : List PySem.Str}, StrsAre vs ys → PySem.W.EachIs (fun v x => ∃ t, v = Value.str x t) vs ys
  | _, _, .nil => .nil
  | _, _, .cons y t r => .cons ⟨t, rfl⟩ (each_strs r)
/-- the order of the keys: the less number first, of one number by name -/
def rkLe (kf : PySem.Str → Int) (x y : PySem.Str) : Prop := kf x < kf y ∨ (kf x = kf y ∧ ¬ ltN y x)
theorem kdM_le {x y : PySem.Str} : PySem.W.dataLe false (kdM kf) x y = true ↔ rkLe kf x y := by
  show (!PySem.W.dataLt (kdM kf y) (kdM kf x)) = true ↔ _
  unfold kdM
  rw [PySem.W.dataLt_pair (by simp [PySem.W.alike]) (by simp [PySem.W.alike]), PySem.W.dataLt_int, PySem.W.dataLt_str]
  unfold rkLe ltN
  simp only [PyData.eqv, beq_iff_eq]
  by_cases h1 : kf y = kf x
  · rw [if_pos h1]
    by_cases h2 : y = x
    · subst h2
      simp
    · simp [h2, h1]
  · rw [if_neg h1]
    have : ¬ kf x = kf y := fun z => h1 z.symm
    simp only [Bool.not_eq_true', decide_eq_false_iff_not, this, false_and, or_false]
    omega
theorem kdM_sorted (ks : List PySem.Str) : (ks.mergeSort (PySem.W.dataLe false (kdM kf))).Pairwise (rkLe kf) := by
  refine List.Pairwise.imp (fun {a b} z => kdM_le.mp z) (List.pairwise_mergeSort (fun a b c h1 h2 => ?_) (fun a b => ?_) ks)
  · rw [kdM_le] at *
    unfold rkLe ltN at *
    rcases h1 with h1 | ⟨h1, h1'⟩ <;> rcases h2 with h2 | ⟨h2, h2'⟩
    · exact .inl (by omega)
    · exact .inl (by omega)
    · exact .inl (by omega)
    · exact .inr ⟨by omega, List.not_lt.mpr (List.le_trans (List.not_lt.mp h1') (List.not_lt.mp h2'))⟩
  · rw [Bool.or_eq_true, kdM_le, kdM_le]
    unfold rkLe ltN
    by_cases e : kf a = kf b
    · rcases List.le_total a.cps.toList b.cps.toList with h | h
      · exact .inl (.inr ⟨e, List.not_lt.mpr h⟩)
      · exact .inr (.inr ⟨e.symm, List.not_lt.mpr h⟩)
    · omega
theorem sortedKM (hcalm : X.calm = true) (hr : Room k X.A.in1.in1) (hb : Binds X.K fd ps []) (F : FnOk X.prog X.w X.K X.mg X.base CX0 k g fd ps sp) {d : Addr} {kvs : List (Key × V)} {Q : VK} (I : Inv X pins σ H s) (hd : Rd H d (.dK kvs)) (hks : kvs.map (·.1) = ks.map Sum.inr) (h64 : ks.length < 64)
    (hq : H q = some (.met g o)) (turn : RankOk sp o kf ks H) (fin : ∀ (ys : List PySem.Str) p H', Same H H' → ys.Perm ks → ys.Pairwise (rkLe kf) → H' p = none → Q (.ref p) (upd H' p (.lst (ys.map V.str)))) :
    wpAny (model X.prog X.w) X.A (call (.builtin "sorted") [.ref d] [(PySem.Str.ofString "key", .ref q)]) (EP X pins σ Q) X.xe s := by
  obtain ⟨z, lo, vs, rel, dd⟩ := dk_rd I.hok hd
  obtain ⟨ep, hat⟩ := dd.dictAt
  have hkeys : vs.map (·.1) = ks.map Sum.inr := rel.keys.symm.trans hks
  have hl : vs.length = ks.length := by
    have e := congrArg List.length hkeys
    rw [List.length_map, List.length_map] at e
    exact e
  have h16 : vs.length ≤ sizeLine := by rw [hl, sizeLine_eq]; omega
  refine call_function_entry_kw kind_sorted plain_sorted entry_sorted (ksk_s1 _ _) ?_
  unfold Builtin.«sorted»
  refine wpAny_bind (m := checkCount "sorted" 1 1 _) (wpAny_pure ?_)
  refine wpAny_bind (PySem.W.kdu_collect (A := X.A.in1) (PySem.W.kdl_dict (knd := mixKind X.prog X.w) (kvs := vs) (ep := ep) lo) (I.ok.hd hcalm) hat h16 fun h1 tk acc hk hacc => ?_)
  have hal : acc.toList.length = ks.length := by rw [Array.length_toList, hacc.1, hl]
  have hS : StrsAre acc.toList ks := strs_at hal fun j v e => by
    obtain ⟨kx, x, w1, w2⟩ := hacc.2 j v (by rw [← Array.getElem?_toList]; exact e)
    have w3 : (vs.map (·.1))[j]? = some kx := by rw [List.getElem?_map, w1]; all_goals rfl
    rw [hkeys, List.getElem?_map] at w3
    cases w4 : ks[j]? with
    | none => rw [w4] at w3; cases w3
    | some y =>
      rw [w4] at w3
      obtain rfl : Sum.inr y = kx := Option.some.inj w3
      obtain ⟨t, ev⟩ := Value.isStrOf_shape (x := y) (v := v) w2
      exact ⟨y, t, rfl, ev⟩
  have I1 : Inv X pins σ H { s with heap := h1, toks := tk } := I.kept hk
  refine wpAny_bind (wpAny_newList ?_ (by rw [hal, sizeLine_eq]; omega))
  have hoL : (h1.push (seqObj "list" acc.toList.toArray 0)).get? h1.objs.size = some (seqObj "list" acc.toList.toArray 0) := Heap.get?_push_size _ rfl
  have I2 : Inv X pins σ H { s with heap := h1.push (seqObj "list" acc.toList.toArray 0), toks := tk } := I1.kept (t' := tk) fun b u e => Heap.get?_push_of_some _ e
  have ra : Rec X pins h1.objs.size := rec_new I1 (Nat.le_refl _)
  have na : H h1.objs.size = none := I1.hok.fresh (Nat.le_refl _)
  show wpAny _ _ _ _ _ { s with heap := h1.push (seqObj "list" acc.toList.toArray 0), toks := tk }
  refine wpAny_bind (wpAny_holding (wpAny_call_entry_kw slot_list_sort ⟨_, hoL, rfl⟩ entry_list_sort ?body (ksk_l1 _ _)))
  case body =>
    rw [ksk_t1]
    unfold ksk_tree
    refine wpAny_bind (listItems_at hoL rfl ?_)
    have hz : acc.toList.toArray.size ≤ sizeLine := by rw [List.size_toArray, hal, sizeLine_eq]; omega
    refine wpAny_bind (listUpdate_at hoL rfl ?_ hz (Nat.zero_le _))
    obtain ⟨e1, ho1⟩ : ∃ e1, ((h1.push (seqObj "list" acc.toList.toArray 0)).update h1.objs.size (Obj.mapSeq fun _ => (#[] : Array Value))).get? h1.objs.size = some (seqObj "list" #[] e1) := ⟨_, get?_update_seq hoL fun _ => #[]⟩
    refine wpAny_bind (seqEpoch_at ho1 rfl ?_)
    refine wpAny_bind (wpAny_newTuple ?_ (by show acc.toList.length ≤ _; rw [hal, sizeLine_eq]; omega))
    refine wpAny_bind (wpAny_newList ?_ (Nat.zero_le _))
    refine wpAny_holding ?_
    have sb : Heap.SameBut h1.objs.size (h1.push (seqObj "list" acc.toList.toArray 0)) ((h1.push (seqObj "list" acc.toList.toArray 0)).update h1.objs.size (Obj.mapSeq fun _ => (#[] : Array Value))) := Heap.SameBut.update ..
    have I3 := ra.turn (t' := tk) I2 na fun c ob hc e => sb.extBut c ob hc e
    have I4 := I3.kept (t' := tk) fun b u e => Heap.get?_push_of_some (seqObj "tuple" acc.toList.toArray 0) e
    have I5 := I4.kept (t' := tk) fun b u e => Heap.get?_push_of_some (seqObj "list" #[] 0) e
    have lt1 : h1.objs.size < (((h1.push (seqObj "list" acc.toList.toArray 0)).update h1.objs.size (Obj.mapSeq fun _ => (#[] : Array Value))).push (seqObj "tuple" acc.toList.toArray 0)).objs.size := by
      rw [size_push', Heap.size_update, size_push']
      omega
    refine km_rest (fd := fd) (ps := ps) (sp := sp) (k := k) (g := g) (o := o) (kf := kf) (ks := ks) hr I.ok.frames hb F I5 hq ra (rec_new I4 (Nat.le_refl _)) na (I4.hok.fresh (Nat.le_refl _)) (Nat.ne_of_gt lt1) (Heap.get?_push_size _ rfl)
      (Heap.get?_push_of_some _ (Heap.get?_push_of_some _ ho1)) hS h64 turn fun s' H' out c J sm na' hD ko => ?_
    have eo := PySem.W.keyedOut_each (kdM kf) ko (each_strs hS)
    have pm := List.mergeSort_perm ks (PySem.W.dataLe false (kdM kf))
    have hlo : (ks.mergeSort (PySem.W.dataLe false (kdM kf))).length ≤ sizeLine := by rw [pm.length_eq, sizeLine_eq]; omega
    refine ⟨_, rfl, wpAny_pure ⟨_, rfl, .ref h1.objs.size, upd H' h1.objs.size (.lst ((ks.mergeSort (PySem.W.dataLe false (kdM kf))).map V.str)), adopt J ra na' ⟨?_, out, c, each_vals eo, hD⟩, rfl, fin _ _ H' sm pm (kdM_sorted ks) na'⟩⟩
    rw [List.length_map]
    exact hlo
end
/-- sorted(e, key=o.m) -/
def tSrtM (C : Addr) (m : PySem.Str) (sp : Sp) (ta to : TE) : TE := fun σ H Q => ta σ H fun x H1 => to σ H1 fun y H2 => ∃ (d a dx : Addr) (kvs : List (Key × V)) (fs : List (PySem.Str × V)) (ks : List PySem.Str) (kf : PySem.Str → Int), x = .ref d ∧ y = .ref a ∧ H2 a = some (.ins C dx fs) ∧ fs.lookup m = none ∧
  Rd H2 d (.dK kvs) ∧ kvs.map (·.1) = ks.map Sum.inr ∧ ks.length < 64 ∧ RankOk sp a kf ks H2 ∧ ∀ (ys : List PySem.Str) p H', Same H2 H' → ys.Perm ks → ys.Pairwise (rkLe kf) → H' p = none → Q (.ref p) (upd H' p (.lst (ys.map V.str)))
section
variable {X : Cx} {k : Nat} {C : Addr} {m : PySem.Str} {ps : List PySem.Str} {sp : Sp} {e o : Expr} {ta to : TE} {p pos apos kpos : Pos}
theorem pe_srtM (hcalm : X.calm = true) (cl : Cls X.K C) (c : CalB X.prog X.w X.K X.mg X.base C k m ps sp) (hr : Room (k + 2) X.A) (hg : Gl X "sorted") (hm : X.mg "sorted" = none) (he : PE X e ta) (ho : PE X o to)
    (hs1 : starEach [e] X.env = (false, eval e X.env) :: starEach [] X.env := by rfl) (hb : attributeBase o m X.env (eval o X.env) = eval o X.env := by rfl)
    (hst : backTo pos (starEach [e] X.env) = (false, eval e X.env) :: backTo pos (starEach [] X.env) := by rfl) (hpl : (backTo pos (starEach [e] X.env)).any (·.1) = false := by rfl)
    (hall : (backToKw pos (keywordEach [⟨some "key", .Attribute o m apos, kpos⟩] X.env)).all (·.1.isSome) = true := by rfl) (hno : (backToKw pos (keywordEach [⟨some "key", .Attribute o m apos, kpos⟩] X.env)).any (·.1.isNone) = false := by rfl)
    (hks : (backToKw pos (keywordEach [⟨some "key", .Attribute o m apos, kpos⟩] X.env)).filterMap (·.1) = [PySem.Str.ofString "key"] := by rfl) :
    PE X (.Call (.Name "sorted" p) [e] [⟨some "key", .Attribute o m apos, kpos⟩] pos) (tSrtM C m sp ta to) := by
  obtain ⟨g, fd, B, hbd, F⟩ := c
  have rule : CallRK X (.builtin "sorted") [PySem.Str.ofString "key"] (fun vs zs H Q => ∃ (d q a : Addr) (kvs : List (Key × V)) (ks : List PySem.Str) (kf : PySem.Str → Int), vs = [.ref d] ∧ zs = [.ref q] ∧ H q = some (.met g a) ∧
      Rd H d (.dK kvs) ∧ kvs.map (·.1) = ks.map Sum.inr ∧ ks.length < 64 ∧ RankOk sp a kf ks H ∧ ∀ (ys : List PySem.Str) p H', Same H H' → ys.Perm ks → ys.Pairwise (rkLe kf) → H' p = none → Q (.ref p) (upd H' p (.lst (ys.map V.str)))) := by
    intro pins s σ H vs zs us ws Q I r rz h
    obtain ⟨d, q, a, kvs, ks, kf, rfl, rfl, hq, hd, hk, h64, tu, fin⟩ := h
    obtain rfl := Vals.ref1 r
    obtain rfl := Vals.ref1 rz
    exact sortedKM hcalm hr.in1.in1 hbd F I hd hk h64 hq tu fin
  refine ⟨fun pins s σ H Q I h => ?_⟩
  refine wpAny_Call_Name_kw (ld_blt I hg hm rfl ?_ (by decide) (by decide))
  show wpAny _ _ (callWith pos (.builtin "sorted") [] _ _) _ _ _
  refine callWith_kw (thn ((pa_cons he pa_nil hs1).run pos pins s σ H (fun vs H1 => match vs with
    | [x] => to σ H1 fun y H2 => ∃ (d a dx : Addr) (kvs : List (Key × V)) (fs : List (PySem.Str × V)) (ks : List PySem.Str) (kf : PySem.Str → Int), x = .ref d ∧ y = .ref a ∧ H2 a = some (.ins C dx fs) ∧ fs.lookup m = none ∧ Rd H2 d (.dK kvs) ∧ kvs.map (·.1) = ks.map Sum.inr ∧
        ks.length < 64 ∧ RankOk sp a kf ks H2 ∧ ∀ (ys : List PySem.Str) p H', Same H2 H' → ys.Perm ks → ys.Pairwise (rkLe kf) → H' p = none → Q (.ref p) (upd H' p (.lst (ys.map V.str)))
    | _ => False) I h) fun us s1 hu => ?_) hst hpl hall hno
  obtain ⟨vs, H1, I1, r1, q1⟩ := hu
  match vs, q1 with
  | [x], q1 =>
    refine wpAny_evalAll_cons (wpAny_bind (attr_of hb (thn (ho.run pins s1 σ H1 _ I1 q1) fun u s2 hu => ?_)))
    obtain ⟨y, H2, I2, r2, d, a, dx, kvs, fs, ks, kf, rfl, rfl, ea, l, hd, hk, h64, tu, fin⟩ := hu
    cases r2
    refine getbound_ok I2 ea cl B l fun q s3 hq I3 => wpAny_bind (wpAny_standAt (wpAny_pure ?_))
    refine wpAny_evalAll_nil ?_
    rw [hks]
    obtain rfl := Vals.ref1 r1
    have sm : Same H2 (upd H2 q (.met g a)) := fun b u e => by rw [upd_ne (ne_of_none e hq)]; exact e
    exact sortedKM hcalm hr.in1.in1 hbd F I3 (hd.elim (fun z => .inl (sm _ _ z)) fun ⟨ob, z⟩ => .inr ⟨ob, sm _ _ z⟩) hk h64 upd_same (fun x hx H' k => tu x hx H' fun b u e => k b u (sm b u e)) fun ys p H' k => fin ys p H' fun b u e => k b u (sm b u e)
end
end Mc
namespace Mc
open PySem L2 PySem.Spec PyProof.Rows
/-! < and <= of pairs (a number, a text) -/
section
variable {X : Cx}
def rPair (R : (PySem.Str → Int) → PySem.Str → PySem.Str → Prop) : R2 := fun x y H Q => ∃ (a b : Addr) (kf : PySem.Str → Int) (s t : PySem.Str), x = .ref a ∧ y = .ref b ∧ H a = some (.tup [.int (kf s), .str s]) ∧ H b = some (.tup [.int (kf t), .str t]) ∧ ∀ v : Bool, (v = true ↔ R kf s t) → Q (.bl v) H
theorem kdM_alike (kf : PySem.Str → Int) (s t : PySem.Str) : PySem.W.alike (kdM kf s) (kdM kf t) = true := by simp [kdM, PySem.W.alike, PySem.W.alikeAll]
theorem kdM_depth (kf : PySem.Str → Int) (s : PySem.Str) : (kdM kf s).depth = 1 := by simp [kdM, PyData.depth, PyData.depthAll]
theorem op_leP (hu : X.A.units + 1 < cLine) : OpR X (compareOp .LtE) (rPair rkLe) := by
  intro pins s σ H x y v u Q I rx ry h
  obtain ⟨a, b, kf, p, q, rfl, rfl, ha, hb, k⟩ := h
  cases rx
  cases ry
  refine PySem.W.le_data (tup_reads I.hok ha) (tup_reads I.hok hb) (kdM_alike kf p q) (by intro e; cases e) (by rw [show PyData.depth (.tuple [.int (kf p), .str p]) = 1 from kdM_depth kf p, show PyData.depth (.tuple [.int (kf q), .str q]) = 1 from kdM_depth kf q]; exact hu) ?_
  exact ⟨.bl _, H, I, rfl, k _ kdM_le⟩
theorem op_ltP (hu : X.A.units + 1 < cLine) : OpR X (compareOp .Lt) (rPair fun kf s t => ¬ rkLe kf t s) := by
  intro pins s σ H x y v u Q I rx ry h
  obtain ⟨a, b, kf, p, q, rfl, rfl, ha, hb, k⟩ := h
  cases rx
  cases ry
  refine PySem.W.lt_data (tup_reads I.hok ha) (tup_reads I.hok hb) (kdM_alike kf p q) (by intro e; cases e) (by rw [show PyData.depth (.tuple [.int (kf p), .str p]) = 1 from kdM_depth kf p, show PyData.depth (.tuple [.int (kf q), .str q]) = 1 from kdM_depth kf q]; exact hu) ?_
  refine ⟨.bl _, H, I, rfl, k _ ?_⟩
  have e : (!PySem.W.dataLt (kdM kf p) (kdM kf q)) = true ↔ rkLe kf q p := kdM_le
  show PySem.W.dataLt (kdM kf p) (kdM kf q) = true ↔ ¬ rkLe kf q p
  rw [← e]
  cases PySem.W.dataLt (kdM kf p) (kdM kf q) <;> simp
end
end Mc
namespace Mc
open PySem L2 PySem.Spec PyProof.Rows Evl
/-! ### what evaluates to what, further: fields, dicts, calls, comprehensions -/
theorem has_T {β : Type} {f : β → V} {l : List (PySem.Str × β)} {k : PySem.Str} : (valV (kvT f l) (Sum.inr k)).isSome = decide (k ∈ keysT l) := by
  cases e : getT l k with
  | none =>
    have h1 := getT_none.mp e
    have h2 : valV (kvT f l) (Sum.inr k) = none := by rw [val_T, e]; rfl
    rw [h2, decide_eq_false h1]
    rfl
  | some v =>
    have h1 : k ∈ keysT l := List.mem_map.mpr ⟨_, getT_in e, rfl⟩
    have h2 : valV (kvT f l) (Sum.inr k) = some (f v) := by rw [val_T, e]; rfl
    rw [h2, decide_eq_true h1]
    rfl
theorem dgetK {H : Hp} {a : Addr} {kvs : List (L2.Key × V)} {x : PySem.Str} (e : Rd H a (.dK kvs)) : DGet H a (.str x) (valV kvs (Sum.inr x)) := .inl ⟨kvs, Sum.inr x, e, rfl, rfl⟩
instance (f : PySem.Str → Int) (x y : PySem.Str) : Decidable (rkLe f x y) := by unfold rkLe ltN; exact inferInstance
theorem inV_str {x : PySem.Str} {xs : List PySem.Str} : inV (.str x) (xs.map V.str) = decide (x ∈ xs) := by
  unfold inV
  induction xs with
  | nil => rfl
  | cons y ys ih =>
    rw [List.map_cons, List.any_cons, ih]
    by_cases e : x = y
    · subst e
      have : eqV (V.str x) (V.str x) = true := by simp [eqV]
      simp [this]
    · have : eqV (V.str y) (V.str x) = false := by
        simp [eqV]
        exact fun z => e z.symm
      simp [this, e]
theorem flat_strs (xs : List PySem.Str) : (xs.map V.str).all flatV = true := by
  rw [List.all_map, List.all_eq_true]
  exact fun x _ => rfl
section
variable {K : PySem.W.Frag} {σ : L2.St} {H H' : Hp} {ta tb te tx to td ty tl : TE} {t u : TT} {x y z v : V} {r : R2}
theorem EvU.mono {xs : List V} (e : Ex H H') (h : EvU te σ H xs) : EvU te σ H' xs := fun H1 a Q q => h H1 (e.trans a) Q q
theorem ev_fld {p C dx : Addr} {fs : List (PySem.Str × V)} {f : PySem.Str} (h : Ev to σ H (.ref p)) (hp : H p = some (.ins C dx fs)) (c : Cls K C) (n : NoAttr K C f) (l : fs.lookup f = some v) : Ev (tFld K to f) σ H v := fun H1 e Q q =>
  h H1 e _ fun H2 e2 => ⟨p, C, dx, fs, v, rfl, e2 _ _ (e _ _ hp), c, n, l, q H2 e2⟩
theorem ev_dget {β : Type} {f : β → V} {l : List (PySem.Str × β)} {b : β} {d : Addr} {k : PySem.Str} (hd : Ev td σ H (.ref d)) (hk : Ev ty σ H (.str k)) (h : Rd H d (.dK (kvT f l))) (e : getT l k = some b) : Ev (tDGet td ty) σ H (f b) := fun H1 e1 Q q =>
  hd H1 e1 _ fun H2 e2 => hk H2 (e1.trans e2) _ fun H3 e3 => ⟨d, f b, rfl, dgetT (ex_rd ((e1.trans e2).trans e3) h) e, q H3 (e2.trans e3)⟩
theorem ev_din {β : Type} {f : β → V} {l : List (PySem.Str × β)} {d : Addr} {k : PySem.Str} (hk : Ev ty σ H (.str k)) (hd : Ev td σ H (.ref d)) (h : Rd H d (.dK (kvT f l))) : Ev (tDIn ty td) σ H (.bl (decide (k ∈ keysT l))) := fun H1 e1 Q q =>
  hk H1 e1 _ fun H2 e2 => hd H2 (e1.trans e2) _ fun H3 e3 => ⟨d, _, rfl, dgetK (ex_rd ((e1.trans e2).trans e3) h), by rw [has_T]; exact q H3 (e2.trans e3)⟩
theorem ev_dnotin {β : Type} {f : β → V} {l : List (PySem.Str × β)} {d : Addr} {k : PySem.Str} (hk : Ev ty σ H (.str k)) (hd : Ev td σ H (.ref d)) (h : Rd H d (.dK (kvT f l))) : Ev (tDNotIn ty td) σ H (.bl (!decide (k ∈ keysT l))) := fun H1 e1 Q q =>
  hk H1 e1 _ fun H2 e2 => hd H2 (e1.trans e2) _ fun H3 e3 => ⟨d, _, rfl, dgetK (ex_rd ((e1.trans e2).trans e3) h), by rw [has_T]; exact q H3 (e2.trans e3)⟩
theorem isD_rd {d : Addr} {kvs : List (L2.Key × V)} (h : Rd H d (.dK kvs)) : IsD H d := by
  rcases h with h | ⟨o, h⟩
  · first | exact .inl ⟨_, .inl h⟩ | exact ⟨_, .inl h⟩ | exact .inl ⟨kvs, h⟩ | (unfold IsD; exact .inl ⟨_, Rd.of h⟩)
  · first | exact .inl ⟨_, .inr ⟨o, h⟩⟩ | exact ⟨_, .inr ⟨o, h⟩⟩ | (unfold IsD; exact .inl ⟨_, .inr ⟨o, h⟩⟩)
/-- d.get(k, x) -/
theorem ev_get2 {β : Type} {f : β → V} {l : List (PySem.Str × β)} {d : Addr} {k : PySem.Str} (hd : Ev td σ H (.ref d)) (hk : Ev ty σ H (.str k)) (hx : Ev tx σ H z) (h : Rd H d (.dK (kvT f l))) : Ev (tDGet2 td ty tx) σ H (((getT l k).map f).getD z) := fun H1 e1 Q q =>
  hd H1 e1 _ fun H2 e2 => ⟨d, rfl, isD_rd (ex_rd (e1.trans e2) h), hk H2 (e1.trans e2) _ fun H3 e3 => hx H3 ((e1.trans e2).trans e3) _ fun H4 e4 => ⟨_, dgetN (ex_rd (((e1.trans e2).trans e3).trans e4) h), q H4 ((e2.trans e3).trans e4)⟩⟩
theorem ev_all {bs : List Bool} (h : EvL te σ H (bs.map V.bl)) : Ev (tCB (rAll K) (tCons te tNil)) σ H (.bl (bs.all id)) := fun H1 e Q q =>
  h H1 e _ fun p H2 _ e2 h2 => ⟨p, bs, rfl, sq_of h2, q H2 e2⟩
theorem ev_any {bs : List Bool} (h : EvL te σ H (bs.map V.bl)) : Ev (tCB (rAny K) (tCons te tNil)) σ H (.bl (bs.any id)) := fun H1 e Q q =>
  h H1 e _ fun p H2 _ e2 h2 => ⟨p, bs, rfl, sq_of h2, q H2 e2⟩
theorem ev_sum {ns : List Int} (h : EvL te σ H (ns.map V.int)) : Ev (tCB (rSum K) (tCons te tNil)) σ H (.int ns.sum) := fun H1 e Q q =>
  h H1 e _ fun p H2 _ e2 h2 => ⟨p, ns, rfl, sq_of h2, q H2 e2⟩
theorem ev_lenT {p : Addr} {xs : List V} (ha : Ev ta σ H (.ref p)) (h : SqT K H p xs) : Ev (tCB (rLenS K) (tCons ta tNil)) σ H (.int (xs.length : Int)) := fun H1 e Q q =>
  ha H1 e _ fun H2 e2 => ⟨p, xs, rfl, Or.inr (ex_t (e.trans e2) h), q H2 e2⟩
theorem rv_inSL {neg : Bool} {p : Addr} {s : PySem.Str} {xs : List PySem.Str} (h : SqL K H p (xs.map V.str)) : RV (rIn K neg) (.str s) (.ref p) H (.bl (if neg then !decide (s ∈ xs) else decide (s ∈ xs))) := by
  rw [← inV_str]
  exact rv_inL h rfl (flat_strs _)
theorem rv_inST {neg : Bool} {p : Addr} {s : PySem.Str} {xs : List PySem.Str} (h : SqT K H p (xs.map V.str)) : RV (rIn K neg) (.str s) (.ref p) H (.bl (if neg then !decide (s ∈ xs) else decide (s ∈ xs))) := by
  rw [← inV_str]
  exact rv_inT h rfl (flat_strs _)
theorem ev_inSL {p : Addr} {s : PySem.Str} {xs : List PySem.Str} (ha : Ev ta σ H (.str s)) (hb : Ev tb σ H (.ref p)) (h : SqL K H p (xs.map V.str)) : Ev (tOp (rIn K false) ta tb) σ H (.bl (decide (s ∈ xs))) := ev_op ha hb (rv_inSL (neg := false) h)
theorem ev_niSL {p : Addr} {s : PySem.Str} {xs : List PySem.Str} (ha : Ev ta σ H (.str s)) (hb : Ev tb σ H (.ref p)) (h : SqL K H p (xs.map V.str)) : Ev (tOp (rIn K true) ta tb) σ H (.bl (!decide (s ∈ xs))) := ev_op ha hb (rv_inSL (neg := true) h)
theorem ev_inST {p : Addr} {s : PySem.Str} {xs : List PySem.Str} (ha : Ev ta σ H (.str s)) (hb : Ev tb σ H (.ref p)) (h : SqT K H p (xs.map V.str)) : Ev (tOp (rIn K false) ta tb) σ H (.bl (decide (s ∈ xs))) := ev_op ha hb (rv_inST (neg := false) h)
theorem ev_niST {p : Addr} {s : PySem.Str} {xs : List PySem.Str} (ha : Ev ta σ H (.str s)) (hb : Ev tb σ H (.ref p)) (h : SqT K H p (xs.map V.str)) : Ev (tOp (rIn K true) ta tb) σ H (.bl (!decide (s ∈ xs))) := ev_op ha hb (rv_inST (neg := true) h)
theorem ev_eqS {a b : PySem.Str} (ha : Ev ta σ H (.str a)) (hb : Ev tb σ H (.str b)) : Ev (tOp rEq ta tb) σ H (.bl (decide (a = b))) := ev_is (ev_op ha hb (rv_eq rfl)) (by simp)
theorem ev_neS {a b : PySem.Str} (ha : Ev ta σ H (.str a)) (hb : Ev tb σ H (.str b)) : Ev (tOp rNe ta tb) σ H (.bl (!decide (a = b))) := ev_is (ev_op ha hb (rv_ne rfl)) (by simp)
theorem ev_eqB {a b : Bool} (ha : Ev ta σ H (.bl a)) (hb : Ev tb σ H (.bl b)) : Ev (tOp rEq ta tb) σ H (.bl (decide (a = b))) := ev_is (ev_op ha hb (rv_eq rfl)) (by simp)
theorem ev_neB {a b : Bool} (ha : Ev ta σ H (.bl a)) (hb : Ev tb σ H (.bl b)) : Ev (tOp rNe ta tb) σ H (.bl (!decide (a = b))) := ev_is (ev_op ha hb (rv_ne rfl)) (by simp)
theorem ev_eqI {a b : Int} (ha : Ev ta σ H (.int a)) (hb : Ev tb σ H (.int b)) : Ev (tOp rEq ta tb) σ H (.bl (decide (a = b))) := ev_is (ev_op ha hb (rv_eq rfl)) (by simp)
theorem ev_neI {a b : Int} (ha : Ev ta σ H (.int a)) (hb : Ev tb σ H (.int b)) : Ev (tOp rNe ta tb) σ H (.bl (!decide (a = b))) := ev_is (ev_op ha hb (rv_ne rfl)) (by simp)
/-- a method that gives a value and changes nothing that stood -/
theorem ev_meth {p C dx : Addr} {fs : List (PySem.Str × V)} {m : PySem.Str} {sp : Sp} {dvs vs : List V} {E : XK} {tr : TA} (h : Ev to σ H (.ref p)) (hp : H p = some (.ins C dx fs)) (l : fs.lookup m = none) (ha : EvA tr σ H vs) (hs : SpV sp (.ref p :: (vs ++ dvs)) H z) : Ev (tMeth C m sp dvs E to tr) σ H z := fun H1 e Q q =>
  h H1 e _ fun H2 e2 => ⟨p, dx, fs, rfl, e2 _ _ (e _ _ hp), l, ha H2 (e.trans e2) _ fun H3 e3 => hs H3 ((e.trans e2).trans e3) Q (fun H4 e4 => q H4 ((e2.trans e3).trans e4)) E⟩
theorem ev_anyM {α : Type} {ys : List α} {p : α → Bool} (h : EvL te σ H (ys.map fun y => V.bl (p y))) : Ev (tCB (rAny K) (tCons te tNil)) σ H (.bl (ys.any p)) := by
  rw [map_bl] at h
  have := ev_any (K := K) h
  rw [any_map_id] at this
  exact this
theorem ev_allM {α : Type} {ys : List α} {p : α → Bool} (h : EvL te σ H (ys.map fun y => V.bl (p y))) : Ev (tCB (rAll K) (tCons te tNil)) σ H (.bl (ys.all p)) := by
  rw [map_bl] at h
  have := ev_all (K := K) h
  rw [all_map_id] at this
  exact this
theorem ev_sumM {α : Type} {ys : List α} {p : α → Int} (h : EvL te σ H (ys.map fun y => V.int (p y))) : Ev (tCB (rSum K) (tCons te tNil)) σ H (.int (ys.map p).sum) := by
  have e : (ys.map fun y => V.int (p y)) = (ys.map p).map V.int := by rw [List.map_map]; rfl
  rw [e] at h
  exact ev_sum h
/-- the first operand a new tuple -/
theorem ev_op1U {xs : List V} (ha : EvU ta σ H xs) (hb : Ev tb σ H y) (hr : ∀ p H1, H1 p = some (.tup xs) → Ex H H1 → RV r (.ref p) y H1 z) : Ev (tOp r ta tb) σ H z := fun H1 e Q q =>
  ha H1 e _ fun p H2 _ e2 hp => hb H2 (e.trans e2) _ fun H3 e3 => hr p H3 (e3 p _ hp) ((e.trans e2).trans e3) H3 (Ex.refl H3) Q fun H4 e4 => q H4 ((e2.trans e3).trans e4)
theorem rv_leP {p q : Addr} {kf : PySem.Str → Int} {s t : PySem.Str} (hp : H p = some (.tup [.int (kf s), .str s])) (hq : H q = some (.tup [.int (kf t), .str t])) : RV (rPair rkLe) (.ref p) (.ref q) H (.bl (decide (rkLe kf s t))) := fun H1 e Q k =>
  ⟨p, q, kf, s, t, rfl, rfl, e _ _ hp, e _ _ hq, fun v hv => by
    have : v = decide (rkLe kf s t) := by
      cases v with
      | true => exact (decide_eq_true (hv.mp rfl)).symm
      | false => exact (decide_eq_false fun z => by have := hv.mpr z; cases this).symm
    rw [this]
    exact k H1 (Ex.refl _)⟩
theorem rv_gt {i j : Int} : RV (rI0 fun a b => .bl (decide (a > b))) (.int i) (.int j) H (.bl (decide (i > j))) := rv_I0
/-! comprehensions as maps and filters -/
section
variable {α : Type} {ys : List α} {j : Nat} {vs : List Nat} {a : Addr}
theorem el_mL {c : α → V} (f : α → V) (hl : Ev tl σ H (.ref a)) (h : SqL K H a (ys.map c)) (hz : ys.length ≤ 100000) (turn : ∀ (i : Nat) y, ys[i]? = some y → ∀ H', Ex H H' → Ev te ((wipe σ vs).set j (some (c y))) H' (f y)) (hw : ∀ v, wipe ((wipe σ vs).set j (some v)) vs = wipe σ vs := by intro _; rfl) :
    EvL (tLc (iList K tl) (gName j) tYes te vs) σ H (ys.map f) := fun H1 e Q q => hl H1 e _ fun H2 e2 => ⟨a, rfl, ⟨_, ex_l (e.trans e2) h⟩, fun D hD =>
  lc_m (j := j) (c := c) (ys := ys) walk_list f (by rw [List.length_map]) hD (fun H' s => ex_l ((e.trans e2).trans s) h) (sz_of hz) (fun i y H' k hy s hk => turn i y hy H' ((e.trans e2).trans s) H' (Ex.refl _) k hk) (fun H' s hD' => q D H' (fresh_back e2 hD) (e2.trans s) hD') hw⟩
theorem el_mT {c : α → V} (f : α → V) (hl : Ev tl σ H (.ref a)) (h : SqT K H a (ys.map c)) (hz : ys.length ≤ 100000) (turn : ∀ (i : Nat) y, ys[i]? = some y → ∀ H', Ex H H' → Ev te ((wipe σ vs).set j (some (c y))) H' (f y)) (hw : ∀ v, wipe ((wipe σ vs).set j (some v)) vs = wipe σ vs := by intro _; rfl) :
    EvL (tLc (iTup K tl) (gName j) tYes te vs) σ H (ys.map f) := fun H1 e Q q => hl H1 e _ fun H2 e2 => ⟨a, rfl, ⟨_, ex_t (e.trans e2) h⟩, fun D hD =>
  lc_m (j := j) (c := c) (ys := ys) walk_tup f (by rw [List.length_map]) hD (fun H' s => ex_t ((e.trans e2).trans s) h) (sz_of hz) (fun i y H' k hy s hk => turn i y hy H' ((e.trans e2).trans s) H' (Ex.refl _) k hk) (fun H' s hD' => q D H' (fresh_back e2 hD) (e2.trans s) hD') hw⟩
/-- over a new list -/
theorem el_mN {c : α → V} (f : α → V) (hl : EvL tl σ H (ys.map c)) (hz : ys.length ≤ 100000) (turn : ∀ (i : Nat) y, ys[i]? = some y → ∀ H', Ex H H' → Ev te ((wipe σ vs).set j (some (c y))) H' (f y)) (hw : ∀ v, wipe ((wipe σ vs).set j (some v)) vs = wipe σ vs := by intro _; rfl) :
    EvL (tLc (iList K tl) (gName j) tYes te vs) σ H (ys.map f) := fun H1 e Q q => hl H1 e _ fun a H2 ha e2 h2 => ⟨a, rfl, ⟨_, sq_of h2⟩, fun D hD =>
  lc_m (j := j) (c := c) (ys := ys) walk_list f (by rw [List.length_map]) hD (fun H' s => sq_of (s _ _ h2)) (sz_of hz) (fun i y H' k hy s hk => turn i y hy H' ((e.trans e2).trans s) H' (Ex.refl _) k hk) (fun H' s hD' => q D H' (fresh_back e2 hD) (e2.trans s) hD') hw⟩
theorem el_fL {c : α → V} (p : α → Bool) (f : α → V) (hl : Ev tl σ H (.ref a)) (h : SqL K H a (ys.map c)) (hz : ys.length ≤ 100000) (test : ∀ (i : Nat) y, ys[i]? = some y → ∀ H', Ex H H' → EvT t ((wipe σ vs).set j (some (c y))) H' (p y))
    (turn : ∀ (i : Nat) y, ys[i]? = some y → p y = true → ∀ H', Ex H H' → Ev te ((wipe σ vs).set j (some (c y))) H' (f y)) (hw : ∀ v, wipe ((wipe σ vs).set j (some v)) vs = wipe σ vs := by intro _; rfl) :
    EvL (tLc (iList K tl) (gName j) t te vs) σ H ((ys.filter p).map f) := fun H1 e Q q => hl H1 e _ fun H2 e2 => ⟨a, rfl, ⟨_, ex_l (e.trans e2) h⟩, fun D hD =>
  lc_f (j := j) (c := c) (ys := ys) walk_list p f (by rw [List.length_map]) hD (fun H' s => ex_l ((e.trans e2).trans s) h) (sz_of hz) (fun i y H' k hy s hk => test i y hy H' ((e.trans e2).trans s) H' (Ex.refl _) k hk) (fun i y H' k hy hp s hk => turn i y hy hp H' ((e.trans e2).trans s) H' (Ex.refl _) k hk) (fun H' s hD' => q D H' (fresh_back e2 hD) (e2.trans s) hD') hw⟩
theorem el_fT {c : α → V} (p : α → Bool) (f : α → V) (hl : Ev tl σ H (.ref a)) (h : SqT K H a (ys.map c)) (hz : ys.length ≤ 100000) (test : ∀ (i : Nat) y, ys[i]? = some y → ∀ H', Ex H H' → EvT t ((wipe σ vs).set j (some (c y))) H' (p y))
    (turn : ∀ (i : Nat) y, ys[i]? = some y → p y = true → ∀ H', Ex H H' → Ev te ((wipe σ vs).set j (some (c y))) H' (f y)) (hw : ∀ v, wipe ((wipe σ vs).set j (some v)) vs = wipe σ vs := by intro _; rfl) :
    EvL (tLc (iTup K tl) (gName j) t te vs) σ H ((ys.filter p).map f) := fun H1 e Q q => hl H1 e _ fun H2 e2 => ⟨a, rfl, ⟨_, ex_t (e.trans e2) h⟩, fun D hD =>
  lc_f (j := j) (c := c) (ys := ys) walk_tup p f (by rw [List.length_map]) hD (fun H' s => ex_t ((e.trans e2).trans s) h) (sz_of hz) (fun i y H' k hy s hk => test i y hy H' ((e.trans e2).trans s) H' (Ex.refl _) k hk) (fun i y H' k hy hp s hk => turn i y hy hp H' ((e.trans e2).trans s) H' (Ex.refl _) k hk) (fun H' s hD' => q D H' (fresh_back e2 hD) (e2.trans s) hD') hw⟩
theorem el_fN {c : α → V} (p : α → Bool) (f : α → V) (hl : EvL tl σ H (ys.map c)) (hz : ys.length ≤ 100000) (test : ∀ (i : Nat) y, ys[i]? = some y → ∀ H', Ex H H' → EvT t ((wipe σ vs).set j (some (c y))) H' (p y))
    (turn : ∀ (i : Nat) y, ys[i]? = some y → p y = true → ∀ H', Ex H H' → Ev te ((wipe σ vs).set j (some (c y))) H' (f y)) (hw : ∀ v, wipe ((wipe σ vs).set j (some v)) vs = wipe σ vs := by intro _; rfl) :
    EvL (tLc (iList K tl) (gName j) t te vs) σ H ((ys.filter p).map f) := fun H1 e Q q => hl H1 e _ fun a H2 ha e2 h2 => ⟨a, rfl, ⟨_, sq_of h2⟩, fun D hD =>
  lc_f (j := j) (c := c) (ys := ys) walk_list p f (by rw [List.length_map]) hD (fun H' s => sq_of (s _ _ h2)) (sz_of hz) (fun i y H' k hy s hk => test i y hy H' ((e.trans e2).trans s) H' (Ex.refl _) k hk) (fun i y H' k hy hp s hk => turn i y hy hp H' ((e.trans e2).trans s) H' (Ex.refl _) k hk) (fun H' s hD' => q D H' (fresh_back e2 hD) (e2.trans s) hD') hw⟩
/-- over the keys of a dict that is locked already -/
theorem el_mK {β : Type} {g : β → V} {l : List (PySem.Str × β)} {o : Obj} (f : PySem.Str → V) (hl : Ev tl σ H (.ref a)) (h : H a = some (.frz o (.dK (kvT g l)))) (hz : l.length ≤ 100000) (turn : ∀ (i : Nat) y, (keysT l)[i]? = some y → ∀ H', Ex H H' → Ev te ((wipe σ vs).set j (some (.str y))) H' (f y)) (hw : ∀ v, wipe ((wipe σ vs).set j (some v)) vs = wipe σ vs := by intro _; rfl) :
    EvL (tLc (iKeys tl) (gName j) tYes te vs) σ H ((keysT l).map f) := fun H1 e Q q => hl H1 e _ fun H2 e2 => ⟨a, o, rfl, .inl ⟨_, e2 _ _ (e _ _ h), fun D hD =>
  lc_m (j := j) (c := V.str) (ys := keysT l) walk_kT f rfl hD (fun H' s => s _ _ (e2 _ _ (e _ _ h))) (by unfold keysT; rw [List.length_map]; exact sz_of hz) (fun i y H' k hy s hk => turn i y hy H' ((e.trans e2).trans s) H' (Ex.refl _) k hk) (fun H' s hD' => q D H' (fresh_back e2 hD) (e2.trans s) hD') hw⟩⟩
theorem el_fK {β : Type} {g : β → V} {l : List (PySem.Str × β)} {o : Obj} (p : PySem.Str → Bool) (f : PySem.Str → V) (hl : Ev tl σ H (.ref a)) (h : H a = some (.frz o (.dK (kvT g l)))) (hz : l.length ≤ 100000) (test : ∀ (i : Nat) y, (keysT l)[i]? = some y → ∀ H', Ex H H' → EvT t ((wipe σ vs).set j (some (.str y))) H' (p y))
    (turn : ∀ (i : Nat) y, (keysT l)[i]? = some y → p y = true → ∀ H', Ex H H' → Ev te ((wipe σ vs).set j (some (.str y))) H' (f y)) (hw : ∀ v, wipe ((wipe σ vs).set j (some v)) vs = wipe σ vs := by intro _; rfl) :
    EvL (tLc (iKeys tl) (gName j) t te vs) σ H (((keysT l).filter p).map f) := fun H1 e Q q => hl H1 e _ fun H2 e2 => ⟨a, o, rfl, .inl ⟨_, e2 _ _ (e _ _ h), fun D hD =>
  lc_f (j := j) (c := V.str) (ys := keysT l) walk_kT p f rfl hD (fun H' s => s _ _ (e2 _ _ (e _ _ h))) (by unfold keysT; rw [List.length_map]; exact sz_of hz) (fun i y H' k hy s hk => test i y hy H' ((e.trans e2).trans s) H' (Ex.refl _) k hk) (fun i y H' k hy hp s hk => turn i y hy hp H' ((e.trans e2).trans s) H' (Ex.refl _) k hk) (fun H' s hD' => q D H' (fresh_back e2 hD) (e2.trans s) hD') hw⟩⟩
/-- a list made while the dict d is locked, from the state within the lock -/
theorem el_lock {kvs : List (L2.Key × V)} {xs : List V} (h : H a = some (.dK kvs)) (k : ∀ od, EvL te σ (upd H a (.frz od (.dK kvs))) xs) : EvL (tLockE te) σ H xs := fun H1 e Q q => by
  have h1 := e _ _ h
  refine ⟨a, _, h1, trivial, fun od => ?_⟩
  have e1 : Ex (upd H a (.frz od (.dK kvs))) (upd H1 a (.frz od (.dK kvs))) := fun b o z => by
    by_cases nb : b = a
    · rw [nb, upd_same] at z ⊢; exact z
    · rw [upd_ne nb] at z ⊢; exact e _ _ z
  refine k od _ e1 _ fun p H2 hp e2 h2 => ?_
  have na : p ≠ a := fun z => by rw [z, upd_same] at hp; cases hp
  have fa : H2 a = some (.frz od (.dK kvs)) := e2 _ _ upd_same
  refine ⟨fa, q p _ (by rw [upd_ne na] at hp; exact hp) (fun b o z => ?_) (by rw [upd_ne na]; exact h2)⟩
  by_cases nb : b = a
  · rw [nb, h1] at z; rw [nb, upd_same]; exact z
  · rw [upd_ne nb]; exact e2 _ _ (by rw [upd_ne nb]; exact z)
end
end
/-! ### statements under a dict's lock -/
section
variable {K : PySem.W.Frag} {σ : L2.St} {H H' : Hp} {te td : TE} {D : Ends} {tb tz : TS} {a : Addr} {u : HO}
theorem ex_lock {H1 : Hp} {f : HO} (e : Ex H H1) : Ex (upd H a f) (upd H1 a f) := fun b o z => by
  by_cases nb : b = a
  · rw [nb, upd_same] at z ⊢; exact z
  · rw [upd_ne nb] at z ⊢; exact e _ _ z
theorem ex_unlock {f : HO} (h : H a = some u) (e : Ex (upd H a f) H') : Ex H (upd H' a u) := fun b o z => by
  by_cases nb : b = a
  · rw [nb, h] at z; rw [nb, upd_same]; exact z
  · rw [upd_ne nb]; exact e _ _ (by rw [upd_ne nb]; exact z)
/-- y = [.. for k in d ..], d locked meanwhile -/
theorem s_lockL {kvs : List (L2.Key × V)} {xs : List V} {i : Nat} (h : H a = some (.dK kvs)) (k : ∀ od, EvL te σ (upd H a (.frz od (.dK kvs))) xs) (q : ∀ p H1, H p = none → Ex H H1 → H1 p = some (.lst xs) → D.nx (σ.set i (some (.ref p))) H1) : tLock (tAsg te (gName i)) D σ H := by
  refine ⟨a, _, h, trivial, fun od => k od _ (Ex.refl _) _ fun p H2 hp e2 h2 => ?_⟩
  have na : p ≠ a := fun z => by rw [z, upd_same] at hp; cases hp
  refine ⟨e2 _ _ upd_same, q p _ (by rw [upd_ne na] at hp; exact hp) (ex_unlock h e2) (by rw [upd_ne na]; exact h2)⟩
theorem q_lockL {kvs : List (L2.Key × V)} {xs : List V} {i : Nat} (h : H a = some (.dK kvs)) (k : ∀ od, EvL te σ (upd H a (.frz od (.dK kvs))) xs) (q : ∀ p H1, H p = none → Ex H H1 → H1 p = some (.lst xs) → tz D (σ.set i (some (.ref p))) H1) : tSeq (tLock (tAsg te (gName i))) tz D σ H :=
  s_lockL (D := { D with nx := tz D }) h k q
/-- for k in d: ..; the turns within the lock -/
theorem s_lockFor {β : Type} {g : β → V} {l : List (PySem.Str × β)} {j : Nat} (h : H a = some (.dK (kvT g l))) (hd : ∀ od, Ev td σ (upd H a (.frz od (.dK (kvT g l)))) (.ref a)) (Pv : Obj → Nat → L2.St → Hp → Prop) (h0 : ∀ od H1, Ex (upd H a (.frz od (.dK (kvT g l)))) H1 → Pv od 0 σ H1)
    (hl : ∀ od i σ' H', Pv od i σ' H' → H' a = some (.frz od (.dK (kvT g l))))
    (hs : ∀ od (i : Nat) y σ' H', (keysT l)[i]? = some y → Pv od i σ' H' → tb ⟨Pv od (i + 1), fun v H' => H' a = some (.frz od (.dK (kvT g l))) ∧ D.rt v (upd H' a (.dK (kvT g l))), fun σ' H' => H' a = some (.frz od (.dK (kvT g l))) ∧ D.nx σ' (upd H' a (.dK (kvT g l))), Pv od (i + 1)⟩ (σ'.set j (some (.str y))) H')
    (he : ∀ od σ' H', Pv od (keysT l).length σ' H' → D.nx σ' (upd H' a (.dK (kvT g l)))) : tLock (tFor (iKeys td) (gName j) tb) D σ H := by
  refine ⟨a, _, h, trivial, fun od => hd od _ (Ex.refl _) _ fun H1 e1 => ⟨a, od, rfl, .inl ⟨_, e1 _ _ upd_same, for_it walk_kT (Pv od) (h0 od H1 e1) (fun i σ' H' _ p => hl od i σ' H' p) ?_ ?_⟩⟩⟩
  · rintro i x σ' H' H'' hi p ⟨rfl, hx⟩
    rw [List.getElem?_map] at hx
    cases e : (keysT l)[i]? with
    | none => rw [e] at hx; cases hx
    | some y =>
      rw [e] at hx
      obtain rfl := Option.some.inj hx
      exact hs od i y σ' _ e p
  · exact fun σ' H' p => ⟨hl od _ σ' H' p, he od σ' H' p⟩
theorem q_lockFor {β : Type} {g : β → V} {l : List (PySem.Str × β)} {j : Nat} (h : H a = some (.dK (kvT g l))) (hd : ∀ od, Ev td σ (upd H a (.frz od (.dK (kvT g l)))) (.ref a)) (Pv : Obj → Nat → L2.St → Hp → Prop) (h0 : ∀ od H1, Ex (upd H a (.frz od (.dK (kvT g l)))) H1 → Pv od 0 σ H1)
    (hl : ∀ od i σ' H', Pv od i σ' H' → H' a = some (.frz od (.dK (kvT g l))))
    (hs : ∀ od (i : Nat) y σ' H', (keysT l)[i]? = some y → Pv od i σ' H' → tb ⟨Pv od (i + 1), fun v H' => H' a = some (.frz od (.dK (kvT g l))) ∧ D.rt v (upd H' a (.dK (kvT g l))), fun σ' H' => H' a = some (.frz od (.dK (kvT g l))) ∧ tz D σ' (upd H' a (.dK (kvT g l))), Pv od (i + 1)⟩ (σ'.set j (some (.str y))) H')
    (he : ∀ od σ' H', Pv od (keysT l).length σ' H' → tz D σ' (upd H' a (.dK (kvT g l)))) : tSeq (tLock (tFor (iKeys td) (gName j) tb)) tz D σ H :=
  s_lockFor (D := { D with nx := tz D }) h hd Pv h0 hl hs he
end
section
variable {X : Cx} {K : PySem.W.Frag}
theorem cr_anyK (h : X.K = K) (hc : X.calm = true) : CallR X (.builtin "any") (rAny K) := by subst h; exact cr_any hc
theorem cr_allK (h : X.K = K) (hc : X.calm = true) : CallR X (.builtin "all") (rAll K) := by subst h; exact cr_all hc
theorem cr_sumK (h : X.K = K) (hc : X.calm = true) : CallR X (.builtin "sum") (rSum K) := by subst h; exact cr_sum hc
end
end Mc
namespace Mc
open PySem L2 PySem.Spec PyProof.Rows Evl
def tTru (K : PySem.W.Frag) (ta : TE) : TT := fun σ H Q => ta σ H fun x H' => ∃ k, TruV K x H' k ∧ Q k H'
theorem pt_truthK {X : Cx} {K : PySem.W.Frag} {a : Expr} {ta : TE} (h : X.K = K) (ha : PE X a ta) (he : ∀ whole, isTrue a X.env whole = (do let v ← whole; standAt a.pos; holding [v] (truthy v))) : L2.PT X a (tTru K ta) := by
  subst h
  exact pt_truth ha he
section
variable {X : Cx} {K : PySem.W.Frag} {o e : Expr} {es : List Expr} {to : TE} {t : TA} {name : PySem.Str} {apos cpos : Pos} {T id : String} {r : V → List V → Hp → VK → Prop}
theorem pe_bmK (h : X.K = K) (pa : PlainAttrs T) (slot : Slot T name id) (hty : typeOf (.builtin id) = pure (.type "method_descriptor")) (hm : MtR X id r) (ho : PE X o to) (ha : PA X (e :: es) t)
    (hbase : attributeBase o name X.env (eval o X.env) = eval o X.env := by rfl)
    (hfew : ((backTo cpos (starEach (e :: es) X.env)).all (fun x => !x.1) && (backToKw cpos (keywordEach [] X.env)).all (fun x => x.1.isSome)
      && decide ((e :: es).length + ([] : List Keyword).length + (if ([] : List Keyword).isEmpty then 0 else 1) < 30)) = true := by rfl)
    (hline : (apos.endLine == cpos.line) = true := by rfl) (hs : starEach (e :: es) X.env = (false, eval e X.env) :: starEach es X.env := by rfl) (hplain : (backTo cpos (starEach es X.env)).any (·.1) = false := by rfl) :
    PE X (.Call (.Attribute o name apos) (e :: es) [] cpos) (tBM K T r to t) := by
  subst h
  exact pe_bm pa slot hty hm ho ha hbase hfew hline hs hplain
end
theorem et_truT {K : PySem.W.Frag} {te : TE} {σ : L2.St} {H : Hp} {a : Addr} {xs : List V} (h : Ev te σ H (.ref a)) (hx : SqT K H a xs) : EvT (tTru K te) σ H (!xs.isEmpty) := fun H1 e Q q => h H1 e _ fun H2 e2 => ⟨_, .inr (.inl ⟨xs, ex_t (e.trans e2) hx, rfl⟩), q H2 e2⟩
end Mc
namespace Mc
open PySem L2 PySem.Spec PyProof.Rows
/-! ### data that can be compared, equal to itself -/
structure DOk (n : Nat) (d : PyData) : Prop where
  lay : d.canLay0 = true
  dep : d.depth ≤ n
  eq : PyData.eqv d d = true
theorem DOk.mono {n m : Nat} {d : PyData} (h : DOk n d) (k : n ≤ m) : DOk m d := ⟨h.lay, Nat.le_trans h.dep k, h.eq⟩
theorem DOk.non {n : Nat} : DOk n .none := ⟨rfl, by rw [PyData.depth]; exact Nat.zero_le _, by rw [PyData.eqv]⟩
theorem DOk.int {n : Nat} {i : Int} : DOk n (.int i) := ⟨rfl, by rw [PyData.depth]; exact Nat.zero_le _, by rw [PyData.eqv]; exact beq_self_eq_true i⟩
theorem DOk.str {n : Nat} {x : PySem.Str} (h : PyData.canLay0 (.str x) = true) : DOk n (.str x) := ⟨h, by rw [PyData.depth]; exact Nat.zero_le _, by rw [PyData.eqv]; exact beq_self_eq_true x⟩
theorem lays {n : Nat} : ∀ {ds : List PyData}, (∀ d ∈ ds, DOk n d) → PyData.canLayAll0 ds = true
  | [], _ => rfl
  | d :: ds, h => by
    show (PyData.canLay0 d && PyData.canLayAll0 ds) = true
    rw [(h d (by simp)).lay, lays fun x hx => h x (by simp [hx])]
    rfl
theorem deps {n : Nat} : ∀ {ds : List PyData}, (∀ d ∈ ds, DOk n d) → PyData.depthAll ds ≤ n
  | [], _ => Nat.zero_le _
  | d :: ds, h => by
    show max (PyData.depth d) (PyData.depthAll ds) ≤ n
    exact Nat.max_le.mpr ⟨(h d (by simp)).dep, deps fun x hx => h x (by simp [hx])⟩
theorem eqs {n : Nat} : ∀ {ds : List PyData}, (∀ d ∈ ds, DOk n d) → PyData.eqvAll ds ds = true
  | [], _ => rfl
  | d :: ds, h => by
    show (PyData.eqv d d && PyData.eqvAll ds ds) = true
    rw [(h d (by simp)).eq, eqs fun x hx => h x (by simp [hx])]
    rfl
theorem DOk.tup {n : Nat} {ds : List PyData} (h : ∀ d ∈ ds, DOk n d) : DOk (n + 1) (.tuple ds) :=
  ⟨by rw [PyData.canLay0]; exact lays h, by rw [PyData.depth]; exact Nat.succ_le_succ (deps h), by rw [PyData.eqv]; exact eqs h⟩
theorem DOk.lst {n : Nat} {ds : List PyData} (h : ∀ d ∈ ds, DOk n d) : DOk (n + 1) (.list ds) :=
  ⟨by rw [PyData.canLay0]; exact lays h, by rw [PyData.depth]; exact Nat.succ_le_succ (deps h), by rw [PyData.eqv]; exact eqs h⟩
theorem DOk.shaped {n : Nat} {d : PyData} (h : DOk n d) (k : n ≤ 64 := by decide) : SeqAt.shaped d = true := by
  unfold SeqAt.shaped
  rw [h.lay, decide_eq_true (Nat.le_trans h.dep k)]
  rfl
/-- two data of one form that are equal -/
theorem eqv_tup2 (a b c d : Int) : PyData.eqv (.tuple [.int a, .int b]) (.tuple [.int c, .int d]) = decide ((a, b) = (c, d)) := by
  rw [PyData.eqv]
  show (PyData.eqv (.int a) (.int c) && (PyData.eqv (.int b) (.int d) && true)) = _
  rw [PyData.eqv, PyData.eqv, Bool.and_true]
  by_cases h1 : a = c <;> by_cases h2 : b = d <;> simp [h1, h2]
theorem dpA1 {K : PySem.W.Frag} {H : Hp} {v : V} {d : PyData} (h : Dp K H v d) : DpAll K H [v] [d] := .cons h .nil
theorem dpA2 {K : PySem.W.Frag} {H : Hp} {v u : V} {d e : PyData} (h : Dp K H v d) (k : Dp K H u e) : DpAll K H [v, u] [d, e] := .cons h (.cons k .nil)
theorem neD_same {K : PySem.W.Frag} {H : Hp} {n : Nat} {x y : V} {d : PyData} {Q : VK} (ok : DOk n d) (hn : n ≤ 64) (h1 : Dp K H x d) (h2 : Dp K H y d) (q : Q (.bl false) H) : rNeD K x y H Q :=
  ⟨d, d, h1, h2, ok.shaped hn, ok.shaped hn, by rw [ok.eq]; exact q⟩
theorem eqD_same {K : PySem.W.Frag} {H : Hp} {n : Nat} {x y : V} {d : PyData} {Q : VK} (ok : DOk n d) (hn : n ≤ 64) (h1 : Dp K H x d) (h2 : Dp K H y d) (q : Q (.bl true) H) : rEqD K x y H Q :=
  ⟨d, d, h1, h2, ok.shaped hn, ok.shaped hn, by rw [ok.eq]; exact q⟩
theorem okInts (ns : List Int) : DOk 1 (pdI ns) := DOk.lst fun d hd => by
  obtain ⟨i, _, rfl⟩ := List.mem_map.mp hd
  exact DOk.int
end Mc
namespace Mc
open PySem L2 PySem.Spec PyProof.Rows Evl
/-! == and != of plain data: it tells whether they are the same -/
mutual
def sdD : PyData → Bool
  | .none => true
  | .bool _ => false
  | .int _ => true
  | .str x => PyData.strOk x
  | .list xs => sdA xs
  | .tuple xs => sdA xs
  | .dict _ => false
def sdA : List PyData → Bool
  | [] => true
  | x :: xs => sdD x && sdA xs
end
mutual
theorem sdD_lay : ∀ d : PyData, sdD d = true → d.canLay0 = true
  | .none, _ => rfl
  | .bool _, _ => rfl
  | .int _, _ => rfl
  | .str x, h => by rw [sdD] at h; rw [PyData.canLay0]; exact h
  | .list xs, h => by rw [sdD] at h; rw [PyData.canLay0]; exact sdA_lay xs h
  | .tuple xs, h => by rw [sdD] at h; rw [PyData.canLay0]; exact sdA_lay xs h
  | .dict _, h => by rw [sdD] at h; cases h
theorem sdA_lay : ∀ ds : List PyData, sdA ds = true → PyData.canLayAll0 ds = true
  | [], _ => by rw [PyData.canLayAll0]
  | x :: xs, h => by
    rw [sdA, Bool.and_eq_true] at h
    rw [PyData.canLayAll0, sdD_lay x h.1, sdA_lay xs h.2]; rfl
end
mutual
theorem eqv_sd : ∀ d e : PyData, sdD d = true → sdD e = true → (PyData.eqv d e = true ↔ d = e)
  | .bool _, _, h, _ => by rw [sdD] at h; cases h
  | .dict _, _, h, _ => by rw [sdD] at h; cases h
  | .none, e, _, k => by
    cases e <;> simp [PyData.eqv]
  | .int i, e, _, k => by
    cases e <;> simp [PyData.eqv]
    rw [sdD] at k; cases k
  | .str x, e, _, k => by
    cases e <;> simp [PyData.eqv]
  | .list xs, e, h, k => by
    cases e <;> simp [PyData.eqv]
    rw [sdD] at h k
    exact eqvA_sd xs _ h k
  | .tuple xs, e, h, k => by
    cases e <;> simp [PyData.eqv]
    rw [sdD] at h k
    exact eqvA_sd xs _ h k
theorem eqvA_sd : ∀ d e : List PyData, sdA d = true → sdA e = true → (PyData.eqvAll d e = true ↔ d = e)
  | [], e, _, _ => by
    cases e <;> simp [PyData.eqvAll]
  | x :: xs, [], _, _ => by simp [PyData.eqvAll]
  | x :: xs, y :: ys, h, k => by
    rw [sdA, Bool.and_eq_true] at h k
    rw [PyData.eqvAll, Bool.and_eq_true, eqv_sd x y h.1 k.1, eqvA_sd xs ys h.2 k.2]
    simp
end
mutual
theorem dp_ex {K : PySem.W.Frag} {H H' : Hp} (e : Ex H H') : ∀ (d : PyData) (v : V), Dp K H v d → Dp K H' v d
  | .none, _, h => by cases h; exact .non
  | .bool b, _, h => by cases h; exact .bl b
  | .int i, _, h => by cases h; exact .int i
  | .str x, _, h => by cases h; exact .str x
  | .list xs, _, h => by
    cases h with
    | lst a b => exact .lst (ex_l e a) (dpA_ex e xs _ b)
  | .tuple xs, _, h => by
    cases h with
    | tup a b => exact .tup (ex_t e a) (dpA_ex e xs _ b)
  | .dict _, _, h => by cases h
theorem dpA_ex {K : PySem.W.Frag} {H H' : Hp} (e : Ex H H') : ∀ (ds : List PyData) (vs : List V), DpAll K H vs ds → DpAll K H' vs ds
  | [], _, h => by cases h; exact .nil
  | d :: ds, _, h => by
    cases h with
    | cons a b => exact .cons (dp_ex e d _ a) (dpA_ex e ds _ b)
end
theorem eqv_is {d e : PyData} {b : Bool} (sd : sdD d = true) (se : sdD e = true) (hb : b = true ↔ d = e) : PyData.eqv d e = b := by
  cases w : PyData.eqv d e with
  | true => exact (hb.mpr ((eqv_sd d e sd se).mp w)).symm
  | false =>
    cases b with
    | false => rfl
    | true => rw [(eqv_sd d e sd se).mpr (hb.mp rfl)] at w; cases w
theorem shp_sd {d : PyData} (sd : sdD d = true) (nd : d.depth ≤ 64) : SeqAt.shaped d = true := by
  unfold SeqAt.shaped; rw [sdD_lay d sd, decide_eq_true nd]; rfl
theorem rv_eqDD {K : PySem.W.Frag} {H : Hp} {x y : V} {d e : PyData} {b : Bool} (hx : Dp K H x d) (hy : Dp K H y e) (sd : sdD d = true) (se : sdD e = true) (nd : d.depth ≤ 64) (ne : e.depth ≤ 64) (hb : b = true ↔ d = e) : RV (rEqD K) x y H (.bl b) := fun H1 e1 Q q =>
  ⟨d, e, dp_ex e1 d x hx, dp_ex e1 e y hy, shp_sd sd nd, shp_sd se ne, by rw [eqv_is sd se hb]; exact q H1 (Ex.refl _)⟩
theorem rv_neDD {K : PySem.W.Frag} {H : Hp} {x y : V} {d e : PyData} {b : Bool} (hx : Dp K H x d) (hy : Dp K H y e) (sd : sdD d = true) (se : sdD e = true) (nd : d.depth ≤ 64) (ne : e.depth ≤ 64) (hb : b = true ↔ d = e) : RV (rNeD K) x y H (.bl (!b)) := fun H1 e1 Q q =>
  ⟨d, e, dp_ex e1 d x hx, dp_ex e1 e y hy, shp_sd sd nd, shp_sd se ne, by rw [eqv_is sd se hb]; exact q H1 (Ex.refl _)⟩
/-! forms of data -/
theorem sdA_map {α : Type} {f : α → PyData} {xs : List α} (h : ∀ x ∈ xs, sdD (f x) = true) : sdA (xs.map f) = true := by
  induction xs with
  | nil => rfl
  | cons x xs ih =>
    rw [List.map_cons, sdA, h x (by simp), ih fun y hy => h y (by simp [hy])]; rfl
theorem depA_map {α : Type} {f : α → PyData} {xs : List α} {n : Nat} (h : ∀ x ∈ xs, (f x).depth ≤ n) : PyData.depthAll (xs.map f) ≤ n := by
  induction xs with
  | nil => rw [List.map_nil, PyData.depthAll]; exact Nat.zero_le _
  | cons x xs ih =>
    rw [List.map_cons, PyData.depthAll]
    exact Nat.max_le.mpr ⟨h x (by simp), ih fun y hy => h y (by simp [hy])⟩
theorem dpA_paired {α : Type} {K : PySem.W.Frag} {H : Hp} {f : α → PyData} {R : α → V → Prop} (hR : ∀ x v, R x v → Dp K H v (f x)) : ∀ {xs : List α} {vs : List V}, Paired R xs vs → DpAll K H vs (xs.map f)
  | _, _, .nil => .nil
  | _, _, .cons r t => .cons (hR _ _ r) (dpA_paired hR t)
theorem dpA_map {α : Type} {K : PySem.W.Frag} {H : Hp} {f : α → PyData} {g : α → V} (xs : List α) (h : ∀ x ∈ xs, Dp K H (g x) (f x)) : DpAll K H (xs.map g) (xs.map f) := by
  induction xs with
  | nil => exact .nil
  | cons x xs ih => exact .cons (h x (by simp)) (ih fun y hy => h y (by simp [hy]))
theorem pdI_inj {xs ys : List Int} : pdI xs = pdI ys ↔ xs = ys := by
  unfold pdI
  constructor
  · intro h
    injection h with h
    exact (List.map_inj_right (fun a b e => by injection e)).mp h
  · intro h; rw [h]
theorem sd_pdI (xs : List Int) : sdD (pdI xs) = true := by
  unfold pdI
  rw [sdD]; exact sdA_map fun _ _ => by rw [sdD]
theorem dep_pdI (xs : List Int) : (pdI xs).depth ≤ 1 := by
  unfold pdI
  rw [PyData.depth]
  exact Nat.succ_le_succ (depA_map fun _ _ => by rw [PyData.depth]; exact Nat.le_refl _)
/-- lists of ints -/
theorem rv_eqIL {K : PySem.W.Frag} {H : Hp} {a b : Addr} {xs ys : List Int} (ha : SqL K H a (xs.map V.int)) (hb : SqL K H b (ys.map V.int)) : RV (rEqD K) (.ref a) (.ref b) H (.bl (decide (xs = ys))) :=
  rv_eqDD (dp_ints ha) (dp_ints hb) (sd_pdI _) (sd_pdI _) (Nat.le_trans (dep_pdI _) (by decide)) (Nat.le_trans (dep_pdI _) (by decide)) (by rw [decide_eq_true_eq]; exact pdI_inj.symm)
theorem rv_neIL {K : PySem.W.Frag} {H : Hp} {a b : Addr} {xs ys : List Int} (ha : SqL K H a (xs.map V.int)) (hb : SqL K H b (ys.map V.int)) : RV (rNeD K) (.ref a) (.ref b) H (.bl (!decide (xs = ys))) :=
  rv_neDD (dp_ints ha) (dp_ints hb) (sd_pdI _) (sd_pdI _) (Nat.le_trans (dep_pdI _) (by decide)) (Nat.le_trans (dep_pdI _) (by decide)) (by rw [decide_eq_true_eq]; exact pdI_inj.symm)
end Mc
namespace Mc
open PySem L2 PySem.Spec PyProof.Rows Evl
/-! comprehensions over any source; items that are new objects, told by a relation -/
section
variable {α : Type} {c : α → V} {ys : List α} {J : It} {n : Nat} {G : Hp → Prop} {te : TE} {vs : List Nat} {σ : L2.St} {H1 : Hp} {D : Addr} {Qd : Hp → Prop} {j : Nat} {tt : TT}
theorem prd_imp {α β : Type} {F G : α → β → Prop} (hFG : ∀ a b, F a b → G a b) : ∀ {xs : List α} {ys : List β}, Paired F xs ys → Paired G xs ys
  | _, _, .nil => .nil
  | _, _, .cons r t => .cons (hFG _ _ r) (prd_imp hFG t)
theorem prd_snoc {α β : Type} {F : α → β → Prop} : ∀ {xs : List α} {ys : List β} {x : α} {y : β}, Paired F xs ys → F x y → Paired F (xs ++ [x]) (ys ++ [y])
  | _, _, _, _, .nil, h => .cons h .nil
  | _, _, _, _, .cons r t, h => .cons r (prd_snoc t h)
theorem prd_get {α β : Type} {F : α → β → Prop} : ∀ {xs : List α} {ys : List β}, Paired F xs ys → ∀ {i : Nat} {x : α}, xs[i]? = some x → ∃ y, ys[i]? = some y ∧ F x y
  | _, _, .cons r t, 0, x, h => ⟨_, rfl, by cases Option.some.inj h; exact r⟩
  | _, _, .cons r t, i + 1, x, h => prd_get t (by simpa using h)
theorem prd_mem {α β : Type} {F : α → β → Prop} : ∀ {xs : List α} {ys : List β}, Paired F xs ys → ∀ {y : β}, y ∈ ys → ∃ x ∈ xs, F x y
  | _, _, .cons r t, y, h => (List.mem_cons.mp h).elim (fun e => ⟨_, .head _, e ▸ r⟩) fun h => by
    obtain ⟨x, hx, q⟩ := prd_mem t h
    exact ⟨x, .tail _ hx, q⟩
theorem lc_R (w : Walk J n G (YAt (ys.map c))) (p : α → Bool) (R : α → V → Hp → Prop) (per : ∀ y v H H', R y v H → Same H H' → R y v H') (hn : n = ys.length) (hD : H1 D = none) (hG : ∀ H', Same H1 H' → G H') (hz : ys.length ≤ sizeLine)
    (test : ∀ (i : Nat) (y : α) (H' : Hp) (k : Bool → Hp → Prop), ys[i]? = some y → Same H1 H' → (∀ H4, Same H' H4 → k (p y) H4) → tt ((wipe σ vs).set j (some (c y))) H' k)
    (turn : ∀ (i : Nat) (y : α) (H' : Hp) (k : VK), ys[i]? = some y → p y = true → Same H1 H' → (∀ v H4, Same H' H4 → R y v H4 → k v H4) → te ((wipe σ vs).set j (some (c y))) H' k)
    (hd : ∀ us H', Same H1 H' → H' D = some (.lst us) → Paired (fun y v => R y v H') (ys.filter p) us → Qd H') (hw : ∀ v, wipe ((wipe σ vs).set j (some v)) vs = wipe σ vs := by intro _; rfl)
    (perD : ∀ y v H u, R y v H → H D = some (.lst u) → ∀ u', R y v (upd H D (.lst u'))) :
    ∃ W : Nat → Nat → Hp → Prop, (∃ m, W 0 m (upd H1 D (.lst []))) ∧ ∀ i m H, W i m H →
      (J.stop i H ∧ Qd H) ∨ (J.go i H ∧ ∃ Nx : Hp → Prop, (∀ H', Nx H' → ∃ m', m' < m ∧ W (i + 1) m' H') ∧ ∀ x H', J.yld i H x H' → gName j x (wipe σ vs) H' fun σ2 H2 => wipe σ2 vs = wipe σ vs ∧ tt σ2 H2 fun b H3 =>
        if b = true then te σ2 H3 fun y H4 => ∃ acc, H4 D = some (.lst acc) ∧ acc.length < sizeLine ∧ Nx (upd H4 D (.lst (acc ++ [y]))) else Nx H3) := by
  refine lc_it w (fun i H' => Same H1 H' ∧ ∃ us, H' D = some (.lst us) ∧ Paired (fun y v => R y v H') ((ys.take i).filter p) us) ⟨Same.new hD, [], upd_same, .nil⟩ (fun i H' _ z => hG H' z.1) ?_ ?_
  · rintro i x H H' hi ⟨s1, us, d1, pr⟩ ⟨rfl, hx⟩
    rw [List.getElem?_map] at hx
    cases e : ys[i]? with
    | none => rw [e] at hx; cases hx
    | some y =>
      rw [e] at hx
      obtain rfl := Option.some.inj hx
      have et : (ys.take (i + 1)).filter p = (ys.take i).filter p ++ (if p y = true then [y] else []) := by
        rw [List.take_add_one, e, List.filter_append]
        show _ ++ [y].filter p = _
        rw [List.filter_cons]
        split <;> rfl
      refine ⟨hw _, test i y _ _ e s1 fun H3 s3 => ?_⟩
      by_cases hp : p y = true
      · rw [if_pos hp]
        refine turn i y _ _ e hp (s1.trans s3) fun v H4 s4 hv => ⟨us, s4 _ _ (s3 _ _ d1), ?_, ?_, us ++ [v], upd_same, ?_⟩
        · have h1 := List.length_filter_le p (ys.take i)
          have h3 : (ys.take i).length < ys.length := by
            have := (List.getElem?_eq_some_iff.mp e).1
            rw [List.length_take]; omega
          have := Paired.length pr
          omega
        · exact fun b o z => by
            have nb : b ≠ D := ne_of_none z hD
            rw [upd_ne nb]
            exact s4 _ _ (s3 _ _ (s1 _ _ z))
        · rw [et, if_pos hp]
          exact prd_snoc (prd_imp (fun y v h => perD _ _ _ _ (per _ _ _ _ (per _ _ _ _ h s3) s4) (s4 _ _ (s3 _ _ d1)) _) pr) (perD _ _ _ _ hv (s4 _ _ (s3 _ _ d1)) _)
      · rw [if_neg hp]
        refine ⟨s1.trans s3, us, s3 _ _ d1, ?_⟩
        rw [et, if_neg hp, List.append_nil]
        exact prd_imp (fun y v h => per _ _ _ _ h s3) pr
  · rintro H ⟨s1, us, d1, pr⟩
    subst hn
    rw [List.take_length] at pr
    exact hd us H s1 d1 pr
end
/-! ### sources -/
/-- what is walked: these values, and it stands while the heap grows -/
def EvI (wi : TI) (σ : L2.St) (H : Hp) (vals : List V) : Prop := ∀ H1, Ex H H1 → ∀ R : It → Hp → Prop, (∀ J G H2, Ex H1 H2 → Walk J vals.length G (YAt vals) → (∀ H', Ex H2 H' → G H') → R J H2) → wi σ H1 R
section
variable {K : PySem.W.Frag} {σ : L2.St} {H : Hp} {tl te : TE} {t : TT} {a : Addr} {vals : List V} {wi : TI} {Q : VK} {ta : TA}
theorem EvI.mono {H' : Hp} (e : Ex H H') (h : EvI wi σ H vals) : EvI wi σ H' vals := fun H1 a R r => h H1 (e.trans a) R r
theorem ei_L (hl : Ev tl σ H (.ref a)) (h : SqL K H a vals) : EvI (iList K tl) σ H vals := fun H1 e R r => hl H1 e _ fun H2 e2 => ⟨a, rfl, ⟨_, ex_l (e.trans e2) h⟩, r _ _ H2 e2 walk_list fun H' e3 => ex_l ((e.trans e2).trans e3) h⟩
theorem ei_T (hl : Ev tl σ H (.ref a)) (h : SqT K H a vals) : EvI (iTup K tl) σ H vals := fun H1 e R r => hl H1 e _ fun H2 e2 => ⟨a, rfl, ⟨_, ex_t (e.trans e2) h⟩, r _ _ H2 e2 walk_tup fun H' e3 => ex_t ((e.trans e2).trans e3) h⟩
/-- over a new list, a new tuple -/
theorem ei_N (hl : EvL tl σ H vals) : EvI (iList K tl) σ H vals := fun H1 e R r => hl H1 e _ fun p H2 _ e2 h2 => ⟨p, rfl, ⟨_, sq_of h2⟩, r _ _ H2 e2 walk_list fun H' e3 => sq_of (e3 _ _ h2)⟩
theorem ei_U (hl : EvU tl σ H vals) : EvI (iTup K tl) σ H vals := fun H1 e R r => hl H1 e _ fun p H2 _ e2 h2 => ⟨p, rfl, ⟨_, st_of h2⟩, r _ _ H2 e2 walk_tup fun H' e3 => st_of (e3 _ _ h2)⟩
theorem ei_K {β : Type} {g : β → V} {l : List (PySem.Str × β)} {o : Obj} (hl : Ev tl σ H (.ref a)) (h : H a = some (.frz o (.dK (kvT g l)))) : EvI (iKeys tl) σ H ((keysT l).map V.str) := fun H1 e R r => hl H1 e _ fun H2 e2 => ⟨a, o, rfl, .inl ⟨_, e2 _ _ (e _ _ h), r _ (fun H => H a = some (.frz o (.dK (kvT g l)))) H2 e2 (by rw [List.length_map]; unfold keysT; rw [List.length_map]; exact (show Walk _ _ _ _ from by have := walk_kT (g := g) (l := l) (d := a) (o := o); unfold keysT at this; rwa [List.length_map] at this)) fun H' e3 => e3 _ _ (e2 _ _ (e _ _ h))⟩⟩
theorem ei_r1 {n : Int} (h : EvA ta σ H [.int n]) (h0 : -(2 ^ 62) ≤ n) (h1 : n < 2 ^ 62) : EvI (iRng1 ta) σ H ((List.range n.toNat).map fun i => V.int (i : Nat)) := fun H1 e R r => h H1 e _ fun H2 e2 => ⟨n, rfl, h0, h1, r _ _ H2 e2 (by
  have := walk_rng (lo := 0) (n := n.toNat)
  simp only [Int.zero_add] at this
  rw [List.length_map, List.length_range]
  exact this) fun _ _ => trivial⟩
theorem ei_r2 {lo hi : Int} (h : EvA ta σ H [.int lo, .int hi]) (b : -(2 ^ 62) ≤ lo ∧ lo < 2 ^ 62 ∧ -(2 ^ 62) ≤ hi ∧ hi < 2 ^ 62) : EvI (iRng2 ta) σ H ((List.range (hi - lo).toNat).map fun i => V.int (lo + (i : Nat))) := fun H1 e R r => h H1 e _ fun H2 e2 => ⟨lo, hi, rfl, b, r _ _ H2 e2 (by rw [List.length_map, List.length_range]; exact walk_rng) fun _ _ => trivial⟩
variable {α : Type} {ys : List α} {j : Nat} {vs : List Nat} {c : α → V}
theorem el_mI (f : α → V) (hi : EvI wi σ H (ys.map c)) (hz : ys.length ≤ 100000) (turn : ∀ (i : Nat) y, ys[i]? = some y → ∀ H', Ex H H' → Ev te ((wipe σ vs).set j (some (c y))) H' (f y)) (hw : ∀ v, wipe ((wipe σ vs).set j (some v)) vs = wipe σ vs := by intro _; rfl) :
    EvL (tLc wi (gName j) tYes te vs) σ H (ys.map f) := fun H1 e Q q => hi H1 e _ fun J G H2 e2 w hG D hD =>
  lc_m (j := j) (c := c) (ys := ys) w f (by rw [List.length_map]) hD hG (sz_of hz) (fun i y H' k hy s hk => turn i y hy H' ((e.trans e2).trans s) H' (Ex.refl _) k hk) (fun H' s hD' => q D H' (fresh_back e2 hD) (e2.trans s) hD') hw
theorem el_fI (p : α → Bool) (f : α → V) (hi : EvI wi σ H (ys.map c)) (hz : ys.length ≤ 100000) (test : ∀ (i : Nat) y, ys[i]? = some y → ∀ H', Ex H H' → EvT t ((wipe σ vs).set j (some (c y))) H' (p y))
    (turn : ∀ (i : Nat) y, ys[i]? = some y → p y = true → ∀ H', Ex H H' → Ev te ((wipe σ vs).set j (some (c y))) H' (f y)) (hw : ∀ v, wipe ((wipe σ vs).set j (some v)) vs = wipe σ vs := by intro _; rfl) :
    EvL (tLc wi (gName j) t te vs) σ H ((ys.filter p).map f) := fun H1 e Q q => hi H1 e _ fun J G H2 e2 w hG D hD =>
  lc_f (j := j) (c := c) (ys := ys) w p f (by rw [List.length_map]) hD hG (sz_of hz) (fun i y H' k hy s hk => test i y hy H' ((e.trans e2).trans s) H' (Ex.refl _) k hk) (fun i y H' k hy hp s hk => turn i y hy hp H' ((e.trans e2).trans s) H' (Ex.refl _) k hk) (fun H' s hD' => q D H' (fresh_back e2 hD) (e2.trans s) hD') hw
/-- a value that has some property behind it -/
def EvP (te : TE) (σ : L2.St) (H : Hp) (P : V → Hp → Prop) : Prop := ∀ H1, Ex H H1 → ∀ Q : VK, (∀ v H2, Ex H1 H2 → P v H2 → Q v H2) → te σ H1 Q
theorem EvU.p {xs : List V} (h : EvU te σ H xs) : EvP te σ H fun v H' => ∃ p, v = .ref p ∧ H' p = some (.tup xs) := fun H1 e Q q => h H1 e _ fun p H2 _ e2 h2 => q _ H2 e2 ⟨p, rfl, h2⟩
theorem EvL.p {xs : List V} (h : EvL te σ H xs) : EvP te σ H fun v H' => ∃ p, v = .ref p ∧ H' p = some (.lst xs) := fun H1 e Q q => h H1 e _ fun p H2 _ e2 h2 => q _ H2 e2 ⟨p, rfl, h2⟩
/-- a new list whose items are told by a relation -/
theorem el_RI (p : α → Bool) (R : α → V → Hp → Prop) (per : ∀ y v H H', R y v H → Same H H' → R y v H') (perD : ∀ y v H D u, R y v H → H D = some (.lst u) → (∀ y' v', R y' v' H → True) → ∀ u', R y v (upd H D (.lst u')))
    (hi : EvI wi σ H (ys.map c)) (hz : ys.length ≤ 100000) (test : ∀ (i : Nat) y, ys[i]? = some y → ∀ H', Ex H H' → EvT t ((wipe σ vs).set j (some (c y))) H' (p y))
    (turn : ∀ (i : Nat) y, ys[i]? = some y → p y = true → ∀ H', Ex H H' → EvP te ((wipe σ vs).set j (some (c y))) H' (R y)) (hw : ∀ v, wipe ((wipe σ vs).set j (some v)) vs = wipe σ vs := by intro _; rfl) :
    ∀ H1, Ex H H1 → ∀ Q : VK, (∀ D us H2, H1 D = none → Ex H1 H2 → H2 D = some (.lst us) → Paired (fun y v => R y v H2) (ys.filter p) us → Q (.ref D) H2) → tLc wi (gName j) t te vs σ H1 Q := fun H1 e Q q => hi H1 e _ fun J G H2 e2 w hG D hD =>
  lc_R (j := j) (c := c) (ys := ys) w p R per (by rw [List.length_map]) hD hG (sz_of hz) (fun i y H' k hy s hk => test i y hy H' ((e.trans e2).trans s) H' (Ex.refl _) k hk) (fun i y H' k hy hp s hk => turn i y hy hp H' ((e.trans e2).trans s) H' (Ex.refl _) k fun v H4 e4 hr => hk v H4 e4 hr)
    (fun us H' s hD' pr => q D us H' (fresh_back e2 hD) (e2.trans s) hD' pr) hw fun y v H u hr hu u' => perD y v H D u hr hu (fun _ _ _ => trivial) u'
/-- new tuples of values -/
def NewTup {α : Type} (f : α → List V) : α → V → Hp → Prop := fun y v H => ∃ p, v = .ref p ∧ H p = some (.tup (f y))
theorem el_uI (p : α → Bool) (f : α → List V) (hi : EvI wi σ H (ys.map c)) (hz : ys.length ≤ 100000) (test : ∀ (i : Nat) y, ys[i]? = some y → ∀ H', Ex H H' → EvT t ((wipe σ vs).set j (some (c y))) H' (p y))
    (turn : ∀ (i : Nat) y, ys[i]? = some y → p y = true → ∀ H', Ex H H' → EvU te ((wipe σ vs).set j (some (c y))) H' (f y)) (hw : ∀ v, wipe ((wipe σ vs).set j (some v)) vs = wipe σ vs := by intro _; rfl) :
    ∀ H1, Ex H H1 → ∀ Q : VK, (∀ D us H2, H1 D = none → Ex H1 H2 → H2 D = some (.lst us) → Paired (fun y v => NewTup f y v H2) (ys.filter p) us → Q (.ref D) H2) → tLc wi (gName j) t te vs σ H1 Q :=
  el_RI p (NewTup f) (fun y v H H' ⟨q, e, h⟩ s => ⟨q, e, s _ _ h⟩) (fun y v H D u ⟨q, e, h⟩ hu _ u' => ⟨q, e, by rw [upd_ne fun z => by rw [z, hu] at h; cases h]; exact h⟩) hi hz test (fun i y hy hp H' e => EvU.p (turn i y hy hp H' e)) hw
theorem et_yes : EvT tYes σ H true := fun H1 _ Q q => q H1 (Ex.refl _)
end
end Mc
namespace Mc
open PySem L2 PySem.Spec PyProof.Rows LamX NdefX
/-! ### lambdas with parameters: made, kept as objects with a name, called -/
/-- the object at f is the lambda F with that body (F.body is not looked at) -/
def LmO (f : Addr) (F : NF) (bd : Expr) : HO := .ext fun h => ∃ (pm ctv : Value), h.get? f = some (PySem.W.kla_obj "<lambda>" F.qual F.params bd F.scope F.cl pm F.c ctv)
theorem lmO_ne {f : Addr} {F : NF} {bd : Expr} (ps : Array Value) : LmO f F bd ≠ .tbl ps := fun z => by
  unfold LmO at z
  cases z
theorem lmO_at {P : Program} {w : World} {H : Hp} {h : Heap} {f : Addr} {F : NF} {bd : Expr} (hok : HOk P w H h) (e : H f = some (LmO f F bd)) : ∃ (pm ctv : Value), h.get? f = some (PySem.W.kla_obj "<lambda>" F.qual F.params bd F.scope F.cl pm F.c ctv) := by
  obtain ⟨z, _, _⟩ := hok f _ e
  exact z
section
variable {X : Cx} {pins : List (Addr × Obj)} {σ : L2.St} {H : Hp} {s : Shared}
theorem inv_lm {F : NF} {bd : Expr} {t' : Nat} {pm ctv : Value} (I : Inv X pins σ H s) :
    Inv X pins σ (upd H s.heap.objs.size (LmO s.heap.objs.size F bd)) { s with heap := s.heap.push (PySem.W.kla_obj "<lambda>" F.qual F.params bd F.scope F.cl pm F.c ctv), toks := t' } := by
  refine I.laid (a := s.heap.objs.size) (fun b u e => Heap.get?_push_of_some _ e) (Nat.le_refl _) ?_
  have e : (s.heap.push (PySem.W.kla_obj "<lambda>" F.qual F.params bd F.scope F.cl pm F.c ctv)).get? s.heap.objs.size = some (PySem.W.kla_obj "<lambda>" F.qual F.params bd F.scope F.cl pm F.c ctv) := Heap.get?_push_size _ rfl
  exact ⟨⟨pm, ctv, e⟩, ⟨_, e⟩, fun h1 h2 ⟨p, t, z⟩ st => ⟨p, t, st _ z⟩⟩
/-- the lambda of X's def over that scope, its code object at c -/
abbrev lamF (X : Cx) (params : Arguments) (scope : Scope) (c : Addr) : NF := ⟨"<lambda>", X.env.qual ++ "<lambda>", params, [], scope, cloFrom X.env.cells scope.names [], c⟩
theorem lam_mk {T : List NTab} {nm : Nat → Nat → PySem.Str} {c P : Addr} {params : Arguments} {bd : Expr} {scope : Scope} {pos : Pos} {E : Value → Shared → Prop} {Q : Value → Shared → Prop} (I : Inv X pins σ H s) (TB : TabB X.base X.mg c P) (hcode : X.env.code = .ref c)
    (hm : (P, nm) ∈ T) (hn : nm pos.line pos.col = X.env.qual ++ "<lambda>") (hu : ∀ p ∈ T, p.1 = P → p.2 = nm) (hT : TabsN T H) (hdef : defaultsOf params X.env = ([], [])) (hfree : ∀ y ∈ scope.names, y.2 = .free → ∃ c, X.env.cells.lookup y.1 = some c)
    (h : ∀ (f c' : Addr) (H1 : Hp) (s' : Shared), Inv X pins σ H1 s' → ExtN H H1 → (∀ b, H1 b = none → H b = none) → TabsN T H1 → H f = none → H1 f = some (LmO f (lamF X params scope c') bd) → H1 c' = some (CodeO c' (X.env.qual ++ "<lambda>")) → Q (.ref f) s') :
    wpAny (model X.prog X.w) X.A (eval (.Lambda params bd scope pos) X.env) Q E s := by
  obtain ⟨ps, hP, ht, ha⟩ := (show TabN H P nm from hT _ hm)
  refine PySem.W.kla_eval hdef ?_
  have bP : s.heap.BuiltinsAt X.mg P := TB.bm.keeps I.bk
  have hP' : s.heap.get? P = some { cls := .none, data := .fields ps } := I.hok P _ hP
  cases hc : codeAmong pos ps.toList with
  | none =>
    refine PySem.W.kla_makeFunction (mg := X.mg) (c := c) (P := P) (ps := ps) (closure_ok hfree) I.ok.glob (I.mod.glob.keeps I.bk) hcode (TB.code.keeps I.bk) hP' ht hc TB.gP bP fun c' ctv h' tk hx hge hlt hrec htb => ?_
    obtain ⟨c2, oc, vs, t, e2, hoc, hd, hv⟩ := hrec
    cases e2
    have nC : H c' = none := I.hok.fresh hge
    have I1 := inv_table (t' := tk) (more := #[rawInt pos.line, rawInt pos.col, .ref c']) (h' := h') I hP (fun b o hb e => hx b o hb e) htb hge ⟨oc, vs, t, hoc, hd, hv⟩
    generalize eH1 : upd (upd H P (.tbl (ps ++ #[rawInt pos.line, rawInt pos.col, .ref c']))) c' (CodeO c' (X.env.qual ++ "<lambda>")) = H1 at I1
    have hE : ExtN H H1 := fun b o e n => by
      rw [← eH1, upd_ne (ne_of_none e nC), upd_ne (fun z => n ps (Option.some.inj (e.symm.trans (by rw [z]; exact hP))))]
      exact e
    have hcc : H1 c' = some (CodeO c' (X.env.qual ++ "<lambda>")) := by rw [← eH1]; exact upd_same
    have T1 : TabsN T H1 := fun p hp => by
      by_cases hb : p.1 = P
      · rw [hu p hp hb, hb]
        refine ⟨ps ++ #[rawInt pos.line, rawInt pos.col, .ref c'], by rw [← eH1, upd_ne (ne_of_none hP nC), upd_same], ?_, fun p' cv hcv => ?_⟩
        · rw [show (ps ++ #[rawInt pos.line, rawInt pos.col, .ref c']).toList = ps.toList ++ [rawInt pos.line, rawInt pos.col, .ref c'] by simp]
          exact PySem.TriplesOk_snoc _ _ _ _ ht
        · rw [show (ps ++ #[rawInt pos.line, rawInt pos.col, .ref c']).toList = ps.toList ++ [rawInt pos.line, rawInt pos.col, .ref c'] by simp] at hcv
          rcases among_app2 _ ht hcv with z | ⟨z, z1, z2⟩
          · obtain ⟨c0, e1, e2⟩ := ha p' cv z
            exact ⟨c0, e1, hE _ _ e2 codeO_ne⟩
          · exact ⟨c', z, by rw [← z1, ← z2, hn]; exact hcc⟩
      · obtain ⟨ps', a1, a2, a3⟩ := hT p hp
        refine ⟨ps', by rw [← eH1, upd_ne (ne_of_none a1 nC), upd_ne hb]; exact a1, a2, fun p' cv hcv => ?_⟩
        obtain ⟨c0, e1, e2⟩ := a3 p' cv hcv
        exact ⟨c0, e1, hE _ _ e2 codeO_ne⟩
    have nF : H1 h'.objs.size = none := I1.hok.fresh (Nat.le_refl _)
    have I2 := inv_lm (F := lamF X params scope c') (bd := bd) (t' := tk) (pm := (X.mg "__name__").getD .none) (ctv := ctv) I1
    refine h h'.objs.size c' _ _ I2 (fun b o e n => ?_) (fun b e => ?_) (T1.ext fun b o e => ?_) (I.hok.fresh (Nat.le_trans hge (Nat.le_of_lt hlt))) upd_same ?_
    · exact (upd_ne (ne_of_none (hE b o e n) nF)).trans (hE b o e n)
    · have e1 := upd_none e
      rw [← eH1] at e1
      exact upd_none (upd_none e1)
    · exact (upd_ne (ne_of_none e nF)).trans e
    · exact (upd_ne (Nat.ne_of_lt hlt)).trans hcc
  | some cv =>
    obtain ⟨c', e, hco⟩ := ha pos cv hc
    subst e
    rw [hn] at hco
    refine PySem.W.kla_makeFunctionHit (mg := X.mg) (c := c) (P := P) (ps := ps) (closure_ok hfree) I.ok.glob (I.mod.glob.keeps I.bk) hcode (TB.code.keeps I.bk) hP' ht hc bP fun ctv h' tk hx hsz => ?_
    have I1 : Inv X pins σ H { s with heap := h', toks := tk } := I.kept hx
    have nF : H h'.objs.size = none := I1.hok.fresh (Nat.le_refl _)
    have I2 := inv_lm (F := lamF X params scope c') (bd := bd) (t' := tk) (pm := (X.mg "__name__").getD .none) (ctv := ctv) I1
    exact h h'.objs.size c' _ _ I2 (fun b o e n => (upd_ne (ne_of_none e nF)).trans e) (fun b e => upd_none e) (hT.ext fun b o e => (upd_ne (ne_of_none e nF)).trans e) nF upd_same ((upd_ne (ne_of_none hco nF)).trans hco)
end
/-- the reading of a lambda: a new object -/
def tLamP (T : List NTab) (mk : Addr → NF) (bd : Expr) : TE := fun σ H Q => TabsN T H ∧ ∀ (f c' : Addr) (H1 : Hp), ExtN H H1 → (∀ b, H1 b = none → H b = none) → TabsN T H1 → H f = none → H1 f = some (LmO f (mk c') bd) → H1 c' = some (CodeO c' (mk c').qual) → Q (.ref f) H1
section
variable {X : Cx}
theorem pe_lam {T : List NTab} {nm : Nat → Nat → PySem.Str} {c P : Addr} {params : Arguments} {bd : Expr} {scope : Scope} {pos : Pos} (TB : TabB X.base X.mg c P) (hcode : X.env.code = .ref c)
    (hm : (P, nm) ∈ T) (hn : nm pos.line pos.col = X.env.qual ++ "<lambda>") (hu : ∀ p ∈ T, p.1 = P → p.2 = nm) (hdef : defaultsOf params X.env = ([], []))
    (hfree : ∀ y ∈ scope.names, y.2 = .free → X.env.scope.names.lookup y.1 = some .cell ∨ X.env.scope.names.lookup y.1 = some .free) : PE X (.Lambda params bd scope pos) (tLamP T (lamF X params scope) bd) := by
  refine ⟨fun pins s σ H Q I h => ?_⟩
  obtain ⟨hT, q⟩ := h
  exact lam_mk I TB hcode hm hn hu hT hdef (fun y hy e => I.ok.has _ (hfree y hy e)) fun f c' H1 s' I1 h1 h2 h3 h4 h5 h6 => ⟨.ref f, H1, I1, rfl, q f c' H1 h1 h2 h3 h4 h5 h6⟩
end
/-! ### what a lambda promises -/
structure LOk (P : Program) (w : World) (K : PySem.W.Frag) (mg : PySem.Str → Option Value) (base : Heap) (CX : CXT) (k : Nat) (f : Addr) (F : NF) (bd : Expr) (ps fr : List PySem.Str) (sp : List (Option V) → Sp) : Prop where
  len : ∀ ws vs H Q E, sp ws vs H Q E → vs.length = ps.length
  run : ∀ (A : Around) (outer : List Env) (s : Shared) (H : Hp) (us : List Value) (vs : List V) (ws : List (Option V)) (Q : VK) (E : XK), Room k A → Env0 P w K mg base A outer s H → H f = some (LmO f F bd) → H F.c = some (CodeO F.c F.qual) →
    CellsAt F.cl fr ws s.heap H → Vals vs us → sp ws vs H Q E → codeAny (model P w) A (.call (.ref f) ⟨us, []⟩) (CR CX outer P w H s Q E) s
section
variable {CX : CXT} {P : Program} {w : World} {K : PySem.W.Frag} {mg : PySem.Str → Option Value} {base : Heap} {N ps fr : List PySem.Str} {F : NF} {bd : Expr} {f : Addr} {k : Nat} {sp : List (Option V) → Sp}
theorem lok_of (S : NScope N ps fr F.scope) (hb : ∀ (pm ctv : Value) (us : List Value), us.length = ps.length → bindArgs (PySem.W.kla_fn "<lambda>" F.qual F.params bd F.scope F.cl pm (.ref F.c) ctv) ⟨us, []⟩ = pure (ps.zip us)) (len : ∀ ws vs H Q E, sp ws vs H Q E → vs.length = ps.length)
    (hbody : ∀ (A : Around) (outer : List Env) (s : Shared) (H : Hp) (vs : List V) (ws : List (Option V)) (Q : VK) (E : XK), Room k (A.deeper (envF F f s.heap.objs.size)) → H f = some (LmO f F bd) → H F.c = some (CodeO F.c F.qual) → ws.length = fr.length → sp ws vs H Q E →
      ∃ t, PE (ncx CX P w K mg base N F f A outer s H E) bd t ∧ t (startF N vs ws) H Q) : LOk P w K mg base CX (k + 1) f F bd ps fr sp := by
  refine ⟨len, fun A outer s H us vs ws Q E hr e0 hf hc C r hsp => ?_⟩
  have hl := len _ _ _ _ _ hsp
  have lim : s.heap.NoLimit := e0.mod.nolimit.keeps fun b o e => (e0.bs b o e).1
  obtain ⟨pm, ctv, ho⟩ := lmO_at e0.hok hf
  refine PySem.W.kla_callFunE hr.depth ho rfl S.co S.gen rfl (codeO_at e0.hok hc) ?_
  rw [hb pm ctv us (by rw [← r.length]; exact hl)]
  refine wpAny_pure (wpAny_newFunctionEnv S.nocell (fun ⟨n, _⟩ hy => S.par n (List.of_mem_zip hy).1) (fun h₁ hns hsb => ⟨lim.fresh _ hsb, ?_⟩) S.kind)
  show codeAny _ _ (.expr bd (envF F f s.heap.objs.size)) _ _
  have kp : ∀ b o, s.heap.get? b = some o → h₁.get? b = some o := fun b o e => hsb.extBut b o (Nat.ne_of_lt (Heap.lt_size e)) (Heap.get?_push_of_some _ e)
  obtain ⟨t, ht, hq⟩ := hbody A outer s H vs ws Q E (hr.deeper _) hf hc C.len hsp
  have I : Inv (ncx CX P w K mg base N F f A outer s H E) [] (startF N vs ws) H { s with heap := h₁, toks := s.toks + (ps.zip us).length } := inv_startN S hr.hd e0 hl r C hns kp
  refine PySem.W.kla_codeExpr (wpAny_mono (ht.run [] _ (startF N vs ws) H Q I hq) (fun v s' hs => ?_) fun e s' hs => hs)
  obtain ⟨v', H', J, rv, q⟩ := hs
  exact ⟨v', H', J.os, J.bare, J.base, J.hok, rv, q⟩
end
end Mc
namespace Mc
open PySem L2 PySem.Spec PyProof.Rows FbM LamX NdefX
/-! ### sorted(d, key=lambda x: ..), d a dict with text keys, the lambda gives an int and the key -/
/-- what is asked of the callable at each key -/
def CallsKey (X : Cx) (A : Around) (pins : List (Addr × Obj)) (σ : L2.St) (q : Addr) (kf : PySem.Str → Int) (ks : List PySem.Str) (H : Hp) : Prop :=
  ∀ (s' : Shared) (H' : Hp) (y : PySem.Str) (t : Tok), y ∈ ks → Inv X pins σ H' s' → Same H H' → codeAny (model X.prog X.w) A (.call (.ref q) ⟨[.str y t], []⟩) (CR CX0 X.stack X.prog X.w H' s' (fun v H2 => ∃ p, v = .ref p ∧ H' p = none ∧ H2 = upd H' p (.tup [.int (kf y), .str y])) E0) s'
section
variable {X : Cx} {pins : List (Addr × Obj)} {σ : L2.St} {H : Hp} {s : Shared} {k : Nat} {q a kS : Addr} {kf : PySem.Str → Int} {ks : List PySem.Str} {vs : List Value} {A : Around} {E : Value → Shared → Prop} {e1 : Nat} {P : PySem.Fin → Shared → Prop}
theorem kl_rest (hr : Room k A) (hcall : CallsKey X A pins σ q kf ks H) (I : Inv X pins σ H s) (ra : Rec X pins a) (rk : Rec X pins kS) (na : H a = none) (nk : H kS = none)
    (hka : kS ≠ a) (ek : s.heap.get? kS = some (seqObj "list" #[] 0)) (ea : s.heap.get? a = some (seqObj "list" #[] e1)) (hv : StrsAre vs ks) (h64 : ks.length < 64)
    (done : ∀ s' H' out c, Inv X pins σ H' s' → Same H H' → H' a = none → s'.heap.get? a = some (seqObj "list" (List.toArray out) c) → PySem.W.KeyedOut false (ks.map (kdM kf)) vs out → P (.done (.ret .none)) s') :
    wpAny (model X.prog X.w) A (ksk_rest a (.ref q) false vs.toArray e1 (.ref kS)) P E s := by
  have hlen : vs.length = ks.length := hv.len_eq
  have h16 : vs.length ≤ sizeLine := by rw [hlen, sizeLine_eq]; omega
  unfold ksk_rest
  refine wpAny_bind (wpAny_rule ?_)
  rw [List.forIn_toArray]
  refine wpAny_bind (ksk_fold (fun i s' => ∃ H' kA e, Inv X pins σ H' s' ∧ Same H H' ∧ H' a = none ∧ H' kS = none ∧ s'.heap.get? kS = some (seqObj "list" kA e) ∧ s'.heap.get? a = some (seqObj "list" #[] e1) ∧
    PySem.W.EachIs (fun v x => ∃ p, v = Value.ref p ∧ H' p = some (.tup [.int (kf x), .str x])) kA.toList (ks.take i)) vs 0 s ⟨H, #[], 0, I, fun _ _ h => h, na, nk, ek, ea, by rw [List.take_zero]; exact PySem.W.EachIs.nil⟩ ?step ?done)
  case step =>
    rintro j x s' hx ⟨H', kA, e, I', sm, na', nk', ek', ea', hk⟩
    rw [Nat.zero_add] at hk ⊢
    obtain ⟨y, t, rfl, hy⟩ := hv.item j x hx
    have hz : kA.size ≤ ks.length := by
      have h1 := hk.length
      rw [Array.length_toList, List.length_take] at h1
      omega
    have h64' : kA.size < 64 := by omega
    refine wpAny_bind (wpAny_attempt ?_)
    refine wpAny_call (codeAny_mono (hcall s' H' y t (List.mem_of_getElem? hy) I' sm) fun rr s2 hrr => ?_)
    cases rr with
    | error er => exact False.elim hrr
    | ok fl =>
      cases fl with
      | next => exact False.elim hrr
      | brk => exact False.elim hrr
      | cont => exact False.elim hrr
      | ret v =>
        obtain ⟨v', H2, os, bare, un, hok, rv', p, ev, hp, eH⟩ := (show CE X.stack X.prog X.w H' s' _ v s2 from hrr)
        subst ev
        cases rv'
        have I2 : Inv X pins σ H2 s2 := I'.call' os un hok bare (fun b z => absurd z List.not_mem_nil)
        have sm2 : Same H' H2 := fun b u e => by
          rw [eH, upd_ne (ne_of_none e hp)]
          exact e
        have keep : ∀ {b : Addr} {ob : Obj}, Rec X pins b → H' b = none → s'.heap.get? b = some ob → s2.heap.get? b = some ob := fun rb ub eb => un.keep _ _ eb ub rb.fr List.not_mem_nil
        have fr2 : ∀ {b : Addr} {ob : Obj}, H' b = none → s'.heap.get? b = some ob → H2 b = none := fun ub eb => un.free _ _ eb ub List.not_mem_nil
        have nk2 := keep rk nk' ek'
        have na2 := keep ra na' ea'
        have uk2 := fr2 nk' ek'
        have ua2 := fr2 na' ea'
        try dsimp only
        obtain ⟨h2, g2, d2, t2, o2⟩ := s2
        obtain ⟨c2, hc2⟩ : ∃ c2, (h2.update kS (Obj.mapSeq (·.push (.ref p)))).get? kS = some (seqObj "list" (kA.push (.ref p)) c2) := ⟨_, get?_update_seq nk2 (·.push (.ref p))⟩
        have sb : Heap.SameBut kS h2 (h2.update kS (Obj.mapSeq (·.push (.ref p)))) := Heap.SameBut.update ..
        refine wpAny_bind (listUpdate_at nk2 rfl ?_ (by rw [sizeLine_eq]; omega) (by rw [Array.size_push, sizeLine_eq]; omega))
        refine wpAny_pure ⟨rfl, H2, kA.push (.ref p), c2, rk.turn (t' := t2) I2 uk2 fun c ob hc e => sb.extBut c ob hc e, fun b u e => sm2 b u (sm b u e), ua2, uk2, hc2, sb.extBut _ _ hka.symm na2, ?_⟩
        have ek3 : ks.take (j + 1) = ks.take j ++ [y] := by rw [List.take_add_one, hy]; rfl
        have ea3 : (kA.push (Value.ref p)).toList = kA.toList ++ [.ref p] := by simp
        rw [ek3, ea3]
        refine PySem.W.each_snoc ⟨p, rfl, by rw [eH, upd_same]⟩ (hk.mono fun u d z => ?_)
        obtain ⟨p', ep, z⟩ := z
        exact ⟨p', ep, sm2 _ _ z⟩
  case done =>
    rintro s' ⟨H', kA, e, I', sm, na', nk', ek', ea', hk⟩
    have hk' : PySem.W.EachIs (fun v k => ∃ as, Reads s'.heap v k as) kA.toList (ks.map (kdM kf)) := by
      have e3 : ks.take (0 + vs.length) = ks := List.take_of_length_le (by omega)
      rw [e3] at hk
      refine PySem.W.each_map (kdM kf) (hk.mono fun v x z => ?_)
      obtain ⟨p, rfl, z⟩ := z
      exact ⟨[], tup_reads I'.hok z⟩
    have hsz : kA.size = vs.length := by
      have h1 := hk'.length
      rw [Array.length_toList, List.length_map] at h1
      omega
    refine wpAny_bind (listItems_at ek' rfl ?_)
    have hal : PySem.W.AllAlike (ks.map (kdM kf)) := PySem.W.AllAlike.of fun _ _ => by simp [kdM, PySem.W.alike, PySem.W.alikeAll]
    refine PySem.W.keyH_end (κ := PySem.W.dataKind s'.heap (ks.map (kdM kf))) (h₁ := rid s'.heap kS) (b := false) (fun b ob hb z => ?_) rid_none ek' ea' hka (PySem.W.SortsAt.data hk' hal (PySem.W.Sortable.tuples fun _ => ⟨_, _, rfl⟩) ?_) hsz h16 fun h' tk c kp hD => ?_
    · by_cases hbk : b = kS
      · subst hbk
        rw [rid_none] at z
        cases z
      · exact (rid_ne hbk).symm.trans z
    · intro d hd
      obtain ⟨x, _, rfl⟩ := List.mem_map.mp hd
      have h2 : (kdM kf x).depth = 1 := by simp [kdM, PyData.depth, PyData.depthAll]
      have := hr.units
      omega
    · have keep : ∀ b ob, b ≠ a → b ≠ kS → s'.heap.get? b = some ob → h'.get? b = some ob := fun b ob ha hk z => kp b ob ha ((rid_ne hk).trans z)
      have nb : ∀ {b u}, H' b = some u → b ≠ a ∧ b ≠ kS := fun {b u} z => ⟨fun e => (by rw [e, na'] at z; cases z), fun e => (by rw [e, nk'] at z; cases z)⟩
      refine done _ H' (PySem.W.sortVals (PySem.W.dataKind s'.heap (ks.map (kdM kf))) false kA.toList vs) c ?_ sm na' hD ⟨s'.heap, kA.toList, hal, rfl, hk'⟩
      obtain ⟨h1, g1, d1, t1, o1⟩ := s'
      refine I'.call' (ch := [a, kS]) rfl ⟨fun b ob z n _ hx => ?_, fun b ob z n _ hx => ⟨ob.slots, ?_⟩, fun b ob z n hx => n, fun b ob z hx => ⟨ob, ?_⟩, fun b xs z => z, fun b ob u z => z, fun b pz z => ⟨#[], by rw [z]; simp⟩⟩ (fun b u z => ?_) I'.bare fun b hb => ?_
      · exact keep b ob (fun e => hx (by simp [e])) (fun e => hx (by simp [e])) z
      · exact keep b ob (fun e => hx (by simp [e])) (fun e => hx (by simp [e])) z
      · exact keep b ob (fun e => hx (by simp [e])) (fun e => hx (by simp [e])) z
      · refine (I'.hok b u z).stay (fun cc v hc q => ?_) (fun _ q => q) fun _ _ q => q
        rcases hc with e | e
        · rw [e] at q ⊢
          exact keep b v (nb z).1 (nb z).2 q
        · exact keep cc v (nb e).1 (nb e).2 q
      · rcases List.mem_cons.mp hb with e | e
        · subst e
          exact ⟨.inr ra.ge, ra.nl, ra.ce, ra.pn⟩
        · obtain rfl := List.mem_singleton.mp e
          exact ⟨.inr rk.ge, rk.nl, rk.ce, rk.pn⟩
theorem sortedKL (hcalm : X.calm = true) (hr : Room k X.A.in1.in1) (hcall : CallsKey X X.A.in1.in1 pins σ q kf ks H) {d : Addr} {kvs : List (Key × V)} {Q : VK} (I : Inv X pins σ H s) (hd : Rd H d (.dK kvs)) (hks : kvs.map (·.1) = ks.map Sum.inr) (h64 : ks.length < 64)
    (fin : ∀ (ys : List PySem.Str) p H', Same H H' → ys.Perm ks → ys.Pairwise (rkLe kf) → H' p = none → Q (.ref p) (upd H' p (.lst (ys.map V.str)))) :
    wpAny (model X.prog X.w) X.A (call (.builtin "sorted") [.ref d] [(PySem.Str.ofString "key", .ref q)]) (EP X pins σ Q) X.xe s := by
  obtain ⟨z, lo, vs, rel, dd⟩ := dk_rd I.hok hd
  obtain ⟨ep, hat⟩ := dd.dictAt
  have hkeys : vs.map (·.1) = ks.map Sum.inr := rel.keys.symm.trans hks
  have hl : vs.length = ks.length := by
    have e := congrArg List.length hkeys
    rw [List.length_map, List.length_map] at e
    exact e
  have h16 : vs.length ≤ sizeLine := by rw [hl, sizeLine_eq]; omega
  refine call_function_entry_kw kind_sorted plain_sorted entry_sorted (ksk_s1 _ _) ?_
  unfold Builtin.«sorted»
  refine wpAny_bind (m := checkCount "sorted" 1 1 _) (wpAny_pure ?_)
  refine wpAny_bind (PySem.W.kdu_collect (A := X.A.in1) (PySem.W.kdl_dict (knd := mixKind X.prog X.w) (kvs := vs) (ep := ep) lo) (I.ok.hd hcalm) hat h16 fun h1 tk acc hk hacc => ?_)
  have hal : acc.toList.length = ks.length := by rw [Array.length_toList, hacc.1, hl]
  have hS : StrsAre acc.toList ks := strs_at hal fun j v e => by
    obtain ⟨kx, x, w1, w2⟩ := hacc.2 j v (by rw [← Array.getElem?_toList]; exact e)
    have w3 : (vs.map (·.1))[j]? = some kx := by rw [List.getElem?_map, w1]; all_goals rfl
    rw [hkeys, List.getElem?_map] at w3
    cases w4 : ks[j]? with
    | none => rw [w4] at w3; cases w3
    | some y =>
      rw [w4] at w3
      obtain rfl : Sum.inr y = kx := Option.some.inj w3
      obtain ⟨t, ev⟩ := Value.isStrOf_shape (x := y) (v := v) w2
      exact ⟨y, t, rfl, ev⟩
  have I1 : Inv X pins σ H { s with heap := h1, toks := tk } := I.kept hk
  refine wpAny_bind (wpAny_newList ?_ (by rw [hal, sizeLine_eq]; omega))
  have hoL : (h1.push (seqObj "list" acc.toList.toArray 0)).get? h1.objs.size = some (seqObj "list" acc.toList.toArray 0) := Heap.get?_push_size _ rfl
  have I2 : Inv X pins σ H { s with heap := h1.push (seqObj "list" acc.toList.toArray 0), toks := tk } := I1.kept (t' := tk) fun b u e => Heap.get?_push_of_some _ e
  have ra : Rec X pins h1.objs.size := rec_new I1 (Nat.le_refl _)
  have na : H h1.objs.size = none := I1.hok.fresh (Nat.le_refl _)
  show wpAny _ _ _ _ _ { s with heap := h1.push (seqObj "list" acc.toList.toArray 0), toks := tk }
  refine wpAny_bind (wpAny_holding (wpAny_call_entry_kw slot_list_sort ⟨_, hoL, rfl⟩ entry_list_sort ?body (ksk_l1 _ _)))
  case body =>
    rw [ksk_t1]
    unfold ksk_tree
    refine wpAny_bind (listItems_at hoL rfl ?_)
    have hz : acc.toList.toArray.size ≤ sizeLine := by rw [List.size_toArray, hal, sizeLine_eq]; omega
    refine wpAny_bind (listUpdate_at hoL rfl ?_ hz (Nat.zero_le _))
    obtain ⟨e1, ho1⟩ : ∃ e1, ((h1.push (seqObj "list" acc.toList.toArray 0)).update h1.objs.size (Obj.mapSeq fun _ => (#[] : Array Value))).get? h1.objs.size = some (seqObj "list" #[] e1) := ⟨_, get?_update_seq hoL fun _ => #[]⟩
    refine wpAny_bind (seqEpoch_at ho1 rfl ?_)
    refine wpAny_bind (wpAny_newTuple ?_ (by show acc.toList.length ≤ _; rw [hal, sizeLine_eq]; omega))
    refine wpAny_bind (wpAny_newList ?_ (Nat.zero_le _))
    refine wpAny_holding ?_
    have sb : Heap.SameBut h1.objs.size (h1.push (seqObj "list" acc.toList.toArray 0)) ((h1.push (seqObj "list" acc.toList.toArray 0)).update h1.objs.size (Obj.mapSeq fun _ => (#[] : Array Value))) := Heap.SameBut.update ..
    have I3 := ra.turn (t' := tk) I2 na fun c ob hc e => sb.extBut c ob hc e
    have I4 := I3.kept (t' := tk) fun b u e => Heap.get?_push_of_some (seqObj "tuple" acc.toList.toArray 0) e
    have I5 := I4.kept (t' := tk) fun b u e => Heap.get?_push_of_some (seqObj "list" #[] 0) e
    have lt1 : h1.objs.size < (((h1.push (seqObj "list" acc.toList.toArray 0)).update h1.objs.size (Obj.mapSeq fun _ => (#[] : Array Value))).push (seqObj "tuple" acc.toList.toArray 0)).objs.size := by
      rw [size_push', Heap.size_update, size_push']
      omega
    refine kl_rest (k := k) (kf := kf) (ks := ks) hr hcall I5 ra (rec_new I4 (Nat.le_refl _)) na (I4.hok.fresh (Nat.le_refl _)) (Nat.ne_of_gt lt1) (Heap.get?_push_size _ rfl)
      (Heap.get?_push_of_some _ (Heap.get?_push_of_some _ ho1)) hS h64 fun s' H' out c J sm na' hD ko => ?_
    have eo := PySem.W.keyedOut_each (kdM kf) ko (each_strs hS)
    have pm := List.mergeSort_perm ks (PySem.W.dataLe false (kdM kf))
    have hlo : (ks.mergeSort (PySem.W.dataLe false (kdM kf))).length ≤ sizeLine := by rw [pm.length_eq, sizeLine_eq]; omega
    refine ⟨_, rfl, wpAny_pure ⟨_, rfl, .ref h1.objs.size, upd H' h1.objs.size (.lst ((ks.mergeSort (PySem.W.dataLe false (kdM kf))).map V.str)), adopt J ra na' ⟨?_, out, c, each_vals eo, hD⟩, rfl, fin _ _ H' sm pm (kdM_sorted ks) na'⟩⟩
    rw [List.length_map]
    exact hlo
/-- sorted(e, key=lambda x: ..) -/
def tSrtL (T : List NTab) (mk : Addr → NF) (bd : Expr) (js : List Nat) (sp : Addr → Addr → List (Option V) → Sp) (ta : TE) : TE := fun σ H Q => ta σ H fun x H1 => TabsN T H1 ∧ ∀ (f c' : Addr) (H2 : Hp), ExtN H1 H2 → (∀ b, H2 b = none → H1 b = none) → TabsN T H2 → H1 f = none → H2 f = some (LmO f (mk c') bd) → H2 c' = some (CodeO c' (mk c').qual) →
  ∃ (d : Addr) (kvs : List (Key × V)) (ks : List PySem.Str) (kf : PySem.Str → Int), x = .ref d ∧ Rd H2 d (.dK kvs) ∧ kvs.map (·.1) = ks.map Sum.inr ∧ ks.length < 64 ∧
  (∀ y ∈ ks, ∀ H', Same H2 H' → sp f c' (js.map (slotAt σ)) [.str y] H' (fun v H3 => ∃ p, v = .ref p ∧ H' p = none ∧ H3 = upd H' p (.tup [.int (kf y), .str y])) E0) ∧
  ∀ (ys : List PySem.Str) p H', Same H2 H' → ys.Perm ks → ys.Pairwise (rkLe kf) → H' p = none → Q (.ref p) (upd H' p (.lst (ys.map V.str)))
variable {fr : List PySem.Str} {js : List Nat} {sp : Addr → Addr → List (Option V) → Sp} {e : Expr} {ta : TE} {p pos kpos lpos : Pos} {T : List NTab} {nm : Nat → Nat → PySem.Str} {c P' : Addr} {params : Arguments} {bd : Expr} {scope : Scope} {x0 : PySem.Str}
theorem pe_srtL (hcalm : X.calm = true) (TB : TabB X.base X.mg c P') (hcode : X.env.code = .ref c) (hm' : (P', nm) ∈ T) (hn : nm lpos.line lpos.col = X.env.qual ++ "<lambda>") (hu' : ∀ p ∈ T, p.1 = P' → p.2 = nm) (hdef : defaultsOf params X.env = ([], []))
    (hfree : ∀ y ∈ scope.names, y.2 = .free → X.env.scope.names.lookup y.1 = some .cell ∨ X.env.scope.names.lookup y.1 = some .free)
    (L : ∀ f c', LOk X.prog X.w X.K X.mg X.base CX0 k f (lamF X params scope c') bd [x0] fr (sp f c')) (cp : X.Ok → Caps X (cloFrom X.env.cells scope.names []) fr js) (hr : Room (k + 2) X.A) (hg : Gl X "sorted") (hm : X.mg "sorted" = none) (he : PE X e ta)
    (hs1 : starEach [e] X.env = (false, eval e X.env) :: starEach [] X.env := by rfl)
    (hst : backTo pos (starEach [e] X.env) = (false, eval e X.env) :: backTo pos (starEach [] X.env) := by rfl) (hpl : (backTo pos (starEach [e] X.env)).any (·.1) = false := by rfl)
    (hall : (backToKw pos (keywordEach [⟨some "key", .Lambda params bd scope lpos, kpos⟩] X.env)).all (·.1.isSome) = true := by rfl) (hno : (backToKw pos (keywordEach [⟨some "key", .Lambda params bd scope lpos, kpos⟩] X.env)).any (·.1.isNone) = false := by rfl)
    (hks : (backToKw pos (keywordEach [⟨some "key", .Lambda params bd scope lpos, kpos⟩] X.env)).filterMap (·.1) = [PySem.Str.ofString "key"] := by rfl) :
    PE X (.Call (.Name "sorted" p) [e] [⟨some "key", .Lambda params bd scope lpos, kpos⟩] pos) (tSrtL T (lamF X params scope) bd js sp ta) := by
  refine ⟨fun pins s σ H Q I h => ?_⟩
  refine wpAny_Call_Name_kw (ld_blt I hg hm rfl ?_ (by decide) (by decide))
  show wpAny _ _ (callWith pos (.builtin "sorted") [] _ _) _ _ _
  refine callWith_kw (thn ((pa_cons he pa_nil hs1).run pos pins s σ H (fun vs H1 => match vs with
    | [x] => TabsN T H1 ∧ ∀ (f c' : Addr) (H2 : Hp), ExtN H1 H2 → (∀ b, H2 b = none → H1 b = none) → TabsN T H2 → H1 f = none → H2 f = some (LmO f (lamF X params scope c') bd) → H2 c' = some (CodeO c' (lamF X params scope c').qual) →
        ∃ (d : Addr) (kvs : List (Key × V)) (ks : List PySem.Str) (kf : PySem.Str → Int), x = .ref d ∧ Rd H2 d (.dK kvs) ∧ kvs.map (·.1) = ks.map Sum.inr ∧ ks.length < 64 ∧
        (∀ y ∈ ks, ∀ H', Same H2 H' → sp f c' (js.map (slotAt σ)) [.str y] H' (fun v H3 => ∃ p, v = .ref p ∧ H' p = none ∧ H3 = upd H' p (.tup [.int (kf y), .str y])) E0) ∧
        ∀ (ys : List PySem.Str) p H', Same H2 H' → ys.Perm ks → ys.Pairwise (rkLe kf) → H' p = none → Q (.ref p) (upd H' p (.lst (ys.map V.str)))
    | _ => False) I h) fun us s1 hu => ?_) hst hpl hall hno
  obtain ⟨vs, H1, I1, r1, q1⟩ := hu
  match vs, q1 with
  | [x], q1 =>
    obtain ⟨hT, q1⟩ := q1
    refine wpAny_evalAll_cons (wpAny_bind (lam_mk I1 TB hcode hm' hn hu' hT hdef (fun y hy e => I1.ok.has _ (hfree y hy e)) fun f c' H2 s2 I2 x1 x2 T2 n1 hf hc => ?_))
    obtain ⟨d, kvs, ks, kf, rfl, hd, hk, h64, tu, fin⟩ := q1 f c' H2 x1 x2 T2 n1 hf hc
    refine wpAny_bind (wpAny_standAt (wpAny_pure ?_))
    refine wpAny_evalAll_nil ?_
    rw [hks]
    obtain rfl := Vals.ref1 r1
    have I3 := I2.tok s2.toks
    refine sortedKL hcalm hr.in1.in1 (q := f) (kf := kf) (ks := ks) (fun s' H' y t hy I' sm => ?_) I2 hd hk h64 fin
    have e0 := I'.env0
    have e1' : Env0 X.prog X.w X.K X.mg X.base X.A.in1.in1 X.stack s' H' := ⟨I2.ok.frames, e0.mod, e0.bs, e0.bsz, e0.funs, e0.frf, e0.hok, e0.bare⟩
    exact (L f c').run X.A.in1.in1 X.stack s' H' _ [.str y] _ _ E0 hr.in1.in1 e1' (sm _ _ hf) (sm _ _ hc) (cells_of I' (cp I'.ok)) (.cons ⟨t, rfl⟩ .nil) (tu y hy H' sm)
end
end Mc
namespace Mc
open PySem L2 PySem.Spec PyProof.Rows FbM LamX NdefX
/-! ### min(xs, key=lambda x: ..), max(..): xs a list or a tuple -/
structure Feed (X : Cx) (xs : List V) (it : Addr) (G : Hp → Prop) (tn : Nat → Heap → Prop) : Prop where
  same : ∀ H H', G H → Same H H' → G H'
  keep : ∀ i h h', tn i h → (∀ o, h.get? it = some o → h'.get? it = some o) → tn i h'
  obj : ∀ i h, tn i h → ∃ o, h.get? it = some o
  item : ∀ (A : Around) (pins : List (Addr × Obj)) (s : Shared) (σ : L2.St) (H : Hp) (Q : Option Value → Shared → Prop) (E : Value → Shared → Prop) (i : Nat) (x : V), Inv X pins σ H s → tn i s.heap → G H → xs[i]? = some x →
    (∀ u h', RelV x u → tn (i + 1) h' → Heap.SameBut it s.heap h' → Q (some u) { s with heap := h' }) → wpAny (model X.prog X.w) A (pyNext (.ref it)) Q E s
  done : ∀ (A : Around) (pins : List (Addr × Obj)) (s : Shared) (σ : L2.St) (H : Hp) (Q : Option Value → Shared → Prop) (E : Value → Shared → Prop) (i : Nat), A.handled = none → Inv X pins σ H s → tn i s.heap → G H → xs.length ≤ i →
    (∀ h', Heap.ExtBut it s.heap h' → Q none { s with heap := h' }) → wpAny (model X.prog X.w) A (pyNext (.ref it)) Q E s
theorem rd_sm {H H' : Hp} {a : Addr} {u : HO} (h : Rd H a u) (s : Same H H') : Rd H' a u := h.elim (fun z => .inl (s _ _ z)) fun ⟨o, z⟩ => .inr ⟨o, s _ _ z⟩
theorem feed_list {X : Cx} {xs : List V} (a it : Addr) : Feed X xs it (fun H => SqL X.K H a xs) (fun i h => h.IsListIter it a i) where
  same := fun H H' g s => g.elim (fun z => .inl (rd_sm z s)) .inr
  keep := fun i h h' st k => st.at fun o e => k o e
  obj := fun i h ⟨o, e, _, _⟩ => ⟨o, e⟩
  item := fun A pins s σ H Q E i x I st hq hx k => by
    obtain ⟨its, rv, p, hz⟩ := I.list hq
    obtain ⟨u, hu, ru⟩ := rv.get hx
    exact wpAny_pyNext_list_item st p.isList (x := u) (by simpa using hu) fun h' st' sb => k u h' ru st' sb
  done := fun A pins s σ H Q E i hh I st hq hi k => by
    obtain ⟨its, rv, p, hz⟩ := I.list hq
    have hl := rv.length
    exact wpAny_pyNext_list_end hh st p.isList (by simp; omega) k
theorem feed_tup {X : Cx} {xs : List V} (a it : Addr) : Feed X xs it (fun H => SqT X.K H a xs) (fun i h => h.IsTupleIter it a i) where
  same := fun H H' g s => g.elim (fun z => .inl (rd_sm z s)) .inr
  keep := fun i h h' st k => st.at fun o e => k o e
  obj := fun i h ⟨o, e, _, _⟩ => ⟨o, e⟩
  item := fun A pins s σ H Q E i x I st hq hx k => by
    obtain ⟨its, rv, p, hz⟩ := I.tuple hq
    obtain ⟨u, hu, ru⟩ := rv.get hx
    exact wpAny_pyNext_tuple_item st (show s.heap.IsTuple a its.toArray from p) (x := u) (by simpa using hu) fun h' st' sb => k u h' ru st' sb
  done := fun A pins s σ H Q E i hh I st hq hi k => by
    obtain ⟨its, rv, p, hz⟩ := I.tuple hq
    have hl := rv.length
    exact wpAny_pyNext_tuple_end hh st (show s.heap.IsTuple a its.toArray from p) (by simp; omega) k
/-- what is asked of the callable at each item -/
def CallsV (X : Cx) (A : Around) (pins : List (Addr × Obj)) (σ : L2.St) (q : Addr) (xs : List V) (KV : Nat → V → Hp → Prop) (H : Hp) : Prop :=
  ∀ (s' : Shared) (H' : Hp) (i : Nat) (x : V) (u : Value), xs[i]? = some x → RelV x u → Inv X pins σ H' s' → Same H H' → codeAny (model X.prog X.w) A (.call (.ref q) ⟨[u], []⟩) (CR CX0 X.stack X.prog X.w H' s' (fun v H2 => Same H' H2 ∧ KV i v H2) E0) s'
/-- keys are compared -/
def CmpV (X : Cx) (A : Around) (op : CmpOp) (KV : Nat → V → Hp → Prop) (bt : Nat → Nat → Bool) : Prop :=
  ∀ (pins : List (Addr × Obj)) (σ : L2.St) (H : Hp) (s : Shared) (i j : Nat) (x y : V) (u v : Value) (Q : Value → Shared → Prop) (E : Value → Shared → Prop), Inv X pins σ H s → KV i x H → RelV x u → KV j y H → RelV y v → Q (.bool (bt i j)) s → wpAny (model X.prog X.w) A (richCompare op u v) Q E s
/-- the first best -/
structure FstBest (bt : Nat → Nat → Bool) (n i : Nat) : Prop where
  no : ∀ j, j < n → bt j i = false
  yes : ∀ j, j < i → bt i j = true
section
variable {X : Cx} {pins : List (Addr × Obj)} {σ : L2.St} {H : Hp} {s : Shared} {k : Nat} {q it S : Addr} {xs : List V} {KV : Nat → V → Hp → Prop} {bt : Nat → Nat → Bool} {G : Hp → Prop} {tn : Nat → Heap → Prop} {A : Around} {E : Value → Shared → Prop} {R : Result → Shared → Prop}
theorem seq_keep {h h' : Heap} {a : Addr} {o : Obj} (e : h.get? a = some o) (sb : Heap.SameBut it h h') (ne : a ≠ it) : h'.get? a = some o := (sb.2 a ne).trans e

theorem min_loop (hh : A.in1.handled = none) (F : Feed X xs it G tn) (ri : Rec X pins it) (rs : Rec X pins S) (hSI : S ≠ it) (hcall : CallsV X A.in1 pins σ q xs KV H) (hcmp : CmpV X A.in1 .Lt KV bt) (hKV : ∀ i v H1 H2, KV i v H1 → Same H1 H2 → KV i v H2)
    (hT : ∀ i j l, bt i j = true → bt l j = false → bt i l = true) (hA : ∀ i j, bt i j = true → bt j i = false) (hI : ∀ i, bt i i = false)
    (hR : ∀ i x u s' H', Inv X pins σ H' s' → Same H H' → xs[i]? = some x → RelV x u → FstBest bt xs.length i → R (.ok (.ret u)) s') :
    ∀ (r j i : Nat) (s' : Shared) (H' : Hp) (vb kb : Value) (xb yb : V) (c : Nat), xs.length - (j + 1) = r → j + 1 ≤ xs.length → Inv X pins σ H' s' → Same H H' → G H' → H' it = none → H' S = none → tn (j + 1) s'.heap →
      s'.heap.get? S = some (seqObj "list" #[vb, kb] c) → xs[i]? = some xb → RelV xb vb → KV i yb H' → RelV yb kb → i ≤ j → FstBest bt (j + 1) i →
      codeAny (model X.prog X.w) A (.builtin "min.loop" ⟨[.ref it, .ref q, .ref S], []⟩) R s' := by
  have hname : (toString "min" ++ toString ".loop" : String) = "min.loop" := by decide
  intro r
  induction r with
  | zero =>
    intro j i s' H' vb kb xb yb c hr hj I sm g ni nS st hS hxb rvb hk rkb hij hbest
    have hin : xs.length = j + 1 := by omega
    refine codeAny_builtin PySem.F.entry_min_loop ?_
    rw [Around.under_plainId PySem.F.plain_min_loop _]
    show wpAny _ A.in1 (seqItems? (.ref S) >>= _) _ _ _
    refine wpAny_bind (wpAny_seqItems hS rfl ?_)
    show wpAny _ A.in1 (tryCatch (pyNext (.ref it)) _ >>= _) _ _ _
    refine wpAny_bind (wpAny_tryCatch (F.done A.in1 pins s' σ H' _ _ (j + 1) hh I st g (by omega) fun h' eb => ?_))
    have I1 : Inv X pins σ H' { s' with heap := h' } := ri.turn (t' := s'.toks) I ni fun c o hc e => eb c o hc e
    have hS' : h'.get? S = some (seqObj "list" #[vb, kb] c) := eb S _ hSI hS
    show wpAny _ A.in1 (updateSeq S (fun _ => #[]) >>= _) _ _ _
    refine wpAny_bind ?_
    refine wpAny_updateSeq hS' rfl (wpAny_bind (wpAny_letGo (wpAny_pure ?_)))
    have sb : Heap.SameBut S h' (h'.update S (Obj.mapSeq fun _ => (#[] : Array Value))) := Heap.SameBut.update ..
    exact hR i xb vb _ H' (rs.turn (t' := s'.toks) I1 nS fun c o hc e => sb.extBut c o hc e) sm hxb rvb (by rw [hin]; exact hbest)
  | succ r ih =>
    intro j i s' H' vb kb xb yb c hr hj I sm g ni nS st hS hxb rvb hk rkb hij hbest
    have hlt : j + 1 < xs.length := by omega
    refine codeAny_builtin PySem.F.entry_min_loop ?_
    rw [Around.under_plainId PySem.F.plain_min_loop _]
    show wpAny _ A.in1 (seqItems? (.ref S) >>= _) _ _ _
    refine wpAny_bind (wpAny_seqItems hS rfl ?_)
    show wpAny _ A.in1 (tryCatch (pyNext (.ref it)) _ >>= _) _ _ _
    refine wpAny_bind (wpAny_tryCatch (F.item A.in1 pins s' σ H' _ _ (j + 1) _ I st g (List.getElem?_eq_getElem hlt) fun u h' ru st' sb => ?_))
    have hx := List.getElem?_eq_getElem hlt
    generalize xs[j + 1] = x at ru hx
    have I1 : Inv X pins σ H' { s' with heap := h' } := ri.turn (t' := s'.toks) I ni fun c o hc e => sb.extBut c o hc e
    have hS' : h'.get? S = some (seqObj "list" #[vb, kb] c) := sb.extBut S _ hSI hS
    show wpAny _ A.in1 (tryCatch (holding [u] (call (.ref q) [u])) _ >>= _) _ _ _
    refine wpAny_bind (wpAny_tryCatch (wpAny_holding (wpAny_call (codeAny_mono (hcall _ H' (j + 1) x u hx ru I1 sm) fun rr s2 hrr => ?_))))
    cases rr with
    | error er => exact False.elim hrr
    | ok fl =>
      cases fl with
      | next => exact False.elim hrr
      | brk => exact False.elim hrr
      | cont => exact False.elim hrr
      | ret v =>
        obtain ⟨v', H2, os, bare, un, hok, rv', sm2, hk2⟩ := (show CE X.stack X.prog X.w H' { s' with heap := h' } _ v s2 from hrr)
        have I2 : Inv X pins σ H2 s2 := I1.call' os un hok bare (fun b z => absurd z List.not_mem_nil)
        have keep : ∀ {b : Addr} {ob : Obj}, Rec X pins b → H' b = none → h'.get? b = some ob → s2.heap.get? b = some ob := fun rb ub eb => un.keep _ _ eb ub rb.fr List.not_mem_nil
        have fr2 : ∀ {b : Addr} {ob : Obj}, H' b = none → h'.get? b = some ob → H2 b = none := fun ub eb => un.free _ _ eb ub List.not_mem_nil
        have st2 : tn (j + 1 + 1) s2.heap := F.keep _ _ _ st' fun o e => keep ri ni e
        obtain ⟨oi, hoi⟩ := F.obj _ _ st'
        have ni2 := fr2 ni hoi
        have nS2 := fr2 nS hS'
        have hS2 := keep rs nS hS'
        have sm12 : Same H H2 := sm.trans sm2
        have hkb2 := hKV _ _ _ _ hk sm2
        have g2 := F.same _ _ g sm2
        try dsimp only
        show wpAny _ A.in1 (tryCatch (holding [u, v] (richCompare .Lt v kb >>= _)) _ >>= _) _ _ _
        refine wpAny_bind (wpAny_tryCatch (wpAny_holding (wpAny_bind (hcmp pins σ H2 s2 (j + 1) i v' yb v kb _ _ I2 hk2 rv' hkb2 rkb ?_))))
        refine wpAny_bind (wpAny_holding (wpAny_truthy_bool ?_))
        refine wpAny_bind (wpAny_letGo (wpAny_pure ?_))
        by_cases hb' : bt (j + 1) i = true
        · simp only [hb', if_true]
          obtain ⟨h2, g2', d2, t2, o2⟩ := s2
          have sb2 : Heap.SameBut S h2 (h2.update S (Obj.mapSeq fun _ => #[u, v])) := Heap.SameBut.update ..
          obtain ⟨c2, hc2⟩ : ∃ c2, (h2.update S (Obj.mapSeq fun _ => #[u, v])).get? S = some (seqObj "list" #[u, v] c2) := ⟨_, get?_update_seq hS2 fun _ => #[u, v]⟩
          refine wpAny_bind ?_
          refine wpAny_updateSeq hS2 rfl (wpAny_bind (wpAny_letGo ?_))
          rw [hname]
          have I3 : Inv X pins σ H2 (⟨h2.update S (Obj.mapSeq fun _ => #[u, v]), g2', d2, t2, o2⟩ : Shared) := rs.turn (t' := t2) I2 nS2 fun c o hc e => sb2.extBut c o hc e
          refine wpAny_pure ⟨plainId_quiet PySem.F.plain_min_loop _, ih (j + 1) (j + 1) _ H2 u v x v' c2 (by omega) hlt I3 sm12 g2 ni2 nS2 (F.keep _ _ _ st2 fun o e => sb2.extBut it o hSI.symm e) hc2 hx ru hk2 rv' (Nat.le_refl _) ⟨fun j' hj' => ?_, fun j' hj' => ?_⟩⟩
          · by_cases e : j' = j + 1
            · rw [e]; exact hI _
            · exact hA _ _ (hT _ _ _ hb' (hbest.no j' (by omega)))
          · exact hT _ _ _ hb' (hbest.no j' (by omega))
        · have hb'' : bt (j + 1) i = false := by simpa using hb'
          simp only [hb'', Bool.false_eq_true, if_false]
          refine wpAny_bind (wpAny_letGo ?_)
          rw [hname]
          refine wpAny_pure ⟨plainId_quiet PySem.F.plain_min_loop _, ih (j + 1) i s2 H2 vb kb xb yb c (by omega) hlt I2 sm12 g2 ni2 nS2 st2 hS2 hxb rvb hkb2 rkb (by omega) ⟨fun j' hj' => ?_, hbest.yes⟩⟩
          by_cases e : j' = j + 1
          · rw [e]; exact hb''
          · exact hbest.no j' (by omega)
theorem min_key {tf : Addr → Nat → Heap → Prop} (hh : A.in1.handled = none) (mk : ∀ l' : Addr, H l' = none → Feed X xs l' G (tf l')) (nx : xs ≠ []) (hcall : CallsV X A.in1 pins σ q xs KV H) (hcmp : CmpV X A.in1 .Lt KV bt) (hKV : ∀ i v H1 H2, KV i v H1 → Same H1 H2 → KV i v H2)
    (hT : ∀ i j l, bt i j = true → bt l j = false → bt i l = true) (hA : ∀ i j, bt i j = true → bt j i = false) (hI : ∀ i, bt i i = false) (g : G H) (I : Inv X pins σ H s) {Q : Value → Shared → Prop} {u0 : Value}
    (iter : ∀ (Q' : Value → Shared → Prop), (∀ (o : Obj), tf s.heap.objs.size 0 (s.heap.push o) → Q' (.ref s.heap.objs.size) { s with heap := s.heap.push o }) → wpAny (model X.prog X.w) A.in1 (pyIter u0) Q' E s)
    (hR : ∀ i x u s' H', Inv X pins σ H' s' → Same H H' → xs[i]? = some x → RelV x u → FstBest bt xs.length i → Q u s') :
    wpAny (model X.prog X.w) A (call (.builtin "min") [u0] [(PySem.Str.ofString "key", .ref q)]) Q E s := by
  have hname : (toString "min" ++ toString ".loop" : String) = "min.loop" := by decide
  refine kmk_tree PySem.F.kind_min PySem.F.plain_min PySem.F.entry_min (kmk_min_key _ _) ?_
  show wpAny _ A.in1 (Builtin.Builtins.bindParams "min" ["key", "default"] 0 ⟨[], [(PySem.Str.ofString "key", .ref q)]⟩ >>= _) _ _ s
  refine wpAny_bind (wpAny_of_eq (show Builtin.Builtins.bindParams "min" ["key", "default"] 0 ⟨[], [(PySem.Str.ofString "key", .ref q)]⟩ = pure [some (.ref q), none] from rfl) ?_)
  refine wpAny_bind (wpAny_pure ?_)
  refine wpAny_bind (iter _ fun oI st => ?_)
  have hni : H s.heap.objs.size = none := I.hok.fresh (Nat.le_refl _)
  have F := mk s.heap.objs.size hni
  have ri : Rec X pins s.heap.objs.size := rec_new I (Nat.le_refl _)
  have I1 : Inv X pins σ H { s with heap := s.heap.push oI } := I.kept (t' := s.toks) fun b u e => Heap.get?_push_of_some _ e
  have hSn : (s.heap.push oI).objs.size ≠ s.heap.objs.size := by rw [size_push']; omega
  refine wpAny_bind (wpAny_newList ?_ (Nat.zero_le _))
  rw [hname]
  have nS : H (s.heap.push oI).objs.size = none := I1.hok.fresh (Nat.le_refl _)
  have rs : Rec X pins (s.heap.push oI).objs.size := rec_new I1 (Nat.le_refl _)
  have I2 : Inv X pins σ H { s with heap := (s.heap.push oI).push (seqObj "list" #[] 0) } := I1.kept (t' := s.toks) fun b u e => Heap.get?_push_of_some _ e
  have gS : ((s.heap.push oI).push (seqObj "list" #[] 0)).get? (s.heap.push oI).objs.size = some (seqObj "list" #[] 0) := Heap.get?_push_size _ rfl
  have st1 : tf s.heap.objs.size 0 ((s.heap.push oI).push (seqObj "list" #[] 0)) := F.keep _ _ _ st fun o e => Heap.get?_push_of_some _ e
  refine wpAny_pure ⟨plainId_quiet PySem.F.plain_min_loop _, ?_⟩
  generalize (s.heap.push oI).objs.size = S at hSn nS rs gS
  generalize hh2 : (s.heap.push oI).push (seqObj "list" #[] 0) = hp at I2 gS st1
  obtain ⟨x0, xs', e⟩ := List.exists_cons_of_ne_nil nx
  have hx : xs[0]? = some x0 := by rw [e]; rfl
  refine codeAny_builtin PySem.F.entry_min_loop ?_
  rw [Around.under_plainId PySem.F.plain_min_loop _]
  show wpAny _ A.in1 (seqItems? (.ref _) >>= _) _ _ _
  refine wpAny_bind (wpAny_seqItems gS rfl ?_)
  show wpAny _ A.in1 (tryCatch (pyNext (.ref s.heap.objs.size)) _ >>= _) _ _ _
  refine wpAny_bind (wpAny_tryCatch (F.item A.in1 pins _ σ H _ _ 0 x0 I2 st1 g hx fun u h' ru st' sb => ?_))
  have I3 : Inv X pins σ H { s with heap := h' } := Rec.turn (s := { s with heap := hp }) (t' := s.toks) ri I2 hni fun c o hc e => sb.extBut c o hc e
  have hS' : h'.get? S = some (seqObj "list" #[] 0) := sb.extBut S _ hSn gS
  show wpAny _ A.in1 (tryCatch (holding [u] (call (.ref q) [u])) _ >>= _) _ _ _
  refine wpAny_bind (wpAny_tryCatch (wpAny_holding (wpAny_call (codeAny_mono (hcall _ H 0 x0 u hx ru I3 fun _ _ z => z) fun rr s2 hrr => ?_))))
  cases rr with
  | error er => exact False.elim hrr
  | ok fl =>
    cases fl with
    | next => exact False.elim hrr
    | brk => exact False.elim hrr
    | cont => exact False.elim hrr
    | ret v =>
      obtain ⟨v', H2, os, bare, un, hok, rv', sm2, hk2⟩ := (show CE X.stack X.prog X.w H { s with heap := h' } _ v s2 from hrr)
      have I4 : Inv X pins σ H2 s2 := I3.call' os un hok bare (fun b z => absurd z List.not_mem_nil)
      have keep : ∀ {b : Addr} {ob : Obj}, Rec X pins b → H b = none → h'.get? b = some ob → s2.heap.get? b = some ob := fun rb ub eb => un.keep _ _ eb ub rb.fr List.not_mem_nil
      have fr2 : ∀ {b : Addr} {ob : Obj}, H b = none → h'.get? b = some ob → H2 b = none := fun ub eb => un.free _ _ eb ub List.not_mem_nil
      have st2 : tf s.heap.objs.size (0 + 1) s2.heap := F.keep _ _ _ st' fun o e => keep ri hni e
      obtain ⟨oi, hoi⟩ := F.obj _ _ st'
      have ni2 := fr2 hni hoi
      have nS2 := fr2 nS hS'
      have hS2 := keep rs nS hS'
      have g2 := F.same _ _ g sm2
      try dsimp only
      obtain ⟨h2, g2', d2, t2, o2⟩ := s2
      have sb2 : Heap.SameBut S h2 (h2.update S (Obj.mapSeq fun _ => #[u, v])) := Heap.SameBut.update ..
      obtain ⟨c2, hc2⟩ : ∃ c2, (h2.update S (Obj.mapSeq fun _ => #[u, v])).get? S = some (seqObj "list" #[u, v] c2) := ⟨_, get?_update_seq hS2 fun _ => #[u, v]⟩
      show wpAny _ A.in1 (updateSeq S (fun _ => #[u, v]) >>= _) _ _ _
      refine wpAny_bind ?_
      refine wpAny_updateSeq hS2 rfl ?_
      rw [hname]
      have I5 : Inv X pins σ H2 (⟨h2.update S (Obj.mapSeq fun _ => #[u, v]), g2', d2, t2, o2⟩ : Shared) := rs.turn (t' := t2) I4 nS2 fun c o hc e => sb2.extBut c o hc e
      refine wpAny_pure ⟨plainId_quiet PySem.F.plain_min_loop _, min_loop hh F ri rs hSn hcall hcmp hKV hT hA hI ?_ _ 0 0 _ H2 u v x0 v' c2 rfl (by rw [e]; simp) I5 sm2 g2 ni2 nS2 (F.keep _ _ _ st2 fun o e => sb2.extBut _ o hSn.symm e) hc2 hx ru hk2 rv' (Nat.le_refl _) ⟨fun j' hj' => ?_, fun j' hj' => absurd hj' (Nat.not_lt_zero _)⟩⟩
      · exact fun i x u s' H' J sm hx hr hb => hR i x u s' H' J sm hx hr hb
      · rw [show j' = 0 by omega]; exact hI _

theorem max_loop (hh : A.in1.handled = none) (F : Feed X xs it G tn) (ri : Rec X pins it) (rs : Rec X pins S) (hSI : S ≠ it) (hcall : CallsV X A.in1 pins σ q xs KV H) (hcmp : CmpV X A.in1 .Gt KV bt) (hKV : ∀ i v H1 H2, KV i v H1 → Same H1 H2 → KV i v H2)
    (hT : ∀ i j l, bt i j = true → bt l j = false → bt i l = true) (hA : ∀ i j, bt i j = true → bt j i = false) (hI : ∀ i, bt i i = false)
    (hR : ∀ i x u s' H', Inv X pins σ H' s' → Same H H' → xs[i]? = some x → RelV x u → FstBest bt xs.length i → R (.ok (.ret u)) s') :
    ∀ (r j i : Nat) (s' : Shared) (H' : Hp) (vb kb : Value) (xb yb : V) (c : Nat), xs.length - (j + 1) = r → j + 1 ≤ xs.length → Inv X pins σ H' s' → Same H H' → G H' → H' it = none → H' S = none → tn (j + 1) s'.heap →
      s'.heap.get? S = some (seqObj "list" #[vb, kb] c) → xs[i]? = some xb → RelV xb vb → KV i yb H' → RelV yb kb → i ≤ j → FstBest bt (j + 1) i →
      codeAny (model X.prog X.w) A (.builtin "max.loop" ⟨[.ref it, .ref q, .ref S], []⟩) R s' := by
  have hname : (toString "max" ++ toString ".loop" : String) = "max.loop" := by decide
  intro r
  induction r with
  | zero =>
    intro j i s' H' vb kb xb yb c hr hj I sm g ni nS st hS hxb rvb hk rkb hij hbest
    have hin : xs.length = j + 1 := by omega
    refine codeAny_builtin PySem.F.entry_max_loop ?_
    rw [Around.under_plainId PySem.F.plain_max_loop _]
    show wpAny _ A.in1 (seqItems? (.ref S) >>= _) _ _ _
    refine wpAny_bind (wpAny_seqItems hS rfl ?_)
    show wpAny _ A.in1 (tryCatch (pyNext (.ref it)) _ >>= _) _ _ _
    refine wpAny_bind (wpAny_tryCatch (F.done A.in1 pins s' σ H' _ _ (j + 1) hh I st g (by omega) fun h' eb => ?_))
    have I1 : Inv X pins σ H' { s' with heap := h' } := ri.turn (t' := s'.toks) I ni fun c o hc e => eb c o hc e
    have hS' : h'.get? S = some (seqObj "list" #[vb, kb] c) := eb S _ hSI hS
    show wpAny _ A.in1 (updateSeq S (fun _ => #[]) >>= _) _ _ _
    refine wpAny_bind ?_
    refine wpAny_updateSeq hS' rfl (wpAny_bind (wpAny_letGo (wpAny_pure ?_)))
    have sb : Heap.SameBut S h' (h'.update S (Obj.mapSeq fun _ => (#[] : Array Value))) := Heap.SameBut.update ..
    exact hR i xb vb _ H' (rs.turn (t' := s'.toks) I1 nS fun c o hc e => sb.extBut c o hc e) sm hxb rvb (by rw [hin]; exact hbest)
  | succ r ih =>
    intro j i s' H' vb kb xb yb c hr hj I sm g ni nS st hS hxb rvb hk rkb hij hbest
    have hlt : j + 1 < xs.length := by omega
    refine codeAny_builtin PySem.F.entry_max_loop ?_
    rw [Around.under_plainId PySem.F.plain_max_loop _]
    show wpAny _ A.in1 (seqItems? (.ref S) >>= _) _ _ _
    refine wpAny_bind (wpAny_seqItems hS rfl ?_)
    show wpAny _ A.in1 (tryCatch (pyNext (.ref it)) _ >>= _) _ _ _
    refine wpAny_bind (wpAny_tryCatch (F.item A.in1 pins s' σ H' _ _ (j + 1) _ I st g (List.getElem?_eq_getElem hlt) fun u h' ru st' sb => ?_))
    have hx := List.getElem?_eq_getElem hlt
    generalize xs[j + 1] = x at ru hx
    have I1 : Inv X pins σ H' { s' with heap := h' } := ri.turn (t' := s'.toks) I ni fun c o hc e => sb.extBut c o hc e
    have hS' : h'.get? S = some (seqObj "list" #[vb, kb] c) := sb.extBut S _ hSI hS
    show wpAny _ A.in1 (tryCatch (holding [u] (call (.ref q) [u])) _ >>= _) _ _ _
    refine wpAny_bind (wpAny_tryCatch (wpAny_holding (wpAny_call (codeAny_mono (hcall _ H' (j + 1) x u hx ru I1 sm) fun rr s2 hrr => ?_))))
    cases rr with
    | error er => exact False.elim hrr
    | ok fl =>
      cases fl with
      | next => exact False.elim hrr
      | brk => exact False.elim hrr
      | cont => exact False.elim hrr
      | ret v =>
        obtain ⟨v', H2, os, bare, un, hok, rv', sm2, hk2⟩ := (show CE X.stack X.prog X.w H' { s' with heap := h' } _ v s2 from hrr)
        have I2 : Inv X pins σ H2 s2 := I1.call' os un hok bare (fun b z => absurd z List.not_mem_nil)
        have keep : ∀ {b : Addr} {ob : Obj}, Rec X pins b → H' b = none → h'.get? b = some ob → s2.heap.get? b = some ob := fun rb ub eb => un.keep _ _ eb ub rb.fr List.not_mem_nil
        have fr2 : ∀ {b : Addr} {ob : Obj}, H' b = none → h'.get? b = some ob → H2 b = none := fun ub eb => un.free _ _ eb ub List.not_mem_nil
        have st2 : tn (j + 1 + 1) s2.heap := F.keep _ _ _ st' fun o e => keep ri ni e
        obtain ⟨oi, hoi⟩ := F.obj _ _ st'
        have ni2 := fr2 ni hoi
        have nS2 := fr2 nS hS'
        have hS2 := keep rs nS hS'
        have sm12 : Same H H2 := sm.trans sm2
        have hkb2 := hKV _ _ _ _ hk sm2
        have g2 := F.same _ _ g sm2
        try dsimp only
        show wpAny _ A.in1 (tryCatch (holding [u, v] (richCompare .Gt v kb >>= _)) _ >>= _) _ _ _
        refine wpAny_bind (wpAny_tryCatch (wpAny_holding (wpAny_bind (hcmp pins σ H2 s2 (j + 1) i v' yb v kb _ _ I2 hk2 rv' hkb2 rkb ?_))))
        refine wpAny_bind (wpAny_holding (wpAny_truthy_bool ?_))
        refine wpAny_bind (wpAny_letGo (wpAny_pure ?_))
        by_cases hb' : bt (j + 1) i = true
        · simp only [hb', if_true]
          obtain ⟨h2, g2', d2, t2, o2⟩ := s2
          have sb2 : Heap.SameBut S h2 (h2.update S (Obj.mapSeq fun _ => #[u, v])) := Heap.SameBut.update ..
          obtain ⟨c2, hc2⟩ : ∃ c2, (h2.update S (Obj.mapSeq fun _ => #[u, v])).get? S = some (seqObj "list" #[u, v] c2) := ⟨_, get?_update_seq hS2 fun _ => #[u, v]⟩
          refine wpAny_bind ?_
          refine wpAny_updateSeq hS2 rfl (wpAny_bind (wpAny_letGo ?_))
          rw [hname]
          have I3 : Inv X pins σ H2 (⟨h2.update S (Obj.mapSeq fun _ => #[u, v]), g2', d2, t2, o2⟩ : Shared) := rs.turn (t' := t2) I2 nS2 fun c o hc e => sb2.extBut c o hc e
          refine wpAny_pure ⟨plainId_quiet PySem.F.plain_max_loop _, ih (j + 1) (j + 1) _ H2 u v x v' c2 (by omega) hlt I3 sm12 g2 ni2 nS2 (F.keep _ _ _ st2 fun o e => sb2.extBut it o hSI.symm e) hc2 hx ru hk2 rv' (Nat.le_refl _) ⟨fun j' hj' => ?_, fun j' hj' => ?_⟩⟩
          · by_cases e : j' = j + 1
            · rw [e]; exact hI _
            · exact hA _ _ (hT _ _ _ hb' (hbest.no j' (by omega)))
          · exact hT _ _ _ hb' (hbest.no j' (by omega))
        · have hb'' : bt (j + 1) i = false := by simpa using hb'
          simp only [hb'', Bool.false_eq_true, if_false]
          refine wpAny_bind (wpAny_letGo ?_)
          rw [hname]
          refine wpAny_pure ⟨plainId_quiet PySem.F.plain_max_loop _, ih (j + 1) i s2 H2 vb kb xb yb c (by omega) hlt I2 sm12 g2 ni2 nS2 st2 hS2 hxb rvb hkb2 rkb (by omega) ⟨fun j' hj' => ?_, hbest.yes⟩⟩
          by_cases e : j' = j + 1
          · rw [e]; exact hb''
          · exact hbest.no j' (by omega)
theorem max_key {tf : Addr → Nat → Heap → Prop} (hh : A.in1.handled = none) (mk : ∀ l' : Addr, H l' = none → Feed X xs l' G (tf l')) (nx : xs ≠ []) (hcall : CallsV X A.in1 pins σ q xs KV H) (hcmp : CmpV X A.in1 .Gt KV bt) (hKV : ∀ i v H1 H2, KV i v H1 → Same H1 H2 → KV i v H2)
    (hT : ∀ i j l, bt i j = true → bt l j = false → bt i l = true) (hA : ∀ i j, bt i j = true → bt j i = false) (hI : ∀ i, bt i i = false) (g : G H) (I : Inv X pins σ H s) {Q : Value → Shared → Prop} {u0 : Value}
    (iter : ∀ (Q' : Value → Shared → Prop), (∀ (o : Obj), tf s.heap.objs.size 0 (s.heap.push o) → Q' (.ref s.heap.objs.size) { s with heap := s.heap.push o }) → wpAny (model X.prog X.w) A.in1 (pyIter u0) Q' E s)
    (hR : ∀ i x u s' H', Inv X pins σ H' s' → Same H H' → xs[i]? = some x → RelV x u → FstBest bt xs.length i → Q u s') :
    wpAny (model X.prog X.w) A (call (.builtin "max") [u0] [(PySem.Str.ofString "key", .ref q)]) Q E s := by
  have hname : (toString "max" ++ toString ".loop" : String) = "max.loop" := by decide
  refine kmk_tree PySem.F.kind_max PySem.F.plain_max PySem.F.entry_max (kmk_max_key _ _) ?_
  show wpAny _ A.in1 (Builtin.Builtins.bindParams "max" ["key", "default"] 0 ⟨[], [(PySem.Str.ofString "key", .ref q)]⟩ >>= _) _ _ s
  refine wpAny_bind (wpAny_of_eq (show Builtin.Builtins.bindParams "max" ["key", "default"] 0 ⟨[], [(PySem.Str.ofString "key", .ref q)]⟩ = pure [some (.ref q), none] from rfl) ?_)
  refine wpAny_bind (wpAny_pure ?_)
  refine wpAny_bind (iter _ fun oI st => ?_)
  have hni : H s.heap.objs.size = none := I.hok.fresh (Nat.le_refl _)
  have F := mk s.heap.objs.size hni
  have ri : Rec X pins s.heap.objs.size := rec_new I (Nat.le_refl _)
  have I1 : Inv X pins σ H { s with heap := s.heap.push oI } := I.kept (t' := s.toks) fun b u e => Heap.get?_push_of_some _ e
  have hSn : (s.heap.push oI).objs.size ≠ s.heap.objs.size := by rw [size_push']; omega
  refine wpAny_bind (wpAny_newList ?_ (Nat.zero_le _))
  rw [hname]
  have nS : H (s.heap.push oI).objs.size = none := I1.hok.fresh (Nat.le_refl _)
  have rs : Rec X pins (s.heap.push oI).objs.size := rec_new I1 (Nat.le_refl _)
  have I2 : Inv X pins σ H { s with heap := (s.heap.push oI).push (seqObj "list" #[] 0) } := I1.kept (t' := s.toks) fun b u e => Heap.get?_push_of_some _ e
  have gS : ((s.heap.push oI).push (seqObj "list" #[] 0)).get? (s.heap.push oI).objs.size = some (seqObj "list" #[] 0) := Heap.get?_push_size _ rfl
  have st1 : tf s.heap.objs.size 0 ((s.heap.push oI).push (seqObj "list" #[] 0)) := F.keep _ _ _ st fun o e => Heap.get?_push_of_some _ e
  refine wpAny_pure ⟨plainId_quiet PySem.F.plain_max_loop _, ?_⟩
  generalize (s.heap.push oI).objs.size = S at hSn nS rs gS
  generalize hh2 : (s.heap.push oI).push (seqObj "list" #[] 0) = hp at I2 gS st1
  obtain ⟨x0, xs', e⟩ := List.exists_cons_of_ne_nil nx
  have hx : xs[0]? = some x0 := by rw [e]; rfl
  refine codeAny_builtin PySem.F.entry_max_loop ?_
  rw [Around.under_plainId PySem.F.plain_max_loop _]
  show wpAny _ A.in1 (seqItems? (.ref _) >>= _) _ _ _
  refine wpAny_bind (wpAny_seqItems gS rfl ?_)
  show wpAny _ A.in1 (tryCatch (pyNext (.ref s.heap.objs.size)) _ >>= _) _ _ _
  refine wpAny_bind (wpAny_tryCatch (F.item A.in1 pins _ σ H _ _ 0 x0 I2 st1 g hx fun u h' ru st' sb => ?_))
  have I3 : Inv X pins σ H { s with heap := h' } := Rec.turn (s := { s with heap := hp }) (t' := s.toks) ri I2 hni fun c o hc e => sb.extBut c o hc e
  have hS' : h'.get? S = some (seqObj "list" #[] 0) := sb.extBut S _ hSn gS
  show wpAny _ A.in1 (tryCatch (holding [u] (call (.ref q) [u])) _ >>= _) _ _ _
  refine wpAny_bind (wpAny_tryCatch (wpAny_holding (wpAny_call (codeAny_mono (hcall _ H 0 x0 u hx ru I3 fun _ _ z => z) fun rr s2 hrr => ?_))))
  cases rr with
  | error er => exact False.elim hrr
  | ok fl =>
    cases fl with
    | next => exact False.elim hrr
    | brk => exact False.elim hrr
    | cont => exact False.elim hrr
    | ret v =>
      obtain ⟨v', H2, os, bare, un, hok, rv', sm2, hk2⟩ := (show CE X.stack X.prog X.w H { s with heap := h' } _ v s2 from hrr)
      have I4 : Inv X pins σ H2 s2 := I3.call' os un hok bare (fun b z => absurd z List.not_mem_nil)
      have keep : ∀ {b : Addr} {ob : Obj}, Rec X pins b → H b = none → h'.get? b = some ob → s2.heap.get? b = some ob := fun rb ub eb => un.keep _ _ eb ub rb.fr List.not_mem_nil
      have fr2 : ∀ {b : Addr} {ob : Obj}, H b = none → h'.get? b = some ob → H2 b = none := fun ub eb => un.free _ _ eb ub List.not_mem_nil
      have st2 : tf s.heap.objs.size (0 + 1) s2.heap := F.keep _ _ _ st' fun o e => keep ri hni e
      obtain ⟨oi, hoi⟩ := F.obj _ _ st'
      have ni2 := fr2 hni hoi
      have nS2 := fr2 nS hS'
      have hS2 := keep rs nS hS'
      have g2 := F.same _ _ g sm2
      try dsimp only
      obtain ⟨h2, g2', d2, t2, o2⟩ := s2
      have sb2 : Heap.SameBut S h2 (h2.update S (Obj.mapSeq fun _ => #[u, v])) := Heap.SameBut.update ..
      obtain ⟨c2, hc2⟩ : ∃ c2, (h2.update S (Obj.mapSeq fun _ => #[u, v])).get? S = some (seqObj "list" #[u, v] c2) := ⟨_, get?_update_seq hS2 fun _ => #[u, v]⟩
      show wpAny _ A.in1 (updateSeq S (fun _ => #[u, v]) >>= _) _ _ _
      refine wpAny_bind ?_
      refine wpAny_updateSeq hS2 rfl ?_
      rw [hname]
      have I5 : Inv X pins σ H2 (⟨h2.update S (Obj.mapSeq fun _ => #[u, v]), g2', d2, t2, o2⟩ : Shared) := rs.turn (t' := t2) I4 nS2 fun c o hc e => sb2.extBut c o hc e
      refine wpAny_pure ⟨plainId_quiet PySem.F.plain_max_loop _, max_loop hh F ri rs hSn hcall hcmp hKV hT hA hI ?_ _ 0 0 _ H2 u v x0 v' c2 rfl (by rw [e]; simp) I5 sm2 g2 ni2 nS2 (F.keep _ _ _ st2 fun o e => sb2.extBut _ o hSn.symm e) hc2 hx ru hk2 rv' (Nat.le_refl _) ⟨fun j' hj' => ?_, fun j' hj' => absurd hj' (Nat.not_lt_zero _)⟩⟩
      · exact fun i x u s' H' J sm hx hr hb => hR i x u s' H' J sm hx hr hb
      · rw [show j' = 0 by omega]; exact hI _
end
end Mc
namespace Mc
open PySem L2 PySem.Spec PyProof.Rows
section
variable {X : Cx}
theorem sw_dict {kx vx : Expr} {gs : List Comprehension} {scope : Scope} {pos py : Pos} {y : PySem.Str} {n : Nat} {env : Env} (h1 : env.scope.kind = .function) (h2 : env.scope.names.lookup y = some .local) (h3 : (py.line == pos.line) = true)
    (h4 : (scope.names.any fun (n, k) => n == y && (k == .local || k == .cell)) = false) : swapsWith (.DictComp kx vx gs scope pos) (some (.Name y py)) n env = pure true := by
  have a : env.kindOf y = some .local := h2
  have b : env.blockKind = .function := by simp only [Env.blockKind, h1]; rfl
  simp only [swapsWith, a, b, h4, Expr.pos, h3]; rfl
/-- name = {..} on one line, the name a plain local -/
theorem ps_setDc {i : Nat} {y : PySem.Str} {py : Pos} {kx vx tg iter : Expr} {ifs : List Expr} {scope : Scope} {own : List (PySem.Str × Nat)} {pos spos : Pos} {wi : TI} {g : TG} {tt : TT} {tk tv : TE} (hc : X.calm = true) (hN : X.N.Nodup) (hy : X.N[i]? = some y) (hl : X.env.scope.names.lookup y = some .local)
    (hsw : swapsWith (.DictComp kx vx [⟨tg, iter, ifs, 0⟩] scope pos) (some (.Name y py)) spos.line X.env = pure true) (hi : PI X tg iter wi) (ok : BlkOk X.N X.env.scope scope own)
    (pg : ∀ (s : Shared) (H : Hp) (C : Addr) (cl : List (PySem.Str × Addr)) (fp : List Addr), PG (X.blk s H scope (compEnvC scope cl C X.env) fp) tg g)
    (pt : ∀ (s : Shared) (H : Hp) (C : Addr) (cl : List (PySem.Str × Addr)) (fp : List Addr), PTs (X.blk s H scope (compEnvC scope cl C X.env) fp) ifs tt)
    (pk : ∀ (s : Shared) (H : Hp) (C : Addr) (cl : List (PySem.Str × Addr)) (fp : List Addr), PE (X.blk s H scope (compEnvC scope cl C X.env) fp) kx tk)
    (pe : ∀ (s : Shared) (H : Hp) (C : Addr) (cl : List (PySem.Str × Addr)) (fp : List Addr), PE (X.blk s H scope (compEnvC scope cl C X.env) fp) vx tv) (hs : ∀ x, foldedSetIterable iter X.env x = pure x := by intro _; rfl) :
    PS X (.Assign [.Name y py] (.DictComp kx vx [⟨tg, iter, ifs, 0⟩] scope pos) spos) (tAsg (tDc wi g tt tk tv (own.map (·.2))) (gName i)) := ⟨fun pins s σ H D I h => by
  have h' : tDc wi g tt tk tv (own.map (·.2)) σ H (fun x H1 => gName i x σ H1 D.nx) := h
  rw [exec_Assign_Name_used _ _ _ _ hsw]
  refine wpAny_bind (wpAny_standAt (wpAny_bind ?_))
  change wpAny _ X.A (comprehension (.DictComp kx vx [⟨tg, iter, ifs, 0⟩] scope pos) scope X.env (firstIterPos [⟨tg, iter, ifs, 0⟩] pos) newDict false (eval iter X.env) (some (assign (.Name y py) X.env)) >>= fun _ => pure ()) _ _ _
  refine wpAny_bind ?_
  refine thn (dc_core (Qf := fun _ t => SP X pins D .next t) hc hN I hi ok pg pt pk pe hs h' ?_) fun _ t ht => wpAny_pure (wpAny_pure ht)
  intro L C t m H' It q hn fo
  refine wpAny_assign_Name (store_ok2 (v := V.ref L) It hN hy (.inl hl) rfl (fun t2 I2 ⟨c, sb, wh⟩ => ?_) (.inr hl))
  obtain ⟨f0, f1, f2, f3, f4, f5⟩ := fo
  have ne : C ≠ c := wh.elim (fun z => z ▸ f1) fun z e => f4 y c z e.symm
  exact ⟨m, hn.sameBut sb ne, fun t3 sb3 => ⟨_, H', I2.turned (t' := t2.toks) (fun b o n e => (sb3.2 b n).trans e) f0 f1 f3 f4 f5, q⟩⟩⟩
end
end Mc
namespace Mc
open PySem L2 PySem.Spec PyProof.Rows Evl
/-! ### a dict that is walked where it is made: it stays locked -/
def tFrz (t : TE) : TE := fun σ H Q => t σ H fun x H1 => ∃ d u, x = .ref d ∧ H1 d = some u ∧ Mut (some u) ∧ ∀ o, Q x (upd H1 d (.frz o u))
theorem pe_frz {X : Cx} {e : Expr} {t : TE} (h : PE X e t) : PE X e (tFrz t) := ⟨fun pins s σ H Q I hw => thn (h.run pins s σ H _ I hw) fun v s1 hv => by
  obtain ⟨x, H1, I1, r1, d, u, rfl, hd, mu, q⟩ := hv
  obtain ⟨od, I2⟩ := I1.lock hd mu
  exact ⟨_, _, I2, r1, q od⟩⟩
/-! ### xs.count(text) -/
theorem cntS : ∀ {xs : List PySem.Str} {its : List Value} {k : PySem.Str}, Vals (xs.map V.str) its → its.countP (isS k) = xs.count k
  | [], _, _, .nil => rfl
  | x :: xs, _ :: us, k, .cons ⟨t, e⟩ r => by
    subst e
    rw [List.countP_cons, List.count_cons, cntS (k := k) r]
    have e2 : isS k (.str x t) = (x == k) := by
      show (x.cps.toList == k.cps.toList) = (x == k)
      by_cases h : x = k
      · subst h; simp
      · have n1 : ¬ x.cps.toList = k.cps.toList := fun z => h (str_ext z)
        rw [beq_eq_false_iff_ne.mpr n1, beq_eq_false_iff_ne.mpr h]
    rw [e2]
section
variable {X : Cx} {K : PySem.W.Frag}
def rCntS (K : PySem.W.Frag) : V → List V → Hp → VK → Prop := fun x xs H Q => ∃ (p : Addr) (ys : List PySem.Str) (k : PySem.Str), x = .ref p ∧ xs = [.str k] ∧ SqL K H p (ys.map V.str) ∧ Q (.int (ys.count k : Nat)) H
theorem mt_lcountS : MtR X "list.count" (rCntS X.K) := by
  intro pins s σ H x xs v us Q I rx rxs h
  obtain ⟨p, ys, k, rfl, rfl, hs, q⟩ := h
  cases rx
  obtain ⟨u, rfl, ru⟩ := rxs.one
  obtain ⟨t, rfl⟩ := ru
  obtain ⟨its, rv, ⟨⟨cls, dd, data, sl⟩, n, ho, hc, hdn, hd⟩, hlen⟩ := I.list hs
  simp only at hc hd
  subst hc hd
  refine call_meets PySem.F.slot_list_count ⟨_, ho, rfl⟩ PySem.F.entry_list_count (PySem.F.args_list_count_2 _ _) (SeqAt.list_countAt p its.toArray n dd sl (.str k t) (isS k)) ⟨ho, fun y hy => ?_, ?_⟩
  · obtain ⟨i, hi⟩ := List.mem_iff_getElem?.mp (show y ∈ its by simpa using hy)
    cases hx : ys[i]? with
    | none => rw [rv.none_of (by rw [List.getElem?_map, hx]; rfl)] at hi; cases hi
    | some z =>
      obtain ⟨w', h1, ⟨t', h2⟩⟩ := rv.get (i := i) (x := .str z) (by rw [List.getElem?_map, hx]; rfl)
      rw [hi] at h1; cases h1
      rw [h2]
      exact (SeqRoads2.EqGives.str z k t' t).at _ _
  · refine ⟨.int (ys.count k : Nat), H, I.tok _, ⟨s.toks, ?_⟩, q⟩
    show Value.int ((its.toArray.toList.countP (isS k) : Nat) : Int) s.toks = Value.int ((ys.count k : Nat) : Int) s.toks
    rw [List.toList_toArray, cntS rv]
theorem mt_lcountSK (h : X.K = K) : MtR X "list.count" (rCntS K) := by subst h; exact mt_lcountS
end
/-! ### {k: e for k in ..} as a map -/
section
variable {f : PySem.Str → V} {ys : List PySem.Str} {J : It} {n : Nat} {G : Hp → Prop} {te : TE} {vs : List Nat} {σ : L2.St} {H1 : Hp} {D : Addr} {Qd : Hp → Prop} {j : Nat}
def mkD (f : PySem.Str → V) (ys : List PySem.Str) : List (L2.Key × V) := ys.map fun y => (Sum.inr y, f y)
theorem mkD_put {y : PySem.Str} (h : y ∉ ys) (f : PySem.Str → V) : putK (mkD f ys) (Sum.inr y) (f y) = mkD f (ys ++ [y]) := by
  have e1 : mkD f ys = kvT id (ys.map fun y => (y, f y)) := by unfold mkD kvT; rw [List.map_map]; rfl
  have e2 := put_new (f := (id : V → V)) (l := ys.map fun y => (y, f y)) (k := y) (v := f y) (by rw [keysT_mk]; exact h)
  rw [e1]
  refine e2.trans ?_
  unfold mkD kvT
  rw [List.map_append, List.map_map, List.map_append]
  rfl
theorem dc_m (w : Walk J n G (YAt (ys.map V.str))) (f : PySem.Str → V) (hn : n = ys.length) (nd : ys.Nodup) (hD : H1 D = none) (hG : ∀ H', Same H1 H' → G H') (hz : ys.length ≤ sizeLine)
    (turn : ∀ (i : Nat) (y : PySem.Str) (H' : Hp) (k : VK), ys[i]? = some y → Same H1 H' → (∀ H4, Same H' H4 → k (f y) H4) → te ((wipe σ vs).set j (some (.str y))) H' k)
    (hd : ∀ H', Same H1 H' → H' D = some (.dK (mkD f ys)) → Qd H') (hj : ∀ v, ((wipe σ vs).set j (some v))[j]? = some (some v) := by intro _; rfl) (hw : ∀ v, wipe ((wipe σ vs).set j (some v)) vs = wipe σ vs := by intro _; rfl) :
    ∃ W : Nat → Nat → Hp → Prop, (∃ m, W 0 m (upd H1 D (.dK []))) ∧ ∀ i m H, W i m H →
      (J.stop i H ∧ Qd H) ∨ (J.go i H ∧ ∃ Nx : Hp → Prop, (∀ H', Nx H' → ∃ m', m' < m ∧ W (i + 1) m' H') ∧ ∀ x H', J.yld i H x H' → gName j x (wipe σ vs) H' fun σ2 H2 => wipe σ2 vs = wipe σ vs ∧ tYes σ2 H2 fun b H3 =>
        if b = true then tVar j σ2 H3 fun y H4 => te σ2 H4 fun z H5 => ∃ kvs k, y = kV k ∧ H5 D = some (.dK kvs) ∧ kvs.length < sizeLine ∧ Nx (upd H5 D (.dK (putK kvs k z))) else Nx H3) := by
  refine ⟨fun i m H => m = n - i ∧ i ≤ n ∧ Same H1 H ∧ H D = some (.dK (mkD f (ys.take i))), ⟨n, by simp, Nat.zero_le _, Same.new hD, upd_same⟩, ?_⟩
  rintro i m H ⟨rfl, hi, s1, d1⟩
  by_cases hlt : i < n
  · refine .inr ⟨w.goes i H hlt (hG H s1), fun H' => Same H1 H' ∧ H' D = some (.dK (mkD f (ys.take (i + 1)))), fun H' p' => ⟨n - (i + 1), by omega, rfl, hlt, p'⟩, fun x H' y => ?_⟩
    obtain ⟨rfl, hx⟩ := w.yields i H x H' hlt (hG H s1) y
    rw [List.getElem?_map] at hx
    cases e : ys[i]? with
    | none => rw [e] at hx; cases hx
    | some c =>
      rw [e] at hx
      obtain rfl := Option.some.inj hx
      refine ⟨hw _, yes_ite ⟨_, hj _, turn i c _ _ e s1 fun H4 s4 => ⟨_, Sum.inr c, rfl, s4 _ _ d1, ?_, ?_, ?_⟩⟩⟩
      · unfold mkD; rw [List.length_map, List.length_take]; omega
      · exact fun b o z => by
          have nb : b ≠ D := ne_of_none z hD
          rw [upd_ne nb]
          exact s4 _ _ (s1 _ _ z)
      · rw [upd_same, mkD_put (nd_take nd e), List.take_add_one, e]
        rfl
  · obtain rfl : i = n := by omega
    subst hn
    rw [List.take_length] at d1
    exact .inl ⟨w.stops H (hG H s1), hd H s1 d1⟩
/-- a new dict -/
def EvD (te : TE) (σ : L2.St) (H : Hp) (kvs : List (L2.Key × V)) : Prop := ∀ H1, Ex H H1 → ∀ Q : VK, (∀ p H2, H1 p = none → Ex H1 H2 → H2 p = some (.dK kvs) → Q (.ref p) H2) → te σ H1 Q
theorem mkD_kvT {β : Type} {g : β → V} {h : PySem.Str → β} (ys : List PySem.Str) : mkD (fun y => g (h y)) ys = kvT g (ys.map fun y => (y, h y)) := by unfold mkD kvT; rw [List.map_map]; rfl
section
variable {K : PySem.W.Frag} {H : Hp} {tl : TE} {a : Addr}
theorem ed_N (f : PySem.Str → V) (nd : ys.Nodup) (hl : EvL tl σ H (ys.map V.str)) (hz : ys.length ≤ 100000) (turn : ∀ (i : Nat) y, ys[i]? = some y → ∀ H', Ex H H' → Ev te ((wipe σ vs).set j (some (.str y))) H' (f y)) (hj : ∀ v, ((wipe σ vs).set j (some v))[j]? = some (some v) := by intro _; rfl) (hw : ∀ v, wipe ((wipe σ vs).set j (some v)) vs = wipe σ vs := by intro _; rfl) :
    EvD (tDc (iList K tl) (gName j) tYes (tVar j) te vs) σ H (mkD f ys) := fun H1 e Q q => hl H1 e _ fun a H2 ha e2 h2 => ⟨a, rfl, ⟨_, sq_of h2⟩, fun D hD =>
  dc_m (j := j) (ys := ys) walk_list f (by rw [List.length_map]) nd hD (fun H' s => sq_of (s _ _ h2)) (sz_of hz) (fun i y H' k hy s hk => turn i y hy H' ((e.trans e2).trans s) H' (Ex.refl _) k hk) (fun H' s hD' => q D H' (fresh_back e2 hD) (e2.trans s) hD') hj hw⟩
theorem ed_K {β : Type} {g : β → V} {l : List (PySem.Str × β)} {o : Obj} (f : PySem.Str → V) (nd : (keysT l).Nodup) (hl : Ev tl σ H (.ref a)) (h : H a = some (.frz o (.dK (kvT g l)))) (hz : l.length ≤ 100000) (turn : ∀ (i : Nat) y, (keysT l)[i]? = some y → ∀ H', Ex H H' → Ev te ((wipe σ vs).set j (some (.str y))) H' (f y)) (hj : ∀ v, ((wipe σ vs).set j (some v))[j]? = some (some v) := by intro _; rfl) (hw : ∀ v, wipe ((wipe σ vs).set j (some v)) vs = wipe σ vs := by intro _; rfl) :
    EvD (tDc (iKeys tl) (gName j) tYes (tVar j) te vs) σ H (mkD f (keysT l)) := fun H1 e Q q => hl H1 e _ fun H2 e2 => ⟨a, o, rfl, .inl ⟨_, e2 _ _ (e _ _ h), fun D hD =>
  dc_m (j := j) (ys := keysT l) walk_kT f rfl nd hD (fun H' s => s _ _ (e2 _ _ (e _ _ h))) (by unfold keysT; rw [List.length_map]; exact sz_of hz) (fun i y H' k hy s hk => turn i y hy H' ((e.trans e2).trans s) H' (Ex.refl _) k hk) (fun H' s hD' => q D H' (fresh_back e2 hD) (e2.trans s) hD') hj hw⟩⟩
theorem ed_lock {kvs xs : List (L2.Key × V)} (h : H a = some (.dK kvs)) (k : ∀ od, EvD te σ (upd H a (.frz od (.dK kvs))) xs) : EvD (tLockE te) σ H xs := fun H1 e Q q => by
  have h1 := e _ _ h
  refine ⟨a, _, h1, trivial, fun od => k od _ (ex_lock e) _ fun p H2 hp e2 h2 => ?_⟩
  have na : p ≠ a := fun z => by rw [z, upd_same] at hp; cases hp
  exact ⟨e2 _ _ upd_same, q p _ (by rw [upd_ne na] at hp; exact hp) (ex_unlock h1 e2) (by rw [upd_ne na]; exact h2)⟩
end
end
end Mc
namespace Mc
open PySem L2 PySem.Spec PyProof.Rows Evl
theorem rising_pw : ∀ (r : List PySem.Str) (p : PySem.Str), risingS p r = true → (p :: r).Pairwise fun a b => ¬ ltN b a
  | [], p, _ => List.pairwise_singleton _ _
  | x :: r, p, h => by
    unfold risingS at h
    rw [Bool.and_eq_true] at h
    have ih := rising_pw r x h.2
    have px : ¬ ltN x p := by
      have h1 := h.1
      rw [ltCps_eq] at h1
      intro z
      rw [decide_eq_true (show x.cps.toList < p.cps.toList from z)] at h1
      cases h1
    refine List.pairwise_cons.mpr ⟨fun y hy => ?_, ih⟩
    rcases List.mem_cons.mp hy with e | e
    · rw [e]; exact px
    · intro z
      have xy := (List.pairwise_cons.mp ih).1 y e
      by_cases ep : p = x
      · rw [ep] at z; exact xy z
      · by_cases ey : y = x
        · rw [ey] at z; exact px z
        · exact ltN_irr _ (ltN_trans (ltN_trans (ltN_tri px fun q => ep q.symm) (ltN_tri xy ey)) z)
theorem srt_pw {ys : List PySem.Str} (h : sortedS ys = true) : ys.Pairwise fun a b => ¬ ltN b a := by
  cases ys with
  | nil => exact .nil
  | cons x r => exact rising_pw r x h
theorem srt_eq {ys zs : List PySem.Str} (hp : ys.Perm zs) (h1 : sortedS ys = true) (h2 : sortedS zs = true) : ys = zs :=
  List.Perm.eq_of_pairwise (le := fun a b => ¬ ltN b a) (fun a b _ _ h k => Classical.byContradiction fun n => h (ltN_tri k n)) (srt_pw h1) (srt_pw h2) hp
theorem perm_nd {α : Type} [DecidableEq α] {a b : List α} (h1 : a.Nodup) (h2 : b.Nodup) (h : ∀ x, x ∈ a ↔ x ∈ b) : a.Perm b := by
  refine List.perm_iff_count.mpr fun x => ?_
  by_cases e : x ∈ a
  · rw [h1.count, h2.count, if_pos e, if_pos ((h x).mp e)]
  · rw [h1.count, h2.count, if_neg e, if_neg fun z => e ((h x).mpr z)]
def pdS (xs : List PySem.Str) : PyData := .list (xs.map PyData.str)
theorem dpAllS (K : PySem.W.Frag) (H : Hp) : ∀ xs : List PySem.Str, DpAll K H (xs.map V.str) (xs.map PyData.str)
  | [] => .nil
  | x :: xs => .cons (.str x) (dpAllS K H xs)
theorem dpS {K : PySem.W.Frag} {H : Hp} {a : Addr} {xs : List PySem.Str} (h : SqL K H a (xs.map V.str)) : Dp K H (.ref a) (pdS xs) := .lst h (dpAllS K H xs)
theorem lay_of {x : PySem.Str} (h : PyData.strOk x = true) : PyData.canLay0 (.str x) = true := by rw [PyData.canLay0]; exact h
theorem layS : ∀ xs : List PySem.Str, (∀ x ∈ xs, PyData.strOk x = true) → PyData.canLayAll0 (xs.map PyData.str) = true
  | [], _ => rfl
  | x :: xs, h => by
    show (PyData.canLay0 (.str x) && PyData.canLayAll0 (xs.map PyData.str)) = true
    rw [layS xs fun y hy => h y (.tail _ hy), lay_of (h x (.head _))]; rfl
theorem depS : ∀ xs : List PySem.Str, PyData.depthAll (xs.map PyData.str) = 0
  | [] => rfl
  | x :: xs => by
    show max (PyData.depth (.str x)) (PyData.depthAll (xs.map PyData.str)) = 0
    rw [depS xs]; rfl
theorem shapedS {xs : List PySem.Str} (hx : ∀ x ∈ xs, PyData.strOk x = true) : SeqAt.shaped (pdS xs) = true := by
  have h : PyData.depth (pdS xs) = PyData.depthAll (xs.map PyData.str) + 1 := by unfold pdS; rw [PyData.depth]
  have h2 : (pdS xs).canLay0 = true := by unfold pdS; rw [PyData.canLay0]; exact layS xs hx
  unfold SeqAt.shaped
  rw [h, depS, h2]; rfl
theorem eqvS (xs : List PySem.Str) : PyData.eqv (pdS xs) (pdS xs) = true := by
  unfold pdS
  rw [PyData.eqv]
  induction xs with
  | nil => rfl
  | cons x xs ih =>
    show (PyData.eqv (.str x) (.str x) && PyData.eqvAll (xs.map PyData.str) (xs.map PyData.str)) = true
    rw [ih]
    simp [PyData.eqv]
theorem eqvAllS : ∀ xs ys : List PySem.Str, PyData.eqvAll (xs.map PyData.str) (ys.map PyData.str) = decide (xs = ys)
  | [], [] => rfl
  | [], y :: ys => by simp [PyData.eqvAll]
  | x :: xs, [] => by simp [PyData.eqvAll]
  | x :: xs, y :: ys => by
    show (PyData.eqv (.str x) (.str y) && PyData.eqvAll (xs.map PyData.str) (ys.map PyData.str)) = _
    rw [eqvAllS xs ys]
    have : PyData.eqv (.str x) (.str y) = (x == y) := by rw [PyData.eqv]
    rw [this]
    by_cases h : x = y <;> simp [h]
theorem eqvLS (xs ys : List PySem.Str) : PyData.eqv (pdS xs) (pdS ys) = decide (xs = ys) := by
  unfold pdS
  rw [PyData.eqv]
  exact eqvAllS xs ys
def pdTS (xs : List PySem.Str) : PyData := .tuple (xs.map PyData.str)
theorem eqvTS (xs ys : List PySem.Str) : PyData.eqv (pdTS xs) (pdTS ys) = decide (xs = ys) := by
  unfold pdTS
  rw [PyData.eqv]
  exact eqvAllS xs ys
theorem shapedTS {xs : List PySem.Str} (hx : ∀ x ∈ xs, PyData.strOk x = true) : SeqAt.shaped (pdTS xs) = true := by
  have h : PyData.depth (pdTS xs) = PyData.depthAll (xs.map PyData.str) + 1 := by unfold pdTS; rw [PyData.depth]
  have h2 : (pdTS xs).canLay0 = true := by unfold pdTS; rw [PyData.canLay0]; exact layS xs hx
  unfold SeqAt.shaped
  rw [h, depS, h2]; rfl
theorem dpTS {K : PySem.W.Frag} {H : Hp} {a : Addr} {xs : List PySem.Str} (h : SqT K H a (xs.map V.str)) : Dp K H (.ref a) (pdTS xs) := .tup h (dpAllS K H xs)
section
variable {K : PySem.W.Frag} {H : Hp} {p q : Addr} {xs ys : List PySem.Str}
theorem rv_eqSL (hp : SqL K H p (xs.map V.str)) (hq : SqL K H q (ys.map V.str)) (ox : ∀ x ∈ xs, PyData.strOk x = true) (oy : ∀ x ∈ ys, PyData.strOk x = true) : RV (rEqD K) (.ref p) (.ref q) H (.bl (decide (xs = ys))) := fun H1 e _ k =>
  ⟨_, _, dpS (ex_l e hp), dpS (ex_l e hq), shapedS ox, shapedS oy, by rw [eqvLS]; exact k H1 (Ex.refl _)⟩
theorem rv_neSL (hp : SqL K H p (xs.map V.str)) (hq : SqL K H q (ys.map V.str)) (ox : ∀ x ∈ xs, PyData.strOk x = true) (oy : ∀ x ∈ ys, PyData.strOk x = true) : RV (rNeD K) (.ref p) (.ref q) H (.bl (!decide (xs = ys))) := fun H1 e _ k =>
  ⟨_, _, dpS (ex_l e hp), dpS (ex_l e hq), shapedS ox, shapedS oy, by rw [eqvLS]; exact k H1 (Ex.refl _)⟩
theorem rv_eqST (hp : SqT K H p (xs.map V.str)) (hq : SqT K H q (ys.map V.str)) (ox : ∀ x ∈ xs, PyData.strOk x = true) (oy : ∀ x ∈ ys, PyData.strOk x = true) : RV (rEqD K) (.ref p) (.ref q) H (.bl (decide (xs = ys))) := fun H1 e _ k =>
  ⟨_, _, dpTS (ex_t e hp), dpTS (ex_t e hq), shapedTS ox, shapedTS oy, by rw [eqvTS]; exact k H1 (Ex.refl _)⟩
theorem rv_neST (hp : SqT K H p (xs.map V.str)) (hq : SqT K H q (ys.map V.str)) (ox : ∀ x ∈ xs, PyData.strOk x = true) (oy : ∀ x ∈ ys, PyData.strOk x = true) : RV (rNeD K) (.ref p) (.ref q) H (.bl (!decide (xs = ys))) := fun H1 e _ k =>
  ⟨_, _, dpTS (ex_t e hp), dpTS (ex_t e hq), shapedTS ox, shapedTS oy, by rw [eqvTS]; exact k H1 (Ex.refl _)⟩
end
theorem asc_eq {ys zs : List PySem.Str} (n1 : ys.Nodup) (n2 : zs.Nodup) (h1 : sortedS ys = true) (h2 : sortedS zs = true) (h : ∀ x, x ∈ ys ↔ x ∈ zs) : ys = zs := srt_eq (perm_nd n1 n2 h) h1 h2
theorem sorted_of_pw {ys : List PySem.Str} (h : ys.Pairwise fun a b => ltN a b) : sortedS ys = true := by
  refine sortedS_of_pairwise ys (h.imp fun {a b} z => ?_)
  rw [ltCps_eq]
  exact decide_eq_false (List.not_lt.mpr (List.le_of_lt z))
end Mc
namespace Mc
open PySem L2 PySem.Spec PyProof.Rows FbM LamX NdefX
/-! min(e, key=lambda x: ..), max(..) as expressions -/
/-- a kind of keys: what stands for the i-th key, and when it is before another one -/
structure KKey (κ : Type) where
  KV : κ → Nat → V → Hp → Prop
  bt : κ → Nat → Nat → Bool
  per : ∀ k i v H1 H2, KV k i v H1 → Same H1 H2 → KV k i v H2
  tr : ∀ k i j l, bt k i j = true → bt k l j = false → bt k i l = true
  as : ∀ k i j, bt k i j = true → bt k j i = false
  ir : ∀ k i, bt k i i = false
/-- ints, the least first -/
def kLo : KKey (Nat → Int) where
  KV := fun kf i v _ => v = .int (kf i)
  bt := fun kf i j => decide (kf i < kf j)
  per := fun _ _ _ _ _ h _ => h
  tr := fun k i j l h1 h2 => by simp at *; omega
  as := fun k i j h => by simp at *; omega
  ir := fun k i => by simp
/-- ints, the greatest first -/
def kHi : KKey (Nat → Int) where
  KV := fun kf i v _ => v = .int (kf i)
  bt := fun kf i j => decide (kf i > kf j)
  per := fun _ _ _ _ _ h _ => h
  tr := fun k i j l h1 h2 => by simp at *; omega
  as := fun k i j h => by simp at *; omega
  ir := fun k i => by simp
theorem rkLe_tot (kf : PySem.Str → Int) (x y : PySem.Str) : rkLe kf x y ∨ rkLe kf y x := by
  unfold rkLe
  rcases Int.lt_trichotomy (kf x) (kf y) with h | h | h
  · exact .inl (.inl h)
  · by_cases z : ltN y x
    · exact .inr (.inr ⟨h.symm, fun q => ltN_irr _ (ltN_trans q z)⟩)
    · exact .inl (.inr ⟨h, z⟩)
  · exact .inr (.inl h)
theorem rkLe_tr (kf : PySem.Str → Int) {x y z : PySem.Str} (h1 : rkLe kf x y) (h2 : rkLe kf y z) : rkLe kf x z := by
  have hx : PySem.W.dataLe false (kdM kf) x y = true := kdM_le.mpr h1
  unfold rkLe at *
  rcases h1 with h1 | ⟨h1, n1⟩ <;> rcases h2 with h2 | ⟨h2, n2⟩
  · exact .inl (by omega)
  · exact .inl (by omega)
  · exact .inl (by omega)
  · refine .inr ⟨by omega, fun q => ?_⟩
    by_cases a : x = y
    · rw [a] at q; exact n2 q
    · by_cases b : ltN x y
      · exact n2 (ltN_trans q b)
      · exact n1 (ltN_tri b a)
open Classical in
/-- pairs (an int, a text), the least first -/
noncomputable def kPr : KKey ((PySem.Str → Int) × (Nat → PySem.Str)) where
  KV := fun k i v H => ∃ p, v = .ref p ∧ H p = some (.tup [.int (k.1 (k.2 i)), .str (k.2 i)])
  bt := fun k i j => decide (¬ rkLe k.1 (k.2 j) (k.2 i))
  per := fun _ _ _ _ _ ⟨p, e, h⟩ s => ⟨p, e, s _ _ h⟩
  tr := fun k i j l h1 h2 => by
    rw [decide_eq_true_eq] at *
    rw [decide_eq_false_iff_not, Classical.not_not] at h2
    exact fun z => h1 (rkLe_tr _ h2 z)
  as := fun k i j h => by
    rw [decide_eq_true_eq] at h
    rw [decide_eq_false_iff_not, Classical.not_not]
    exact (rkLe_tot k.1 _ _).resolve_right h
  ir := fun k i => by
    rw [decide_eq_false_iff_not, Classical.not_not]
    exact (rkLe_tot k.1 _ _).elim id id
section
variable {X : Cx} {A : Around}
theorem cmp_lo (kf : Nat → Int) : CmpV X A .Lt (kLo.KV kf) (kLo.bt kf) := fun pins σ H s i j x y u v Q E I hx rx hy ry h => by
  obtain rfl : x = .int (kf i) := hx
  obtain rfl : y = .int (kf j) := hy
  obtain ⟨t, rfl⟩ := rx
  obtain ⟨t', rfl⟩ := ry
  exact CmpOf.ints_lt (prog := X.prog) (w := X.w) (A := A) (P := fun i v => ∃ t, v = .int (kf i) t) kf (fun i v h => h) i j _ _ _ _ _ ⟨t, rfl⟩ ⟨t', rfl⟩ h
theorem cmp_hi (kf : Nat → Int) : CmpV X A .Gt (kHi.KV kf) (kHi.bt kf) := fun pins σ H s i j x y u v Q E I hx rx hy ry h => by
  obtain rfl : x = .int (kf i) := hx
  obtain rfl : y = .int (kf j) := hy
  obtain ⟨t, rfl⟩ := rx
  obtain ⟨t', rfl⟩ := ry
  exact CmpOf.ints_gt (prog := X.prog) (w := X.w) (A := A) (P := fun i v => ∃ t, v = .int (kf i) t) kf (fun i v h => h) i j _ _ _ _ _ ⟨t, rfl⟩ ⟨t', rfl⟩ h
theorem cmp_pr (hu : A.units + 1 < cLine) (k : (PySem.Str → Int) × (Nat → PySem.Str)) : CmpV X A .Lt (kPr.KV k) (kPr.bt k) := fun pins σ H s i j x y u v Q E I hx rx hy ry h => by
  obtain ⟨p, rfl, hp⟩ := hx
  obtain ⟨q, rfl, hq⟩ := hy
  cases rx
  cases ry
  refine PySem.W.lt_data (tup_reads I.hok hp) (tup_reads I.hok hq) (kdM_alike k.1 _ _) (by intro e; cases e) (by rw [show PyData.depth (.tuple [.int (k.1 (k.2 i)), .str (k.2 i)]) = 1 from kdM_depth k.1 _, show PyData.depth (.tuple [.int (k.1 (k.2 j)), .str (k.2 j)]) = 1 from kdM_depth k.1 _]; exact hu) ?_
  have e : (!PySem.W.dataLt (kdM k.1 (k.2 i)) (kdM k.1 (k.2 j))) = true ↔ rkLe k.1 (k.2 j) (k.2 i) := kdM_le
  have e2 : PySem.W.dataLt (.tuple [.int (k.1 (k.2 i)), .str (k.2 i)]) (.tuple [.int (k.1 (k.2 j)), .str (k.2 j)]) = kPr.bt k i j := by
    show PySem.W.dataLt (kdM k.1 (k.2 i)) (kdM k.1 (k.2 j)) = @decide (¬ rkLe k.1 (k.2 j) (k.2 i)) _
    by_cases z : rkLe k.1 (k.2 j) (k.2 i)
    · rw [@decide_eq_false _ _ (by simpa using z)]
      have := e.mpr z
      simpa using this
    · rw [@decide_eq_true _ _ z]
      cases w : PySem.W.dataLt (kdM k.1 (k.2 i)) (kdM k.1 (k.2 j)) with
      | true => rfl
      | false => rw [w] at e; exact absurd (e.mp rfl) z
  rw [e2]
  exact h
end
def SqB (K : PySem.W.Frag) (b : Bool) (H : Hp) (a : Addr) (xs : List V) : Prop := if b then SqL K H a xs else SqT K H a xs
/-- the reading: the item whose key is the first best -/
def tExL {κ : Type} (KK : KKey κ) (K : PySem.W.Frag) (b : Bool) (T : List NTab) (mk : Addr → NF) (bd : Expr) (js : List Nat) (sp : Addr → Addr → List (Option V) → Sp) (ta : TE) : TE := fun σ H Q => ta σ H fun x H1 => TabsN T H1 ∧ ∀ (f c' : Addr) (H2 : Hp), ExtN H1 H2 → (∀ b, H2 b = none → H1 b = none) → TabsN T H2 → H1 f = none → H2 f = some (LmO f (mk c') bd) → H2 c' = some (CodeO c' (mk c').qual) →
  ∃ (a : Addr) (xs : List V) (k : κ), x = .ref a ∧ SqB K b H2 a xs ∧ xs ≠ [] ∧
  (∀ i y, xs[i]? = some y → ∀ H', Same H2 H' → sp f c' (js.map (slotAt σ)) [y] H' (fun v H3 => Same H' H3 ∧ KK.KV k i v H3) E0) ∧
  ∀ i y H', Same H2 H' → xs[i]? = some y → FstBest (KK.bt k) xs.length i → Q y H'

section
variable {X : Cx} {k : Nat} {fr : List PySem.Str} {js : List Nat} {sp : Addr → Addr → List (Option V) → Sp} {e : Expr} {ta : TE} {p pos kpos lpos : Pos} {T : List NTab} {nm : Nat → Nat → PySem.Str} {c P' : Addr} {params : Arguments} {bd : Expr} {scope : Scope} {x0 : PySem.Str} {κ : Type}
theorem pe_minL (KK : KKey κ) (b : Bool) (hcmp : ∀ k, CmpV X X.A.in1 .Lt (KK.KV k) (KK.bt k)) (hcalm : X.calm = true) (TB : TabB X.base X.mg c P') (hcode : X.env.code = .ref c) (hm' : (P', nm) ∈ T) (hn : nm lpos.line lpos.col = X.env.qual ++ "<lambda>") (hu' : ∀ p ∈ T, p.1 = P' → p.2 = nm) (hdef : defaultsOf params X.env = ([], []))
    (hfree : ∀ y ∈ scope.names, y.2 = .free → X.env.scope.names.lookup y.1 = some .cell ∨ X.env.scope.names.lookup y.1 = some .free)
    (L : ∀ f c', LOk X.prog X.w X.K X.mg X.base CX0 k f (lamF X params scope c') bd [x0] fr (sp f c')) (cp : X.Ok → Caps X (cloFrom X.env.cells scope.names []) fr js) (hr : Room (k + 1) X.A) (hg : Gl X "min") (hm : X.mg "min" = none) (he : PE X e ta)
    (hs1 : starEach [e] X.env = (false, eval e X.env) :: starEach [] X.env := by rfl)
    (hst : backTo pos (starEach [e] X.env) = (false, eval e X.env) :: backTo pos (starEach [] X.env) := by rfl) (hpl : (backTo pos (starEach [e] X.env)).any (·.1) = false := by rfl)
    (hall : (backToKw pos (keywordEach [⟨some "key", .Lambda params bd scope lpos, kpos⟩] X.env)).all (·.1.isSome) = true := by rfl) (hno : (backToKw pos (keywordEach [⟨some "key", .Lambda params bd scope lpos, kpos⟩] X.env)).any (·.1.isNone) = false := by rfl)
    (hks : (backToKw pos (keywordEach [⟨some "key", .Lambda params bd scope lpos, kpos⟩] X.env)).filterMap (·.1) = [PySem.Str.ofString "key"] := by rfl) :
    PE X (.Call (.Name "min" p) [e] [⟨some "key", .Lambda params bd scope lpos, kpos⟩] pos) (tExL KK X.K b T (lamF X params scope) bd js sp ta) := by
  refine ⟨fun pins s σ H Q I h => ?_⟩
  refine wpAny_Call_Name_kw (ld_blt I hg hm rfl ?_ (by decide) (by decide))
  show wpAny _ _ (callWith pos (.builtin "min") [] _ _) _ _ _
  refine callWith_kw (thn ((pa_cons he pa_nil hs1).run pos pins s σ H (fun vs H1 => match vs with
    | [x] => TabsN T H1 ∧ ∀ (f c' : Addr) (H2 : Hp), ExtN H1 H2 → (∀ b, H2 b = none → H1 b = none) → TabsN T H2 → H1 f = none → H2 f = some (LmO f (lamF X params scope c') bd) → H2 c' = some (CodeO c' (lamF X params scope c').qual) →
        ∃ (a : Addr) (xs : List V) (k : κ), x = .ref a ∧ SqB X.K b H2 a xs ∧ xs ≠ [] ∧
        (∀ i y, xs[i]? = some y → ∀ H', Same H2 H' → sp f c' (js.map (slotAt σ)) [y] H' (fun v H3 => Same H' H3 ∧ KK.KV k i v H3) E0) ∧
        ∀ i y H', Same H2 H' → xs[i]? = some y → FstBest (KK.bt k) xs.length i → Q y H'
    | _ => False) I h) fun us s1 hu => ?_) hst hpl hall hno
  obtain ⟨vs, H1, I1, r1, q1⟩ := hu
  match vs, q1 with
  | [x], q1 =>
    obtain ⟨hT, q1⟩ := q1
    refine wpAny_evalAll_cons (wpAny_bind (lam_mk I1 TB hcode hm' hn hu' hT hdef (fun y hy e => I1.ok.has _ (hfree y hy e)) fun f c' H2 s2 I2 x1 x2 T2 n1 hf hc => ?_))
    obtain ⟨a, xs, kk, rfl, hx, nx, tu, fin⟩ := q1 f c' H2 x1 x2 T2 n1 hf hc
    refine wpAny_bind (wpAny_standAt (wpAny_pure ?_))
    refine wpAny_evalAll_nil ?_
    rw [hks]
    obtain rfl := Vals.ref1 r1
    have hcall : CallsV X X.A.in1 pins σ f xs (KK.KV kk) H2 := fun s' H' i y u hy ru I' sm => by
      have e0 := I'.env0
      have e1' : Env0 X.prog X.w X.K X.mg X.base X.A.in1 X.stack s' H' := ⟨I2.ok.frames, e0.mod, e0.bs, e0.bsz, e0.funs, e0.frf, e0.hok, e0.bare⟩
      exact (L f c').run X.A.in1 X.stack s' H' _ [y] _ _ E0 hr.in1 e1' (sm _ _ hf) (sm _ _ hc) (cells_of I' (cp I'.ok)) (.cons ru .nil) (tu i y hy H' sm)
    cases b with
    | true =>
      obtain ⟨its, rv, pl, hz⟩ := I2.list hx
      refine min_key (A := X.A) (xs := xs) (u0 := .ref a) (I2.ok.hd hcalm) (G := fun H => SqL X.K H a xs) (tf := fun l' i h => h.IsListIter l' a i) (fun l' _ => feed_list a l') nx hcall ?_ (KK.per kk) (KK.tr kk) (KK.as kk) (KK.ir kk) hx I2 (fun Q' q' => wpAny_pyIter_list pl.isList (q' _ ⟨_, Heap.get?_push_size _ rfl, rfl, rfl⟩)) fun i y u s' H' J sm hy ru hb => ?_
      · exact hcmp kk
      · exact ⟨y, H', J, ru, fin i y H' sm hy hb⟩
    | false =>
      obtain ⟨its, rv, pl, hz⟩ := I2.tuple hx
      refine min_key (A := X.A) (xs := xs) (u0 := .ref a) (I2.ok.hd hcalm) (G := fun H => SqT X.K H a xs) (tf := fun l' i h => h.IsTupleIter l' a i) (fun l' _ => feed_tup a l') nx hcall ?_ (KK.per kk) (KK.tr kk) (KK.as kk) (KK.ir kk) hx I2 (fun Q' q' => wpAny_pyIter_tuple (show s2.heap.IsTuple a its.toArray from pl) (q' _ ⟨_, Heap.get?_push_size _ rfl, rfl, rfl⟩)) fun i y u s' H' J sm hy ru hb => ?_
      · exact hcmp kk
      · exact ⟨y, H', J, ru, fin i y H' sm hy hb⟩
end

section
variable {X : Cx} {k : Nat} {fr : List PySem.Str} {js : List Nat} {sp : Addr → Addr → List (Option V) → Sp} {e : Expr} {ta : TE} {p pos kpos lpos : Pos} {T : List NTab} {nm : Nat → Nat → PySem.Str} {c P' : Addr} {params : Arguments} {bd : Expr} {scope : Scope} {x0 : PySem.Str} {κ : Type}
theorem pe_maxL (KK : KKey κ) (b : Bool) (hcmp : ∀ k, CmpV X X.A.in1 .Gt (KK.KV k) (KK.bt k)) (hcalm : X.calm = true) (TB : TabB X.base X.mg c P') (hcode : X.env.code = .ref c) (hm' : (P', nm) ∈ T) (hn : nm lpos.line lpos.col = X.env.qual ++ "<lambda>") (hu' : ∀ p ∈ T, p.1 = P' → p.2 = nm) (hdef : defaultsOf params X.env = ([], []))
    (hfree : ∀ y ∈ scope.names, y.2 = .free → X.env.scope.names.lookup y.1 = some .cell ∨ X.env.scope.names.lookup y.1 = some .free)
    (L : ∀ f c', LOk X.prog X.w X.K X.mg X.base CX0 k f (lamF X params scope c') bd [x0] fr (sp f c')) (cp : X.Ok → Caps X (cloFrom X.env.cells scope.names []) fr js) (hr : Room (k + 1) X.A) (hg : Gl X "max") (hm : X.mg "max" = none) (he : PE X e ta)
    (hs1 : starEach [e] X.env = (false, eval e X.env) :: starEach [] X.env := by rfl)
    (hst : backTo pos (starEach [e] X.env) = (false, eval e X.env) :: backTo pos (starEach [] X.env) := by rfl) (hpl : (backTo pos (starEach [e] X.env)).any (·.1) = false := by rfl)
    (hall : (backToKw pos (keywordEach [⟨some "key", .Lambda params bd scope lpos, kpos⟩] X.env)).all (·.1.isSome) = true := by rfl) (hno : (backToKw pos (keywordEach [⟨some "key", .Lambda params bd scope lpos, kpos⟩] X.env)).any (·.1.isNone) = false := by rfl)
    (hks : (backToKw pos (keywordEach [⟨some "key", .Lambda params bd scope lpos, kpos⟩] X.env)).filterMap (·.1) = [PySem.Str.ofString "key"] := by rfl) :
    PE X (.Call (.Name "max" p) [e] [⟨some "key", .Lambda params bd scope lpos, kpos⟩] pos) (tExL KK X.K b T (lamF X params scope) bd js sp ta) := by
  refine ⟨fun pins s σ H Q I h => ?_⟩
  refine wpAny_Call_Name_kw (ld_blt I hg hm rfl ?_ (by decide) (by decide))
  show wpAny _ _ (callWith pos (.builtin "max") [] _ _) _ _ _
  refine callWith_kw (thn ((pa_cons he pa_nil hs1).run pos pins s σ H (fun vs H1 => match vs with
    | [x] => TabsN T H1 ∧ ∀ (f c' : Addr) (H2 : Hp), ExtN H1 H2 → (∀ b, H2 b = none → H1 b = none) → TabsN T H2 → H1 f = none → H2 f = some (LmO f (lamF X params scope c') bd) → H2 c' = some (CodeO c' (lamF X params scope c').qual) →
        ∃ (a : Addr) (xs : List V) (k : κ), x = .ref a ∧ SqB X.K b H2 a xs ∧ xs ≠ [] ∧
        (∀ i y, xs[i]? = some y → ∀ H', Same H2 H' → sp f c' (js.map (slotAt σ)) [y] H' (fun v H3 => Same H' H3 ∧ KK.KV k i v H3) E0) ∧
        ∀ i y H', Same H2 H' → xs[i]? = some y → FstBest (KK.bt k) xs.length i → Q y H'
    | _ => False) I h) fun us s1 hu => ?_) hst hpl hall hno
  obtain ⟨vs, H1, I1, r1, q1⟩ := hu
  match vs, q1 with
  | [x], q1 =>
    obtain ⟨hT, q1⟩ := q1
    refine wpAny_evalAll_cons (wpAny_bind (lam_mk I1 TB hcode hm' hn hu' hT hdef (fun y hy e => I1.ok.has _ (hfree y hy e)) fun f c' H2 s2 I2 x1 x2 T2 n1 hf hc => ?_))
    obtain ⟨a, xs, kk, rfl, hx, nx, tu, fin⟩ := q1 f c' H2 x1 x2 T2 n1 hf hc
    refine wpAny_bind (wpAny_standAt (wpAny_pure ?_))
    refine wpAny_evalAll_nil ?_
    rw [hks]
    obtain rfl := Vals.ref1 r1
    have hcall : CallsV X X.A.in1 pins σ f xs (KK.KV kk) H2 := fun s' H' i y u hy ru I' sm => by
      have e0 := I'.env0
      have e1' : Env0 X.prog X.w X.K X.mg X.base X.A.in1 X.stack s' H' := ⟨I2.ok.frames, e0.mod, e0.bs, e0.bsz, e0.funs, e0.frf, e0.hok, e0.bare⟩
      exact (L f c').run X.A.in1 X.stack s' H' _ [y] _ _ E0 hr.in1 e1' (sm _ _ hf) (sm _ _ hc) (cells_of I' (cp I'.ok)) (.cons ru .nil) (tu i y hy H' sm)
    cases b with
    | true =>
      obtain ⟨its, rv, pl, hz⟩ := I2.list hx
      refine max_key (A := X.A) (xs := xs) (u0 := .ref a) (I2.ok.hd hcalm) (G := fun H => SqL X.K H a xs) (tf := fun l' i h => h.IsListIter l' a i) (fun l' _ => feed_list a l') nx hcall ?_ (KK.per kk) (KK.tr kk) (KK.as kk) (KK.ir kk) hx I2 (fun Q' q' => wpAny_pyIter_list pl.isList (q' _ ⟨_, Heap.get?_push_size _ rfl, rfl, rfl⟩)) fun i y u s' H' J sm hy ru hb => ?_
      · exact hcmp kk
      · exact ⟨y, H', J, ru, fin i y H' sm hy hb⟩
    | false =>
      obtain ⟨its, rv, pl, hz⟩ := I2.tuple hx
      refine max_key (A := X.A) (xs := xs) (u0 := .ref a) (I2.ok.hd hcalm) (G := fun H => SqT X.K H a xs) (tf := fun l' i h => h.IsTupleIter l' a i) (fun l' _ => feed_tup a l') nx hcall ?_ (KK.per kk) (KK.tr kk) (KK.as kk) (KK.ir kk) hx I2 (fun Q' q' => wpAny_pyIter_tuple (show s2.heap.IsTuple a its.toArray from pl) (q' _ ⟨_, Heap.get?_push_size _ rfl, rfl, rfl⟩)) fun i y u s' H' J sm hy ru hb => ?_
      · exact hcmp kk
      · exact ⟨y, H', J, ru, fin i y H' sm hy hb⟩
end
end Mc
namespace Mc.Tr
variable {α : Type}
/-! tours: pieces taken greedily, and the fewest -/
def at_ (R : List (List α)) (t : Nat) : List α := R.getD t []
theorem at_len {R : List (List α)} {t : Nat} {m : α} (h : m ∈ at_ R t) : t < R.length := by
  unfold at_ at h
  rw [List.getD_eq_getElem?_getD] at h
  by_cases e : t < R.length
  · exact e
  · rw [List.getElem?_eq_none (by omega)] at h; cases h
theorem at_out {R : List (List α)} {t : Nat} (h : R.length ≤ t) : at_ R t = [] := by
  unfold at_
  rw [List.getD_eq_getElem?_getD, List.getElem?_eq_none h]; rfl
/-- heard from f to l -/
def Thr (R : List (List α)) (m : α) (f l : Nat) : Prop := ∀ s, f ≤ s → s ≤ l → m ∈ at_ R s
/-- the last tick up to which m is heard behind f -/
structure IsLast (R : List (List α)) (m : α) (f L : Nat) : Prop where
  le : f ≤ L
  on : ∀ s, f < s → s ≤ L → m ∈ at_ R s
  off : m ∉ at_ R (L + 1)
theorem IsLast.ge {R : List (List α)} {m : α} {f L l : Nat} (h : IsLast R m f L) : l ≤ L ↔ ∀ s, f < s → s ≤ l → m ∈ at_ R s := by
  constructor
  · exact fun hl s h1 h2 => h.on s h1 (by omega)
  · intro k
    by_cases e : l ≤ L
    · exact e
    · exact absurd (k (L + 1) (by have := h.le; omega) (by omega)) h.off
theorem IsLast.uniq {R : List (List α)} {m : α} {f L L' : Nat} (h : IsLast R m f L) (h' : IsLast R m f L') : L = L' := by
  have a := h.ge (l := L') |>.mpr h'.on
  have b := h'.ge (l := L) |>.mpr h.on
  omega
theorem IsLast.lt {R : List (List α)} {m : α} {f L : Nat} (h : IsLast R m f L) (hf : f < R.length) : L < R.length := by
  by_cases e : f = L
  · omega
  · exact at_len (h.on L (by have := h.le; omega) (Nat.le_refl _))
abbrev Pc (α : Type) := α × Nat × Nat
/-- the pieces from tick t on -/
inductive Gr (R : List (List α)) : Nat → List (Pc α) → Prop
  | nil {t : Nat} : (∀ s, t ≤ s → at_ R s = []) → Gr R t []
  | cons {t f l : Nat} {m : α} {P : List (Pc α)} : t ≤ f → (∀ s, t ≤ s → s < f → at_ R s = []) → f ≤ l → Thr R m f l → (∀ m', ¬ Thr R m' f (l + 1)) → Gr R (l + 1) P → Gr R t ((m, f, l) :: P)
theorem Gr.skip {R : List (List α)} {t : Nat} {P : List (Pc α)} (h : at_ R t = []) (g : Gr R (t + 1) P) : Gr R t P := by
  cases g with
  | nil k =>
    exact .nil fun s hs => by
      by_cases e : s = t
      · subst e; exact h
      · exact k s (by omega)
  | cons a b c d e f =>
    exact .cons (by omega) (fun s h1 h2 => by
      by_cases e : s = t
      · subst e; exact h
      · exact b s (by omega) h2) c d e f
theorem Gr.ok {R : List (List α)} {t : Nat} {P : List (Pc α)} (g : Gr R t P) : ∀ p ∈ P, t ≤ p.2.1 ∧ p.2.1 ≤ p.2.2 ∧ p.2.2 < R.length ∧ Thr R p.1 p.2.1 p.2.2 ∧ ∀ m', ¬ Thr R m' p.2.1 (p.2.2 + 1) := by
  induction g with
  | nil _ => intro p hp; cases hp
  | cons a b c d e _ ih =>
    intro p hp
    rcases List.mem_cons.mp hp with rfl | hp
    · exact ⟨a, c, at_len (d _ c (Nat.le_refl _)), d, e⟩
    · obtain ⟨h1, h2⟩ := ih p hp
      exact ⟨by omega, h2⟩
theorem Gr.pw {R : List (List α)} {t : Nat} {P : List (Pc α)} (g : Gr R t P) : P.Pairwise fun p q => p.2.2 < q.2.1 := by
  induction g with
  | nil _ => exact .nil
  | cons a b c d e g ih =>
    refine .cons (fun q hq => ?_) ih
    have := (g.ok q hq).1
    exact this
theorem Gr.uniq {R : List (List α)} {t : Nat} {P P' : List (Pc α)} (g : Gr R t P) (g' : Gr R t P') : P.map (·.2) = P'.map (·.2) := by
  induction g generalizing P' with
  | nil k =>
    cases g' with
    | nil _ => rfl
    | cons a b c d e f =>
      have := d _ (Nat.le_refl _) c
      rw [k _ a] at this; cases this
  | cons a b c d e f ih =>
    cases g' with
    | nil k =>
      have := d _ (Nat.le_refl _) c
      rw [k _ a] at this; cases this
    | cons a' b' c' d' e' f' =>
      rename_i t1 fa la ma Pa fb lb mb Pb
      have ef : fa = fb := by
        rcases Nat.lt_trichotomy fa fb with h | h | h
        · have := d _ (Nat.le_refl _) c
          rw [b' _ a h] at this; cases this
        · exact h
        · have := d' _ (Nat.le_refl _) c'
          rw [b _ a' h] at this; cases this
      subst ef
      have el : la = lb := by
        rcases Nat.lt_trichotomy la lb with h | h | h
        · exact absurd (fun s h1 h2 => d' s h1 (by omega)) (e mb)
        · exact h
        · exact absurd (fun s h1 h2 => d s h1 (by omega)) (e' ma)
      subst el
      rw [List.map_cons, List.map_cons, ih f']
def cov (P : List (Pc α)) : List Nat := P.flatMap fun p => List.range' p.2.1 (p.2.2 + 1 - p.2.1)
def ticks (R : List (List α)) (t n : Nat) : List Nat := (List.range' t n).filter fun s => !(at_ R s).isEmpty
theorem ticks_add (R : List (List α)) (t a b : Nat) : ticks R t (a + b) = ticks R t a ++ ticks R (t + a) b := by
  unfold ticks
  rw [← List.filter_append, List.range'_append_1]
theorem ticks_none {R : List (List α)} {t n : Nat} (h : ∀ s, t ≤ s → s < t + n → at_ R s = []) : ticks R t n = [] := by
  unfold ticks
  rw [List.filter_eq_nil_iff]
  intro s hs
  obtain ⟨h1, h2⟩ := List.mem_range'_1.mp hs
  rw [h s h1 h2]; simp
theorem ticks_all {R : List (List α)} {t n : Nat} (h : ∀ s, t ≤ s → s < t + n → at_ R s ≠ []) : ticks R t n = List.range' t n := by
  unfold ticks
  rw [List.filter_eq_self]
  intro s hs
  obtain ⟨h1, h2⟩ := List.mem_range'_1.mp hs
  have := h s h1 h2
  cases e : at_ R s with
  | nil => exact absurd e this
  | cons x l => rfl
theorem Gr.cov {R : List (List α)} {t : Nat} {P : List (Pc α)} (g : Gr R t P) (ht : t ≤ R.length) : Tr.cov P = ticks R t (R.length - t) := by
  induction g with
  | nil k => rw [ticks_none fun s h _ => k s h]; rfl
  | cons a b c d e f ih =>
    rename_i t1 fa la ma Pa
    have hl := at_len (d _ c (Nat.le_refl _))
    have e1 : R.length - t1 = (fa - t1) + ((la + 1 - fa) + (R.length - (la + 1))) := by omega
    rw [e1, ticks_add, ticks_add, ticks_none (fun s h1 h2 => b s h1 (by omega)), show t1 + (fa - t1) = fa by omega, show fa + (la + 1 - fa) = la + 1 by omega, ← ih hl, ticks_all fun s h1 h2 => by
      have := d s h1 (by omega)
      intro z; rw [z] at this; cases this]
    rfl
/-- who waits: the pieces so far, in front -/
theorem Gr.mem_tick {R : List (List α)} {t : Nat} {P : List (Pc α)} (g : Gr R t P) {s : Nat} (hs : t ≤ s) (hn : at_ R s ≠ []) : ∃ p ∈ P, p.2.1 ≤ s ∧ s ≤ p.2.2 := by
  induction g with
  | nil k => exact absurd (k s hs) hn
  | cons a b c d e f ih =>
    rename_i t1 fa la ma Pa
    by_cases h1 : s < fa
    · exact absurd (b s hs h1) hn
    · by_cases h2 : s ≤ la
      · exact ⟨_, .head _, Nat.not_lt.mp h1, h2⟩
      · obtain ⟨p, hp, q⟩ := ih (by omega)
        exact ⟨p, .tail _ hp, q⟩
/-- the fewest, tick by tick -/
inductive Dp (R : List (List α)) (tot : Nat) : Nat → (α → Option Nat) → Nat → Prop
  | out {t c : Nat} {b : α → Option Nat} {P : List (Pc α)} : Gr R t P → c + P.length = tot → (∀ m ∈ at_ R t, ∀ v, b m = some v → c + 1 ≤ v) → Dp R tot t b c
  | inn {t f l c : Nat} {b : α → Option Nat} {m : α} {P : List (Pc α)} : f < t → t ≤ l → Thr R m f l → (∀ m', ¬ Thr R m' f (l + 1)) → Gr R (l + 1) P → c + P.length = tot →
      (∀ m' ∈ at_ R t, (Thr R m' f (t - 1) → b m' = some c) ∧ (¬ Thr R m' f (t - 1) → ∀ v, b m' = some v → c + 1 ≤ v)) → Dp R tot t b c
theorem Dp.many {R : List (List α)} {tot c : Nat} {b : α → Option Nat} (h : Dp R tot R.length b c) : c = tot := by
  cases h with
  | out g e _ =>
    cases g with
    | nil _ => simpa using e
    | cons a b c d e f =>
      have := at_len (d _ (Nat.le_refl _) c); omega
  | inn h1 h2 h3 h4 h5 h6 h7 =>
    have := at_len (h3 _ (by omega) h2); omega
theorem Dp.empty {R : List (List α)} {tot t c : Nat} {b : α → Option Nat} (h : Dp R tot t b c) (e : at_ R t = []) : Dp R tot (t + 1) (fun _ => none) c := by
  cases h with
  | out g h1 h2 =>
    refine .out (P := _) ?_ h1 fun m _ v z => nomatch z
    cases g with
    | nil k => exact .nil fun s hs => k s (by omega)
    | cons a b c d e2 f =>
      rename_i fa la ma Pa
      have : t ≠ fa := fun z => by
        have := d _ (Nat.le_refl _) c
        rw [← z, e] at this; cases this
      exact .cons (by omega) (fun s h1 h2 => b s (by omega) h2) c d e2 f
  | inn h1 h2 h3 h4 h5 h6 h7 =>
    have := h3 t (by omega) h2
    rw [e] at this; cases this
variable [DecidableEq α]
/-- the new values: min(best.get(m, many + 1), many + 1) -/
def lateV (b : α → Option Nat) (c : Nat) (m : α) : Nat := min ((b m).getD (c + 1)) (c + 1)
theorem Dp.full {R : List (List α)} {tot t c : Nat} {b : α → Option Nat} (h : Dp R tot t b c) (ne : at_ R t ≠ []) {c' : Nat} (hm : ∃ m ∈ at_ R t, lateV b c m = c') (hl : ∀ m ∈ at_ R t, c' ≤ lateV b c m) : Dp R tot (t + 1) (fun m => if m ∈ at_ R t then some (lateV b c m) else none) c' := by
  obtain ⟨m1, hm1, em1⟩ := hm
  cases h with
  | out g h1 h2 =>
    have lv : ∀ m ∈ at_ R t, lateV b c m = c + 1 := fun m hm => by
      unfold lateV
      cases e : b m with
      | none => exact Nat.min_self _
      | some v => have := h2 m hm v e; exact Nat.min_eq_right this
    have ec : c' = c + 1 := by rw [← em1]; exact lv m1 hm1
    subst ec
    cases g with
    | nil k => exact absurd (k t (Nat.le_refl _)) ne
    | cons a b' c2 d e f =>
      rename_i fa la ma Pa
      have hft : fa = t := by
        by_cases z : fa = t
        · exact z
        · exact absurd (b' t (Nat.le_refl _) (by omega)) ne
      subst hft
      by_cases hl' : la = fa
      · subst hl'
        refine .out f (by simp at h1; omega) fun m hm v hv => ?_
        by_cases z : m ∈ at_ R la
        · exact absurd (fun s s1 s2 => by
            by_cases q : s = la
            · subst q; exact z
            · rw [show s = la + 1 by omega]; exact hm) (e m)
        · rw [if_neg z] at hv; cases hv
      · refine .inn (f := fa) (by omega) (by omega) d e f (by simp at h1; omega) fun m hm => ⟨fun ht => ?_, fun ht v hv => ?_⟩
        · have := ht fa (Nat.le_refl _) (by omega)
          rw [if_pos this, lv m this]
        · by_cases z : m ∈ at_ R fa
          · exact absurd (fun s s1 s2 => by rw [show s = fa by omega]; exact z) ht
          · rw [if_neg z] at hv; cases hv
  | inn h1 h2 h3 h4 h5 h6 h7 =>
    rename_i f l m0 P
    have lv : ∀ m ∈ at_ R t, lateV b c m = c ∨ lateV b c m = c + 1 := fun m hm => by
      unfold lateV
      by_cases z : Thr R m f (t - 1)
      · rw [(h7 m hm).1 z]; exact .inl (Nat.min_eq_left (Nat.le_succ c))
      · cases e : b m with
        | none => exact .inr (Nat.min_self _)
        | some v => exact .inr (Nat.min_eq_right ((h7 m hm).2 z v e))
    have lt : ∀ m ∈ at_ R t, Thr R m f (t - 1) → lateV b c m = c := fun m hm z => by
      unfold lateV
      rw [(h7 m hm).1 z]; exact Nat.min_eq_left (Nat.le_succ c)
    have ln : ∀ m ∈ at_ R t, ¬ Thr R m f (t - 1) → lateV b c m = c + 1 := fun m hm z => by
      unfold lateV
      cases e : b m with
      | none => exact Nat.min_self _
      | some v => exact Nat.min_eq_right ((h7 m hm).2 z v e)
    have m0t := h3 t (by omega) h2
    have ec : c' = c := by
      have a := hl m0 m0t
      rw [lt m0 m0t fun s s1 s2 => h3 s s1 (by omega)] at a
      rcases lv m1 hm1 with z | z <;> omega
    subst ec
    have full : ∀ m, m ∈ at_ R t → Thr R m f (t - 1) → Thr R m f t := fun m hm z s s1 s2 => by
      by_cases q : s = t
      · subst q; exact hm
      · exact z s s1 (by omega)
    by_cases hl' : l = t
    · subst hl'
      refine .out h5 h6 fun m hm v hv => ?_
      by_cases z : m ∈ at_ R l
      · rw [if_pos z] at hv
        by_cases y : Thr R m f (l - 1)
        · exact absurd (fun s s1 s2 => by
            by_cases q : s = l + 1
            · subst q; exact hm
            · exact full m z y s s1 (by omega)) (h4 m)
        · rw [ln m z y] at hv
          have := Option.some.inj hv; omega
      · rw [if_neg z] at hv; cases hv
    · refine .inn (f := f) (by omega) (by omega) h3 h4 h5 h6 fun m hm => ⟨fun ht => ?_, fun ht v hv => ?_⟩
      · rw [Nat.add_sub_cancel] at ht
        have z := ht t (by omega) (Nat.le_refl _)
        rw [if_pos z, lt m z fun s s1 s2 => ht s s1 (by omega)]
      · rw [Nat.add_sub_cancel] at ht
        by_cases z : m ∈ at_ R t
        · rw [if_pos z] at hv
          by_cases y : Thr R m f (t - 1)
          · exact absurd (full m z y) ht
          · rw [ln m z y] at hv
            have := Option.some.inj hv; omega
        · rw [if_neg z] at hv; cases hv
omit [DecidableEq α] in
theorem dp_start {R : List (List α)} {P : List (Pc α)} (g : Gr R 0 P) : Dp R P.length 0 (fun _ => none) 0 := .out g (Nat.zero_add _) fun _ _ _ z => nomatch z
end Mc.Tr
namespace Mc.Tr
variable {α : Type}
/-! what covers, and what shows -/
def PcOk (R : List (List α)) (p : Pc α) : Prop := p.2.1 ≤ p.2.2 ∧ p.2.2 < R.length ∧ Thr R p.1 p.2.1 p.2.2
def CovOk (R : List (List α)) (P : List (Pc α)) : Prop := (∀ p ∈ P, PcOk R p) ∧ cov P = ticks R 0 R.length
theorem Gr.covOk {R : List (List α)} {P : List (Pc α)} (g : Gr R 0 P) : CovOk R P :=
  ⟨fun p hp => by obtain ⟨_, a, b, c, _⟩ := g.ok p hp; exact ⟨a, b, c⟩, by have := g.cov (Nat.zero_le _); simpa using this⟩
theorem cov_cons (p : Pc α) (P : List (Pc α)) : cov (p :: P) = List.range' p.2.1 (p.2.2 + 1 - p.2.1) ++ cov P := rfl
theorem cov_app (P Q : List (Pc α)) : cov (P ++ Q) = cov P ++ cov Q := by unfold cov; rw [List.flatMap_append]
theorem cov_map {P Q : List (Pc α)} (h : P.map (·.2) = Q.map (·.2)) : cov P = cov Q := by
  have e : ∀ P : List (Pc α), cov P = (P.map (·.2)).flatMap fun p => List.range' p.1 (p.2 + 1 - p.1) := fun P => by
    unfold cov; rw [List.flatMap_map]
  rw [e, e, h]
theorem Gr.changed {R : List (List α)} {P : List (Pc α)} (g : Gr R 0 P) {i : Nat} {m m0 : α} {f l : Nat} (h : P[i]? = some (m0, f, l)) : CovOk R (P.take i ++ (m, f, l) :: P.drop (i + 1)) ↔ Thr R m f l := by
  have hi := (List.getElem?_eq_some_iff.mp h).1
  have e : P = P.take i ++ (m0, f, l) :: P.drop (i + 1) := by
    have := List.take_append_drop i P
    rw [List.drop_eq_getElem_cons hi, (List.getElem?_eq_some_iff.mp h).2] at this
    exact this.symm
  have ok := g.covOk
  constructor
  · intro c
    exact (c.1 _ (List.mem_append_right _ (.head _))).2.2
  · intro t
    have h0 := ok.1 (m0, f, l) (List.mem_of_getElem? h)
    refine ⟨fun p hp => ?_, ?_⟩
    · rcases List.mem_append.mp hp with hp | hp
      · exact ok.1 p (List.mem_of_mem_take hp)
      · rcases List.mem_cons.mp hp with rfl | hp
        · exact ⟨h0.1, h0.2.1, t⟩
        · exact ok.1 p (List.mem_of_mem_drop hp)
    · rw [← ok.2, cov_map (P := P) (Q := P.take i ++ (m0, f, l) :: P.drop (i + 1)) (by rw [← e])]
      exact cov_map (by rw [List.map_append, List.map_append]; rfl)
theorem cov_pos {R : List (List α)} {p : Pc α} (h : PcOk R p) : 0 < (List.range' p.2.1 (p.2.2 + 1 - p.2.1)).length := by
  rw [List.length_range']; have := h.1; omega
theorem Gr.no_tail {R : List (List α)} {P : List (Pc α)} (g : Gr R 0 P) (ne : P ≠ []) : ¬ CovOk R (P.drop 1) := by
  intro c
  cases P with
  | nil => exact ne rfl
  | cons p P =>
    have e := c.2.trans g.covOk.2.symm
    rw [cov_cons] at e
    have := congrArg List.length e
    rw [List.length_append] at this
    have := cov_pos (g.covOk.1 p (.head _))
    simp at *; omega
theorem Gr.no_last {R : List (List α)} {P : List (Pc α)} (g : Gr R 0 P) (ne : P ≠ []) : ¬ CovOk R P.dropLast := by
  intro c
  have e := c.2.trans g.covOk.2.symm
  have e2 := List.dropLast_concat_getLast ne
  rw [← e2, cov_app, List.dropLast_concat] at e
  have := congrArg List.length e
  rw [List.length_append, cov_cons, List.length_append] at this
  have := cov_pos (g.covOk.1 (P.getLast ne) (List.getLast_mem ne))
  omega
theorem Gr.no_more {R : List (List α)} {P : List (Pc α)} (g : Gr R 0 P) (ne : P ≠ []) : ¬ CovOk R (P ++ P.take 1) := by
  intro c
  cases P with
  | nil => exact ne rfl
  | cons p P =>
    have e := c.2.trans g.covOk.2.symm
    rw [cov_app] at e
    have := congrArg List.length e
    rw [List.length_append] at this
    have h := cov_pos (g.covOk.1 p (.head _))
    have : (Tr.cov ((p :: P).take 1)).length = (List.range' p.2.1 (p.2.2 + 1 - p.2.1)).length := by
      show (Tr.cov [p]).length = _
      rw [cov_cons]; show (_ ++ []).length = _; rw [List.append_nil]
    omega
theorem Gr.no_rev {R : List (List α)} {P : List (Pc α)} (g : Gr R 0 P) (ne : P.reverse ≠ P) : ¬ CovOk R P.reverse := by
  intro c
  cases P with
  | nil => exact ne rfl
  | cons p P =>
    cases e : P.reverse with
    | nil => rw [List.reverse_eq_nil_iff] at e; subst e; exact ne rfl
    | cons q Q =>
      have hq : q ∈ P := List.mem_reverse.mp (by rw [e]; exact .head _)
      have h1 := c.2.trans g.covOk.2.symm
      rw [List.reverse_cons, e, List.cons_append, cov_cons, cov_cons] at h1
      have p1 := g.covOk.1 p (.head _)
      have q1 := g.covOk.1 q (.tail _ hq)
      have h2 := congrArg List.head? h1
      rw [show q.2.2 + 1 - q.2.1 = (q.2.2 - q.2.1) + 1 by have := q1.1; omega, show p.2.2 + 1 - p.2.1 = (p.2.2 - p.2.1) + 1 by have := p1.1; omega, List.range'_succ, List.range'_succ] at h2
      have h3 : q.2.1 = p.2.1 := by simpa using h2
      have := (List.pairwise_cons.mp g.pw).1 q hq
      have := p1.1
      omega
/-! what shows -/
def Led (R : List (List α)) (f l : Int) : Prop := ∃ m, Thr R m f.toNat l.toNat
structure OkAt (R : List (List α)) (ts : List Int) (i : Nat) (t : Int) : Prop where
  low : 0 ≤ t
  high : t < R.length
  ne : at_ R t.toNat ≠ []
  step : ∀ u, 0 < i → ts[i - 1]? = some u → u < t ∧ ¬ Led R u t
def ShOk (R : List (List α)) (ts : List Int) : Prop := ∀ i t, ts[i]? = some t → OkAt R ts i t
theorem sh_up {R : List (List α)} {ts : List Int} (h : ShOk R ts) : ∀ (j i : Nat) (t u : Int), i < j → ts[i]? = some t → ts[j]? = some u → t < u
  | 0, i, t, u, hi, _, _ => by omega
  | j + 1, i, t, u, hi, ht, hu => by
    have hj : j < ts.length := by have := (List.getElem?_eq_some_iff.mp hu).1; omega
    have e := List.getElem?_eq_getElem hj
    have s := ((h _ _ hu).step _ (by omega) (show ts[j + 1 - 1]? = some _ from e)).1
    by_cases q : i = j
    · subst q
      rw [ht] at e
      have := Option.some.inj e
      omega
    · have := sh_up h j i t _ (by omega) ht e
      omega
theorem sh_led {R : List (List α)} {ts : List Int} (h : ShOk R ts) {a b : Int} (ha : a ∈ ts) (hb : b ∈ ts) (hab : a < b) : ¬ Led R a b := by
  rintro ⟨m, hm⟩
  obtain ⟨i, hi⟩ := List.mem_iff_getElem?.mp ha
  obtain ⟨j, hj⟩ := List.mem_iff_getElem?.mp hb
  have ij : i < j := by
    by_cases q : i < j
    · exact q
    · by_cases q2 : i = j
      · subst q2; rw [hi] at hj; have := Option.some.inj hj; omega
      · have := sh_up h i j b a (by omega) hj hi; omega
  have hj2 := (List.getElem?_eq_some_iff.mp hj).1
  have e := List.getElem?_eq_getElem (l := ts) (i := i + 1) (by omega)
  refine ((h _ _ e).step a (by omega) (by simpa using hi)).2 ⟨m, fun s s1 s2 => hm s s1 ?_⟩
  have : ts[i + 1] ≤ b := by
    by_cases q : i + 1 = j
    · subst q; rw [hj] at e; have := Option.some.inj e; omega
    · have := sh_up h j (i + 1) _ b (by omega) e hj; omega
  omega
theorem Gr.shows {R : List (List α)} {P : List (Pc α)} (g : Gr R 0 P) : ShOk R (P.map fun p => (p.2.1 : Int)) := by
  intro i t ht
  rw [List.getElem?_map] at ht
  obtain ⟨p, hp, rfl⟩ := Option.map_eq_some_iff.mp ht
  have hpm := List.mem_of_getElem? hp
  obtain ⟨_, h1, h2, h3, h4⟩ := g.ok p hpm
  refine ⟨by omega, by omega, fun e => ?_, fun u hi hu => ?_⟩
  · have := h3 p.2.1 (Nat.le_refl _) h1
    rw [Int.toNat_natCast] at e
    rw [e] at this; cases this
  · rw [List.getElem?_map] at hu
    obtain ⟨q, hq, rfl⟩ := Option.map_eq_some_iff.mp hu
    obtain ⟨a1, a2⟩ := List.getElem?_eq_some_iff.mp hq
    obtain ⟨b1, b2⟩ := List.getElem?_eq_some_iff.mp hp
    have pw := List.pairwise_iff_getElem.mp g.pw (i - 1) i a1 b1 (by omega)
    rw [a2, b2] at pw
    obtain ⟨_, g1, g2, g3, g4⟩ := g.ok q (List.mem_of_getElem? hq)
    refine ⟨by omega, fun ⟨m, hm⟩ => g4 m fun s s1 s2 => hm s (by omega) (by omega)⟩
theorem sh_bad {R : List (List α)} {ts : List Int} {t : Int} (ht : t ∈ ts) (h : t < 0 ∨ (R.length : Int) ≤ t ∨ at_ R t.toNat = []) : ¬ ShOk R ts := fun k => by
  obtain ⟨i, hi⟩ := List.mem_iff_getElem?.mp ht
  have := k i t hi
  rcases h with h | h | h
  · have := this.low; omega
  · have := this.high; omega
  · exact this.ne h
theorem Gr.sh_rev {R : List (List α)} {P : List (Pc α)} (g : Gr R 0 P) (h : 1 < P.length) : ¬ ShOk R (P.map fun p => (p.2.1 : Int)).reverse := fun k => by
  have s := g.shows
  generalize hz : (P.map fun p => (p.2.1 : Int)) = ts at k s
  have hl : 1 < ts.length := by rw [← hz, List.length_map]; exact h
  have a := sh_up s 1 0 _ _ (by omega) (List.getElem?_eq_getElem (by omega)) (List.getElem?_eq_getElem hl)
  have b := sh_up k (ts.length - 1) (ts.length - 2) ts[1] ts[0] (by omega) (by rw [List.getElem?_reverse (by omega), show ts.length - 1 - (ts.length - 2) = 1 by omega]; exact List.getElem?_eq_getElem hl) (by rw [List.getElem?_reverse (by omega), show ts.length - 1 - (ts.length - 1) = 0 by omega]; exact List.getElem?_eq_getElem (by omega))
  omega
theorem Gr.sh_more {R : List (List α)} {P : List (Pc α)} (g : Gr R 0 P) {s : Nat} (ne : at_ R s ≠ []) (hs : (s : Int) ∉ P.map fun p => (p.2.1 : Int)) {zs : List Int} (hz : ∀ x, x ∈ (P.map fun p => (p.2.1 : Int)) ∨ x = s → x ∈ zs) : ¬ ShOk R zs := fun k => by
  obtain ⟨p, hp, h1, h2⟩ := g.mem_tick (Nat.zero_le s) ne
  obtain ⟨_, _, _, h3, _⟩ := g.ok p hp
  have m1 : (p.2.1 : Int) ∈ P.map fun p => (p.2.1 : Int) := List.mem_map.mpr ⟨p, hp, rfl⟩
  have lt : (p.2.1 : Int) < s := by
    by_cases e : (p.2.1 : Int) = s
    · exact absurd (e ▸ m1) hs
    · omega
  exact sh_led k (hz _ (.inl m1)) (hz _ (.inr rfl)) lt ⟨p.1, fun x x1 x2 => h3 x (by omega) (by omega)⟩
end Mc.Tr
namespace Mc
open PySem L2 PySem.Spec PyProof.Rows
section
variable {X : Cx}
/-- a list against an empty one -/
def rNeNil (K : PySem.W.Frag) : R2 := fun x y H Q => ∃ (l b : Addr) (xs : List V), x = .ref l ∧ y = .ref b ∧ SqL K H l xs ∧ SqL K H b [] ∧ Q (.bl (!xs.isEmpty)) H
theorem op_neNil (hu : X.A.units + 64 < cLine) : OpR X (compareOp .NotEq) (rNeNil X.K) := by
  intro pins s σ H x y v u Q I rx ry ⟨l, b, xs, e1, e2, hl, hb, q⟩
  subst e1; subst e2
  cases xs with
  | nil => exact op_neD hu pins s σ H _ _ v u Q I rx ry ⟨.list [], .list [], .lst hl .nil, .lst hb .nil, by rfl, by rfl, q⟩
  | cons z zs =>
    cases rx; cases ry
    obtain ⟨i1, r1, p1, _⟩ := I.list hl
    obtain ⟨i2, r2, p2, _⟩ := I.list hb
    have z1 : i1.length = zs.length + 1 := by rw [← r1.length]; rfl
    have z2 : i2.length = 0 := by rw [← r2.length]; rfl
    exact SeqAt.RcNeAt.lists_lengths p1.isList p2.isList (by simp [z1, z2]) (by omega) _ _ _ _ ⟨.bl true, H, I, rfl, q⟩
end
end Mc
namespace Mc
open PySem L2 PySem.Spec PyProof.Rows
section
variable {X : Cx} {K : PySem.W.Frag}
/-- a dict against an empty one -/
def rNeDN : R2 := fun x y H Q => ∃ a b ks, x = .ref a ∧ y = .ref b ∧ H a = some (.dK ks) ∧ H b = some (.dK []) ∧ Q (.bl (!ks.isEmpty)) H
theorem op_neDN (hu : X.A.units < cLine) : OpR X (compareOp .NotEq) rNeDN := by
  intro pins s σ H x y v u Q I rx ry h
  obtain ⟨a, b, ks, rfl, rfl, ea, eb, q⟩ := h
  cases ks with
  | nil => exact op_ne_dictA hu pins s σ H _ _ v u Q I rx ry ⟨a, b, [], [], rfl, rfl, ea, eb, rfl, fun p hp => (nomatch hp), q⟩
  | cons k ks =>
    cases rx
    cases ry
    obtain ⟨_, ya, va, ra, da⟩ := (show ObjOk X.prog X.w H s.heap a (.dK (k :: ks)) from I.hok a _ ea)
    obtain ⟨_, yb, vb, rb, db⟩ := (show ObjOk X.prog X.w H s.heap b (.dK []) from I.hok b _ eb)
    have z1 : va.length = ks.length + 1 := by rw [← ra.length]; rfl
    have z2 : vb.length = 0 := by rw [← rb.length]; rfl
    exact PySem.W.keq_ne (knd := mixKind X.prog X.w) (r := true) ya yb da db hu (fun e => by omega) (fin_bl I q (by simp [z1, z2]))
theorem pg_tupK {es : List Expr} {k : Nat} {p : Pos} {t : TGs} {n : Nat} (hK : X.K = K) (h : PG X (.Tuple es k p) (gTup X.K n t)) : PG X (.Tuple es k p) (gTup K n t) := by
  subst hK
  exact h
theorem op_inK (h : X.K = K) : OpR X (compareOp .In) (rIn K false) := by
  subst h
  exact op_in_seq
theorem op_notInK (h : X.K = K) : OpR X (compareOp .NotIn) (rIn K true) := by
  subst h
  exact op_notIn_seq
end
end Mc
namespace Mc
open PySem L2 PySem.Spec PyProof.Rows Evl LamX NdefX Tr
abbrev sLastT : Stmt := top 4
abbrev sPcs : Stmt := top 3
abbrev sCov : Stmt := top 5
abbrev sStops : Stmt := top 6
abbrev sShow : Stmt := top 7
abbrev sLed : Stmt := top 8
abbrev sFew : Stmt := top 12
abbrev s_law : Stmt := top 13
abbrev Rws := List (List PySem.Str)
abbrev Pcs := List (Pc PySem.Str)
/-- the rows stand at p -/
def RowsH (H : Hp) (p : Addr) (R : Rws) : Prop := ∃ as : List Addr, H p = some (.lst (as.map V.ref)) ∧ Paired (fun r a => H a = some (.tup (r.map V.str))) R as
def PcsH (H : Hp) (p : Addr) (P : Pcs) : Prop := ∃ as : List Addr, H p = some (.lst (as.map V.ref)) ∧ Paired (fun x a => H a = some (.tup [.str x.1, .int (x.2.1 : Nat), .int (x.2.2 : Nat)])) P as
theorem RowsH.ex {H H' : Hp} {p : Addr} {R : Rws} (h : RowsH H p R) (e : Ex H H') : RowsH H' p R := by
  obtain ⟨as, h1, h2⟩ := h
  exact ⟨as, e _ _ h1, prd_imp (fun _ _ z => e _ _ z) h2⟩
theorem PcsH.ex {H H' : Hp} {p : Addr} {P : Pcs} (h : PcsH H p P) (e : Ex H H') : PcsH H' p P := by
  obtain ⟨as, h1, h2⟩ := h
  exact ⟨as, e _ _ h1, prd_imp (fun _ _ z => e _ _ z) h2⟩
theorem RowsH.extN {H H' : Hp} {p : Addr} {R : Rws} (h : RowsH H p R) (e : ExtN H H') : RowsH H' p R := by
  obtain ⟨as, h1, h2⟩ := h
  exact ⟨as, e _ _ h1 (fun _ => by simp), prd_imp (fun _ _ z => e _ _ z (fun _ => by simp)) h2⟩
theorem PcsH.extN {H H' : Hp} {p : Addr} {P : Pcs} (h : PcsH H p P) (e : ExtN H H') : PcsH H' p P := by
  obtain ⟨as, h1, h2⟩ := h
  exact ⟨as, e _ _ h1 (fun _ => by simp), prd_imp (fun _ _ z => e _ _ z (fun _ => by simp)) h2⟩
theorem RowsH.at_ {H : Hp} {p : Addr} {R : Rws} (h : RowsH H p R) {t : Nat} (ht : t < R.length) : ∃ (as : List Addr) (a : Addr), H p = some (.lst (as.map V.ref)) ∧ (as.map V.ref)[t]? = some (.ref a) ∧ H a = some (.tup ((Tr.at_ R t).map V.str)) := by
  obtain ⟨as, h1, h2⟩ := h
  have e := List.getElem?_eq_getElem ht
  obtain ⟨a, ea, ha⟩ := prd_get h2 e
  refine ⟨as, a, h1, by rw [List.getElem?_map, ea]; rfl, ?_⟩
  have : Tr.at_ R t = R[t] := by unfold Tr.at_; rw [List.getD_eq_getElem?_getD, e]; rfl
  rw [this]; exact ha
theorem RowsH.len {H : Hp} {p : Addr} {R : Rws} (h : RowsH H p R) : ∃ as : List Addr, H p = some (.lst (as.map V.ref)) ∧ (as.map V.ref).length = R.length := by
  obtain ⟨as, h1, h2⟩ := h
  exact ⟨as, h1, by rw [List.length_map, Paired.length h2]⟩
section
variable {K : PySem.W.Frag} {σ : L2.St} {H : Hp} {tp ti : TE} {p : Addr} {R : Rws}
theorem ev_lenR (h : RowsH H p R) (hp : Ev tp σ H (.ref p)) : Ev (tCB (rLenS K) (tCons tp tNil)) σ H (.int (R.length : Int)) := by
  obtain ⟨as, h1, h2⟩ := h.len
  rw [← h2]
  exact ev_len hp (SqL.of h1)
theorem ev_row (h : RowsH H p R) {t : Nat} (ht : t < R.length) (hp : Ev tp σ H (.ref p)) (hi : Ev ti σ H (.int (t : Nat))) : ∃ a, H a = some (.tup ((Tr.at_ R t).map V.str)) ∧ Ev (tOp (rIxL K) tp ti) σ H (.ref a) := by
  obtain ⟨as, a, h1, h2, h3⟩ := h.at_ ht
  exact ⟨a, h3, ev_op hp hi (rv_ixL (SqL.of h1) (atI_nat h2))⟩
/-- mast in rows[t] -/
theorem ev_inR {tm : TE} {m : PySem.Str} (h : RowsH H p R) {t : Nat} (ht : t < R.length) (hm : Ev tm σ H (.str m)) (hp : Ev tp σ H (.ref p)) (hi : Ev ti σ H (.int (t : Nat))) : Ev (tOp (rIn K false) tm (tOp (rIxL K) tp ti)) σ H (.bl (decide (m ∈ Tr.at_ R t))) := by
  obtain ⟨a, h1, h2⟩ := ev_row (K := K) h ht hp hi
  exact ev_inST hm h2 (SqT.of h1)
theorem ev_niR {tm : TE} {m : PySem.Str} (h : RowsH H p R) {t : Nat} (ht : t < R.length) (hm : Ev tm σ H (.str m)) (hp : Ev tp σ H (.ref p)) (hi : Ev ti σ H (.int (t : Nat))) : Ev (tOp (rIn K true) tm (tOp (rIxL K) tp ti)) σ H (.bl (!decide (m ∈ Tr.at_ R t))) := by
  obtain ⟨a, h1, h2⟩ := ev_row (K := K) h ht hp hi
  exact ev_niST hm h2 (SqT.of h1)
theorem et_row (h : RowsH H p R) {t : Nat} (ht : t < R.length) (hp : Ev tp σ H (.ref p)) (hi : Ev ti σ H (.int (t : Nat))) : EvT (tTru K (tOp (rIxL K) tp ti)) σ H (!(Tr.at_ R t).isEmpty) := by
  obtain ⟨a, h1, h2⟩ := ev_row (K := K) h ht hp hi
  exact et_is (et_truT h2 (SqT.of h1)) (by cases Tr.at_ R t <;> rfl)
end
def spLast : Sp := fun vs H Q _ => ∃ (p : Addr) (m : PySem.Str) (f : Nat) (R : Rws), vs = [.ref p, .str m, .int (f : Nat)] ∧ RowsH H p R ∧ f < R.length ∧ ∀ (L : Nat) (H' : Hp), IsLast R m f L → Ex H H' → Q (.int (L : Nat)) H'
theorem last_ex {α : Type} (R : List (List α)) (m : α) (f : Nat) : ∃ L, IsLast R m f L := by
  have go : ∀ (k l : Nat), R.length - l ≤ k → f ≤ l → (∀ s, f < s → s ≤ l → m ∈ Tr.at_ R s) → ∃ L, IsLast R m f L := by
    intro k
    induction k with
    | zero => exact fun l hk hl h => ⟨l, hl, h, fun z => by have := Tr.at_len z; omega⟩
    | succ k ih =>
      intro l hk hl h
      by_cases e : m ∈ Tr.at_ R (l + 1)
      · exact ih (l + 1) (by omega) (by omega) fun s s1 s2 => by
          by_cases q : s = l + 1
          · subst q; exact e
          · exact h s s1 (by omega)
      · exact ⟨l, hl, h, e⟩
  exact go _ f (Nat.le_refl _) (Nat.le_refl _) fun s s1 s2 => by omega
noncomputable def lastT {α : Type} (R : List (List α)) (m : α) (f : Nat) : Nat := Classical.choose (last_ex R m f)
theorem lastT_is {α : Type} (R : List (List α)) (m : α) (f : Nat) : IsLast R m f (lastT R m f) := Classical.choose_spec (last_ex R m f)
theorem ev_last {σ : L2.St} {H : Hp} {ta : TA} {E : XK} {p : Addr} {m : PySem.Str} {f : Nat} {R : Rws} (h : EvA ta σ H [.ref p, .str m, .int (f : Nat)]) (hR : RowsH H p R) (hf : f < R.length) : Ev (tCall spLast [] E ta) σ H (.int (lastT R m f : Nat)) :=
  ev_call h fun H1 e Q q E => ⟨p, m, f, R, rfl, hR.ex e, hf, fun L H' hL e2 => by rw [hL.uniq (lastT_is R m f)]; exact q H' e2⟩
theorem lastT_ge {α : Type} {R : List (List α)} {m : α} {f l : Nat} (hl : f ≤ l) : (l ≤ lastT R m f ∧ m ∈ Tr.at_ R f) ↔ Thr R m f l := by
  rw [(lastT_is R m f).ge]
  constructor
  · rintro ⟨h1, h2⟩ s s1 s2
    by_cases e : s = f
    · subst e; exact h2
    · exact h1 s (by omega) s2
  · exact fun h => ⟨fun s s1 s2 => h s (by omega) s2, h f (Nat.le_refl _) hl⟩
section
variable {P : Program} {w : World} {K : PySem.W.Frag} {mg : PySem.Str → Option Value} {base : Heap}
theorem scLastT : FnScope ["rows", "mast", "first", "last"] ["rows", "mast", "first"] (defScope sLastT) := ⟨rfl, rfl, rfl, by decide +kernel, rfl, by decide +kernel, by decide +kernel⟩
theorem ok_last {f : Addr} {fd : FuncData} (F : Fun K "last_tick" "last_tick" sLastT f fd) (hlen : mg "len" = none) : FnOk P w K mg base CX0 1 f fd ["rows", "mast", "first"] spLast := by
  refine F.ok scLastT (fun vs H Q E h => ?_) (fun cdv A outer s H vs Q E hr h => ?_)
  · obtain ⟨p, m, f, R, rfl, _⟩ := h
    rfl
  · obtain ⟨p, m, f, R, rfl, hR, hf, q⟩ := h
    refine ⟨_, (pss_cons (ps_set (i := 3) scLastT.nd rfl (Or.inl rfl) (pv 2))
      (pss_cons (ps_while PassesOwn.never (PW.pt (pw_and (pt_cmpR op_lt (pe_op op_add (pv 3) pe_int) (pe_callB call_len_seq (by rfl) hlen PySem.boot_len (pa_cons (pv 0) pa_nil)) (nomark _)) (pw_and1 (pt_cmpR (op_inK (K := K) rfl) (pv 1) (pe_ix ix_list (pv 0) (pe_op op_add (pv 3) pe_int) (fun _ _ => rfl)) (by rfl)))))
        (pss_one (ps_aug (i := 3) scLastT.nd rfl (Or.inl rfl) pe_int ip_add)))
      (pss_one (ps_ret (pv 3))))), ?_⟩
    refine q_asg (ev_var rfl) fun H1 x1 => ?_
    refine q_while (fun k σ' H' => ∃ l : Nat, σ' = [some (.ref p), some (.str m), some (.int (f : Nat)), some (.int (l : Nat))] ∧ Ex H H' ∧ f ≤ l ∧ (∀ s, f < s → s ≤ l → m ∈ Tr.at_ R s) ∧ l < R.length ∧ k = R.length - l) (R.length - f) ⟨f, rfl, x1, Nat.le_refl _, fun s s1 s2 => by omega, hf, rfl⟩ ?_
    rintro k σ' H' ⟨l, rfl, x', hfl, hon, hl, rfl⟩
    have hR' := hR.ex x'
    refine ⟨decide (((l : Nat) : Int) + 1 < (R.length : Nat)) && decide (m ∈ Tr.at_ R (l + 1)), et_and (et_test (ev_op (ev_op (ev_var rfl) ev_c rv_I0) (ev_lenR hR' (ev_var rfl)) rv_I0)) fun hb => et_test ?_, fun hb H2 x2 => ⟨fun σ2 H2 => σ2 = [some (.ref p), some (.str m), some (.int (f : Nat)), some (.int ((l + 1 : Nat) : Int))] ∧ Ex H H2, ?_, ?_⟩, fun hb H2 x2 => ?_⟩
    · have hb : ((l : Nat) : Int) + 1 < (R.length : Nat) := by simpa using hb
      exact ev_inR (t := l + 1) hR' (by omega) (ev_var rfl) (ev_var rfl) (ev_op (ev_var rfl) ev_c rv_I0)
    · rw [Bool.and_eq_true] at hb
      have hm : m ∈ Tr.at_ R (l + 1) := of_decide_eq_true hb.2
      have hn := Tr.at_len hm
      rintro σ2 H2 ⟨rfl, x2⟩
      refine ⟨R.length - (l + 1), by omega, l + 1, rfl, x2, by omega, fun s s1 s2 => ?_, hn, rfl⟩
      by_cases e : s = l + 1
      · subst e; exact hm
      · exact hon s s1 (by omega)
    · exact s_aug rfl ev_c fun H3 x3 => ⟨rfl, x'.trans (x2.trans x3)⟩
    · refine s_ret (ev_var rfl) fun H3 x3 => q l H3 ⟨hfl, hon, fun hm => ?_⟩ (x'.trans (x2.trans x3))
      have hn := Tr.at_len hm
      rw [decide_eq_true hm, decide_eq_true (by omega)] at hb
      cases hb
/-! covers -/
def spCov : Sp := fun vs H Q _ => ∃ (p q : Addr) (R : Rws) (P : Pcs), vs = [.ref p, .ref q] ∧ RowsH H p R ∧ PcsH H q P ∧ R.length ≤ 100 ∧ P.length ≤ 100 ∧ (∀ x ∈ P, x.2.1 ≤ 1000 ∧ x.2.2 ≤ 1000) ∧ ∀ (b : Bool) (H' : Hp), (b = true ↔ CovOk R P) → Ex H H' → Q (.bl b) H'
theorem scCov : FnScope ["rows", "pieces", "covered", "mast", "first", "last", "tick"] ["rows", "pieces"] (defScope sCov) := ⟨rfl, rfl, rfl, by decide +kernel, rfl, by decide +kernel, by decide +kernel⟩
theorem ok_cov {f : Addr} {fd : FuncData} (F : Fun K "covers" "covers" sCov f fd) (hlen : mg "len" = none) (hlist : mg "list" = none) (hrange : mg "range" = none) (c_is_number : Cal P w K mg base 1 "is_number" ["thing", "low", "high"] spIsNum) (c_last_tick : Cal P w K mg base 1 "last_tick" ["rows", "mast", "first"] spLast) : FnOk P w K mg base CX0 2 f fd ["rows", "pieces"] spCov := by
  refine F.ok scCov (fun vs H Q E h => ?_) (fun cdv A outer s H vs Q E hr h => ?_)
  · obtain ⟨p, q, R, P', rfl, _⟩ := h
    rfl
  · obtain ⟨p, q, R, P', rfl, hR, hP, hR1, hP1, hb, k⟩ := h
    refine ⟨_, (pss_cons (ps_set (i := 2) scCov.nd rfl (Or.inl rfl) (pe_lst pa_nil))
      (pss_cons (ps_for PassesOwn.never rfl (pi_list (pv 1)) (pg_tup rfl (pgs_cons (pg_name (i := 3) scCov.nd rfl (Or.inl rfl)) (pgs_cons (pg_name (i := 4) scCov.nd rfl (Or.inl rfl)) (pgs_cons (pg_name (i := 5) scCov.nd rfl (Or.inl rfl)) pgs_nil))))
        (pss_cons (ps_if (PW.pt (pw_or (pt_not (pt_val (pe_cal c_is_number (hr.mono (by decide)) rfl (pa_cons (pv 4) (pa_cons pe_int (pa_cons (pe_op op_sub (pe_callB call_len_seq (by rfl) hlen PySem.boot_len (pa_cons (pv 0) pa_nil)) pe_int) pa_nil)))))) (pw_or1 (pt_not (pt_val (pe_cal c_is_number (hr.mono (by decide)) rfl (pa_cons (pv 5) (pa_cons (pv 4) (pa_cons (pe_op op_sub (pe_callB call_len_seq (by rfl) hlen PySem.boot_len (pa_cons (pv 0) pa_nil)) pe_int) pa_nil)))))))))
          (pss_one (ps_ret pe_bl))
          pss_nil)
        (pss_cons (ps_if (PW.pt (pw_or (pt_cmpR op_lt (pe_cal c_last_tick (hr.mono (by decide)) rfl (pa_cons (pv 0) (pa_cons (pv 3) (pa_cons (pv 4) pa_nil)))) (pv 5) (nomark _)) (pw_or1 (pt_cmpR (op_notInK (K := K) rfl) (pv 3) (pe_ix ix_list (pv 0) (pv 4) (fun _ _ => rfl)) (by rfl)))))
          (pss_one (ps_ret pe_bl))
          pss_nil)
        (pss_one (ps_expr (pe_bm PySem.F.plainAttrs_list PySem.F.slot_list_extend PySem.F.type_list_extend mt_extend (pv 2) (pa_cons (pe_listRg rfl (by rfl) hlist (prg_2 (by rfl) hrange (pv 4) (pe_op op_add (pv 5) pe_int))) pa_nil)))))))
      (pss_one (ps_ret (pe_cmpR (op_eqD hr.units) (pv 2) (pe_lc (own := [("tick", 6)]) (g := gName 6) rfl scCov.nd (pi_range1 (by rfl) hrange (pa_cons (pe_callB call_len_seq (by rfl) hlen PySem.boot_len (pa_cons (pv 0) pa_nil)) pa_nil)) (blkOk_by (own := [("tick", 6)]) (N := ["rows", "pieces", "covered", "mast", "first", "last", "tick"]) (sc := defScope sCov) (by decide +kernel)) (fun _ _ _ _ _ => pg_name (i := 6) scCov.nd rfl (Or.inl rfl)) (fun _ _ _ _ _ => pts_one (pt_truthK (K := K) rfl (pe_ix (ix_listK (K := K) rfl) (pv 0) (pv 6) (fun _ _ => rfl)) (by intro _; rfl))) (fun _ _ _ _ _ => (pv 6))) (nomark _)))))), ?_⟩
    refine q_asgL (el_lst ea_nil (by show 0 ≤ 100000; decide)) fun cA H1 hcA x1 hcA1 => ?_
    obtain ⟨as, hq1, hpr⟩ := hP.ex x1
    have hla : as.length = P'.length := (Paired.length hpr).symm
    have ncq : cA ≠ q := fun e => by obtain ⟨as0, h0, _⟩ := hP; rw [← e, hcA] at h0; cases h0
    refine q_forL (ev_var rfl) (SqL.of hq1) (fun i σ' H' => ∃ v3 v4 v5, σ' = [some (.ref p), some (.ref q), some (.ref cA), v3, v4, v5, none] ∧ Ex H H' ∧ PcsH H' q P' ∧ H' q = some (.lst (as.map V.ref)) ∧ H' cA = some (.lst ((Tr.cov (P'.take i)).map fun t : Nat => V.int (t : Nat))) ∧ ∀ x ∈ P'.take i, PcOk R x)
      (fun H2 x2 => ⟨_, _, _, rfl, x1.trans x2, (hP.ex x1).ex x2, x2 _ _ hq1, x2 _ _ hcA1, fun x hx => nomatch hx⟩) (fun i σ' H' _ ⟨_, _, _, _, _, _, h, _⟩ => SqL.of h) ?_ ?_
    · rintro i x σ' H2 hx ⟨v3, v4, v5, rfl, x2, hP2, hq2, hc2, hok⟩
      rw [List.getElem?_map] at hx
      obtain ⟨a, ha, rfl⟩ := Option.map_eq_some_iff.mp hx
      have hi : i < P'.length := by rw [← hla]; exact (List.getElem?_eq_some_iff.mp ha).1
      obtain ⟨⟨m, f0, l0⟩, hpc⟩ : ∃ y, P'[i]? = some y := ⟨_, List.getElem?_eq_getElem hi⟩
      have hat : H2 a = some (.tup [.str m, .int (f0 : Nat), .int (l0 : Nat)]) := by
        obtain ⟨as2, h1, h2⟩ := hP2
        have e : as2 = as := by
          rw [hq2] at h1
          injection h1 with h1; injection h1 with h1
          exact ((List.map_inj_right (fun a b e => by injection e)).mp h1).symm
        obtain ⟨a', ea, ha'⟩ := prd_get h2 hpc
        rw [e, ha] at ea
        rw [Option.some.inj ea]; exact ha'
      have hbm := hb _ (List.mem_of_getElem? hpc)
      have hR2 := hR.ex x2
      have tk : P'.take (i + 1) = P'.take i ++ [(m, f0, l0)] := by rw [List.take_add_one, hpc]; rfl
      refine ⟨a, _, rfl, SqT.of hat, rfl, _, _, rfl, _, _, rfl, _, _, rfl, rfl, ?_⟩
      -- the numbers
      have en : ∀ {σ : L2.St} {H : Hp} {tp ti tl : TE} {n lo : Nat}, RowsH H p R → Ev tp σ H (.ref p) → Ev ti σ H (.int (n : Nat)) → Ev tl σ H (.int (lo : Nat)) → Ev (tCall spIsNum [] E0 (tCons ti (tCons tl (tCons (tOp (rI0 fun i j => .int (i - j)) (tCB (rLenS K) (tCons tp tNil)) (tC (.int 1))) tNil)))) σ H (.bl (decide (lo ≤ n) && decide (n < R.length))) := fun {σ H tp ti tl n lo} hR hp hi hl => by
        refine ev_is (ev_call (ea_cons hi (ea_cons hl (ea_cons (ev_op (ev_lenR hR hp) ev_c rv_I0) ea_nil))) (z := .bl (decide ((lo : Int) ≤ n) && decide ((n : Int) ≤ R.length - 1))) fun H1 e Q q E => ⟨_, _, _, rfl, q H1 (Ex.refl _)⟩) ?_
        have e1 : decide ((lo : Int) ≤ n) = decide (lo ≤ n) := by simp
        have e2 : decide ((n : Int) ≤ R.length - 1) = decide (n < R.length) := by
          by_cases z : n < R.length
          · rw [decide_eq_true z]; exact decide_eq_true (by omega)
          · rw [decide_eq_false z]; exact decide_eq_false (by omega)
        rw [e1, e2]
      refine q_when (et_or (et_not (et_B (en (lo := 0) hR2 (ev_var rfl) (ev_var rfl) ev_c))) fun _ => et_not (et_B (en hR2 (ev_var rfl) (ev_var rfl) (ev_var rfl)))) (fun hbb H3 x3 => ?_) fun hbb H3 x3 => ?_
      · refine s_ret ev_c fun H4 x4 => k false H4 ⟨fun z => (nomatch z), fun c => ?_⟩ (x2.trans (x3.trans x4))
        have := c.1 _ (List.mem_of_getElem? hpc)
        obtain ⟨o1, o2, o3⟩ := this
        rw [decide_eq_true (Nat.zero_le f0), decide_eq_true (show f0 < R.length from Nat.lt_of_le_of_lt o1 o2), decide_eq_true o1, decide_eq_true o2] at hbb
        cases hbb
      · have hfl : f0 ≤ l0 ∧ l0 < R.length := by
          by_cases z1 : f0 < R.length
          · by_cases z2 : f0 ≤ l0
            · by_cases z3 : l0 < R.length
              · exact ⟨z2, z3⟩
              · rw [decide_eq_false z3] at hbb; simp at hbb
            · rw [decide_eq_false z2] at hbb; simp at hbb
          · rw [decide_eq_false z1] at hbb; simp at hbb
        have hR3 := hR2.ex x3
        refine q_when (et_or (et_test (ev_op (ev_last (ea_cons (ev_var rfl) (ea_cons (ev_var rfl) (ea_cons (ev_var rfl) ea_nil))) hR3 (show f0 < R.length by omega)) (ev_var rfl) rv_I0)) fun _ => et_test (ev_niR hR3 (show f0 < R.length by omega) (ev_var rfl) (ev_var rfl) (ev_var rfl))) (fun hcc H4 x4 => ?_) fun hcc H4 x4 => ?_
        · refine s_ret ev_c fun H5 x5 => k false H5 ⟨fun z => (nomatch z), fun c => ?_⟩ (x2.trans (x3.trans (x4.trans x5)))
          have ht : Thr R m f0 l0 := (c.1 _ (List.mem_of_getElem? hpc)).2.2
          obtain ⟨o1, o2⟩ := (lastT_ge hfl.1).mpr ht
          rw [decide_eq_true o2, decide_eq_false (by omega)] at hcc
          cases hcc
        · have thr : Thr R m f0 l0 := (lastT_ge hfl.1).mp (by
            rw [Bool.or_eq_false_iff] at hcc
            have h1 := of_decide_eq_false hcc.1
            have h2 : m ∈ Tr.at_ R f0 := by simpa using hcc.2
            exact ⟨by omega, h2⟩)
          have x24 := x3.trans x4
          have hc4 := x24 _ _ hc2
          refine ⟨_, rfl, Or.inl ⟨rfl, _, sq_of hc4⟩, ?_⟩
          refine ⟨_, rfl, _, rfl, _, _, rfl, rfl, _, _, rfl, rfl, RgOk.of_le (by omega) (by omega) (by omega) (by omega), fun g hg => ?_⟩
          have ncg : cA ≠ g := ne_of_none hc4 hg
          have clen : (Tr.cov (P'.take i)).length ≤ 1000 * i := by
            have : ∀ (L : Pcs), (∀ x ∈ L, x.2.1 ≤ 1000 ∧ x.2.2 ≤ 999) → (Tr.cov L).length ≤ 1000 * L.length := fun L => by
              induction L with
              | nil => intro _; exact Nat.le_refl _
              | cons x L ih =>
                intro h
                rw [Tr.cov_cons, List.length_append, List.length_range', List.length_cons]
                have := ih fun y hy => h y (.tail _ hy)
                have := h x (.head _)
                omega
            refine Nat.le_trans (this _ fun x hx => ?_) (Nat.mul_le_mul_left _ (List.length_take_le _ _))
            have := (hok x hx)
            have := this.1; have := (hok x hx).2.1; omega
          refine ⟨cA, g, _, _, rfl, rfl, by rw [upd_ne ncg]; exact hc4, upd_same, ?_, ?_⟩
          · rw [List.length_map, rgV_length]
            refine sz_of ?_
            have := Nat.mul_le_mul_left 1000 (show i ≤ 100 by omega)
            omega
          · have e5 : (Tr.cov (P'.take i)).map (fun t : Nat => V.int (t : Nat)) ++ rgV (f0 : Int) ((l0 : Int) + 1) = (Tr.cov (P'.take (i + 1))).map fun t : Nat => V.int (t : Nat) := by
              rw [tk, Tr.cov_app, List.map_append]
              congr 1
              rw [Tr.cov_cons]
              show _ = (List.range' f0 (l0 + 1 - f0) ++ []).map _
              rw [List.append_nil]
              unfold rgV
              rw [List.range'_eq_map_range, List.map_map, show ((l0 : Int) + 1 - (f0 : Int)).toNat = l0 + 1 - f0 by omega]
              refine List.map_congr_left fun z _ => ?_
              show V.int _ = V.int _
              rw [show ((f0 : Int) + (z : Nat)) = ((f0 + z : Nat) : Int) by omega]
            have x5 : Ex H (upd (upd H4 g (.lst (rgV (f0 : Int) ((l0 : Int) + 1)))) cA (.lst ((Tr.cov (P'.take i)).map (fun t : Nat => V.int (t : Nat)) ++ rgV (f0 : Int) ((l0 : Int) + 1)))) := Ex.mut ((x2.trans x24).trans (Ex.new hg)) hcA
            have hP5 : ∀ {b o}, H4 b = some o → b ≠ cA → upd (upd H4 g (.lst (rgV (f0 : Int) ((l0 : Int) + 1)))) cA (.lst ((Tr.cov (P'.take i)).map (fun t : Nat => V.int (t : Nat)) ++ rgV (f0 : Int) ((l0 : Int) + 1))) b = some o := fun {b o} z nb => by
              rw [upd_ne nb, upd_ne (ne_of_none z hg)]; exact z
            refine ⟨_, _, _, rfl, x5, hP.ex x5, hP5 (x24 _ _ hq2) ncq.symm, by rw [upd_same, e5], fun x hx => ?_⟩
            rw [tk] at hx
            rcases List.mem_append.mp hx with hx | hx
            · exact hok x hx
            · rw [List.mem_singleton.mp hx]
              exact ⟨hfl.1, hfl.2, thr⟩
    · rintro σ' H2 ⟨v3, v4, v5, rfl, x2, hP2, hq2, hc2, hok⟩
      rw [List.length_map, hla, List.take_length] at hc2 hok
      have hR2 := hR.ex x2
      refine s_ret (v := .bl (decide (((Tr.cov P').map fun t : Nat => ((t : Nat) : Int)) = (Tr.ticks R 0 R.length).map fun t : Nat => ((t : Nat) : Int)))) (ev_opL (ev_var rfl) (el_fI (ys := List.range R.length) (c := fun t : Nat => V.int (t : Nat)) (j := 6) (fun t => !(Tr.at_ R t).isEmpty) (fun t => V.int (t : Nat)) (ei_r1 (n := (R.length : Nat)) (ea_cons (ev_lenR hR2 (ev_var rfl)) ea_nil) (by omega) (by omega)) (by rw [List.length_range]; omega) (fun i y hy H3 x3 => ?_) fun i y hy _ H3 x3 => ev_var rfl) fun g H3 hg x3 => ?_) fun H3 x3 => k _ H3 ?_ (x2.trans x3)
      · have hy' : y < R.length := List.mem_range.mp (List.mem_of_getElem? hy)
        exact et_row (hR2.ex x3) hy' (ev_var rfl) (ev_var rfl)
      · have ec : (Tr.cov P').map (fun t : Nat => V.int (t : Nat)) = ((Tr.cov P').map fun t : Nat => ((t : Nat) : Int)).map V.int := by rw [List.map_map]; rfl
        have et : ((List.range R.length).filter fun t => !(Tr.at_ R t).isEmpty).map (fun t : Nat => V.int (t : Nat)) = ((Tr.ticks R 0 R.length).map fun t : Nat => ((t : Nat) : Int)).map V.int := by
          unfold Tr.ticks
          rw [List.map_map, ← List.range_eq_range']; rfl
        rw [et] at hg
        rw [ec] at hc2
        exact rv_eqIL (SqL.of (x3 _ _ hc2)) (SqL.of hg)
      · rw [decide_eq_true_eq]
        have inj : ∀ a b : List Nat, (a.map fun t : Nat => ((t : Nat) : Int)) = b.map (fun t : Nat => ((t : Nat) : Int)) ↔ a = b := fun a b => List.map_inj_right (fun a b e => by omega)
        rw [inj]
        exact ⟨fun e => ⟨hok, e⟩, fun c => c.2⟩

/-! is_led, shows_many -/
def spLed : Sp := fun vs H Q _ => ∃ (p : Addr) (f l : Nat) (R : Rws), vs = [.ref p, .int (f : Nat), .int (l : Nat)] ∧ RowsH H p R ∧ f < R.length ∧ f < l ∧ R.length ≤ 100 ∧ (Tr.at_ R f).length ≤ 100 ∧ ∀ (b : Bool) (H' : Hp), (b = true ↔ ∃ m, Thr R m f l) → Ex H H' → Q (.bl b) H'
theorem scLed : FnScope ["rows", "first", "last", "mast"] ["rows", "first", "last"] (defScope sLed) := ⟨rfl, rfl, rfl, by decide +kernel, rfl, by decide +kernel, by decide +kernel⟩
theorem ok_led {f : Addr} {fd : FuncData} (F : Fun K "is_led" "is_led" sLed f fd) (hany : mg "any" = none) (c_last_tick : Cal P w K mg base 1 "last_tick" ["rows", "mast", "first"] spLast) : FnOk P w K mg base CX0 2 f fd ["rows", "first", "last"] spLed := by
  refine F.ok scLed (fun vs H Q E h => ?_) (fun cdv A outer s H vs Q E hr h => ?_)
  · obtain ⟨p, f0, l0, R, rfl, _⟩ := h
    rfl
  · obtain ⟨p, f0, l0, R, rfl, hR, hf, hfl, hR1, hr1, k⟩ := h
    refine ⟨_, (pss_one (ps_ret (pe_callB (cr_any rfl) (by rfl) hany boot_any (pa_cons (pe_lc (own := [("mast", 3)]) (g := gName 3) (tt := tYes) rfl scLed.nd (pi_tup (pe_ix ix_list (pv 0) (pv 1) (fun _ _ => rfl))) (blkOk_by (own := [("mast", 3)]) (N := ["rows", "first", "last", "mast"]) (sc := defScope sLed) (by decide +kernel)) (fun _ _ _ _ _ => pg_name (i := 3) scLed.nd rfl (Or.inl rfl)) (fun _ _ _ _ _ => pts_nil) (fun _ _ _ _ _ => (pe_cmpR op_ge (pe_cal c_last_tick (hr.mono (by decide)) rfl (pa_cons (pv 0) (pa_cons (pv 3) (pa_cons (pv 1) pa_nil)))) (pv 2) (nomark _)))) pa_nil)))), ?_⟩
    obtain ⟨a, ha, hev⟩ := ev_row (K := K) (tp := tVar 0) (ti := tVar 1) (σ := L2.start ["rows", "first", "last", "mast"] [.ref p, .int (f0 : Nat), .int (l0 : Nat)]) hR hf (ev_var rfl) (ev_var rfl)
    refine s_ret (ev_anyM (ys := Tr.at_ R f0) (p := fun m => decide (lastT R m f0 ≥ l0)) (el_mI (c := V.str) (j := 3) _ (ei_T hev (SqT.of ha)) (by omega) fun i y hy H1 x1 => ?_)) fun H1 x1 => k _ H1 ?_ x1
    · refine ev_is (ev_op (ev_last (ea_cons (ev_var rfl) (ea_cons (ev_var rfl) (ea_cons (ev_var rfl) ea_nil))) (hR.ex x1) hf) (ev_var rfl) rv_I0) ?_
      by_cases z : lastT R y f0 ≥ l0
      · rw [decide_eq_true z, decide_eq_true (by omega)]
      · rw [decide_eq_false z, decide_eq_false (by omega)]
    · rw [List.any_eq_true]
      constructor
      · rintro ⟨m, hm, hd⟩
        exact ⟨m, (lastT_ge (by omega)).mp ⟨of_decide_eq_true hd, hm⟩⟩
      · rintro ⟨m, hm⟩
        obtain ⟨h1, h2⟩ := (lastT_ge (by omega)).mpr hm
        exact ⟨m, h2, decide_eq_true h1⟩
def spShow {K0 : PySem.W.Frag} : Sp := fun vs H Q _ => ∃ (p q : Addr) (R : Rws) (ts : List Int), vs = [.ref p, .ref q] ∧ RowsH H p R ∧ SqL K0 H q (ts.map V.int) ∧ R.length ≤ 100 ∧ ts.length ≤ 1000 ∧ (∀ r ∈ R, r.length ≤ 100) ∧ ∀ (b : Bool) (H' : Hp), (b = true ↔ ShOk R ts) → Ex H H' → Q (.bl b) H'
theorem scShow : FnScope ["rows", "stops", "at", "tick"] ["rows", "stops"] (defScope sShow) := ⟨rfl, rfl, rfl, by decide +kernel, rfl, by decide +kernel, by decide +kernel⟩
theorem ok_show {f : Addr} {fd : FuncData} (F : Fun K "shows_many" "shows_many" sShow f fd) (hlen : mg "len" = none) (henum : mg "enumerate" = none) (c_is_number : Cal P w K mg base 1 "is_number" ["thing", "low", "high"] spIsNum) (c_is_led : Cal P w K mg base 2 "is_led" ["rows", "first", "last"] spLed) : FnOk P w K mg base CX0 3 f fd ["rows", "stops"] (spShow (K0 := K)) := by
  refine F.ok scShow (fun vs H Q E h => ?_) (fun cdv A outer s H vs Q E hr h => ?_)
  · obtain ⟨p, q, R, ts, rfl, _⟩ := h
    rfl
  · obtain ⟨p, q, R, ts, rfl, hR, hS, hR1, ht1, hr1, k⟩ := h
    have hr1' : ∀ t, t < R.length → (Tr.at_ R t).length ≤ 100 := fun t ht => hr1 _ (by unfold Tr.at_; rw [List.getD_eq_getElem?_getD, List.getElem?_eq_getElem ht]; exact List.getElem_mem ht)
    refine ⟨_, (pss_cons (ps_for PassesOwn.never rfl (pi_enum (by rfl) henum (pa_cons (pv 1) pa_nil)) (pg_tup rfl (pgs_cons (pg_name (i := 2) scShow.nd rfl (Or.inl rfl)) (pgs_cons (pg_name (i := 3) scShow.nd rfl (Or.inl rfl)) pgs_nil)))
        (pss_cons (ps_if (PW.pt (pw_or (pt_not (pt_val (pe_cal c_is_number (hr.mono (by decide)) rfl (pa_cons (pv 3) (pa_cons pe_int (pa_cons (pe_op op_sub (pe_callB call_len_seq (by rfl) hlen PySem.boot_len (pa_cons (pv 0) pa_nil)) pe_int) pa_nil)))))) (pw_or1 (pt_not (pt_truthK (K := K) rfl (pe_ix ix_list (pv 0) (pv 3) (fun _ _ => rfl)) (by intro _; rfl))))))
          (pss_one (ps_ret pe_bl))
          pss_nil)
        (pss_one (ps_if (PW.pt (pw_and (pt_cmpR op_gt (pv 2) pe_int (nomark _)) (pw_and1 (PW.pt (pw_or (pt_cmpR op_le (pv 3) (pe_ix ix_list (pv 1) (pe_op op_sub (pv 2) pe_int) (fun _ _ => rfl)) (nomark _)) (pw_or1 (pt_val (pe_cal c_is_led (hr.mono (by decide)) rfl (pa_cons (pv 0) (pa_cons (pe_ix ix_list (pv 1) (pe_op op_sub (pv 2) pe_int) (fun _ _ => rfl)) (pa_cons (pv 3) pa_nil)))))))))))
          (pss_one (ps_ret pe_bl))
          pss_nil))))
      (pss_one (ps_ret pe_bl))), ?_⟩
    refine ⟨_, rfl, q, ts.map V.int, rfl, hS, for_it walk_enum (fun i σ' H' => (∃ v2 v3, σ' = [some (.ref p), some (.ref q), v2, v3]) ∧ Ex H H' ∧ ∀ j t, j < i → ts[j]? = some t → OkAt R ts j t) ⟨⟨_, _, rfl⟩, Ex.refl _, fun j t hj => absurd hj (Nat.not_lt_zero _)⟩ (fun i σ' H' _ ⟨_, x, _⟩ => ex_l x hS) ?_ ?_⟩
    · rintro i x σ' H1 H2 hi ⟨⟨v2, v3, rfl⟩, x1, hok⟩ ⟨tq, k1, w1, rfl, htq, rfl, hk1, hw1⟩
      have hk1 := Option.some.inj hk1
      subst hk1
      rw [List.length_map] at hi
      have hw1 : (ts.map V.int)[i]? = some w1 := hw1
      rw [List.getElem?_map] at hw1
      obtain ⟨t, ht, rfl⟩ := Option.map_eq_some_iff.mp hw1
      have x2 := x1.trans (Ex.new (o := .tup [.int (i : Nat), .int t]) htq)
      refine ⟨tq, _, rfl, SqT.of upd_same, rfl, _, _, rfl, _, _, rfl, rfl, ?_⟩
      generalize upd H1 tq (.tup [.int (i : Nat), .int t]) = H2 at x2 ⊢
      have hR2 := hR.ex x2
      have bad : (¬ ∃ H', OkAt R ts i t ∧ Ex H H') → ∀ H', Ex H H' → Q (.bl false) H' := fun n H' x => k false H' ⟨(fun z => nomatch z), fun c => absurd ⟨H, c i t ht, Ex.refl _⟩ n⟩ x
      refine q_when (b := !(decide (0 ≤ t) && decide (t ≤ (R.length : Int) - 1)) || !(!(Tr.at_ R t.toNat).isEmpty)) (et_or (et_not (et_B (ev_call (ea_cons (ev_var rfl) (ea_cons ev_c (ea_cons (ev_op (ev_lenR hR2 (ev_var rfl)) ev_c rv_I0) ea_nil))) fun H1 e Q q E => ⟨_, _, _, rfl, q H1 (Ex.refl _)⟩))) fun hb => ?_) (fun hb H3 x3 => ?_) fun hb H3 x3 => ?_
      · have hb : 0 ≤ t ∧ t ≤ (R.length : Int) - 1 := by simpa using hb
        exact et_not (et_row hR2 (t := t.toNat) (by omega) (ev_var rfl) (ev_is (ev_var rfl) (by rw [show ((t.toNat : Nat) : Int) = t by omega])))
      · refine s_ret ev_c fun H4 x4 => bad (fun ⟨_, c, _⟩ => ?_) H4 (x2.trans (x3.trans x4))
        have h1 := c.low
        have h2 := c.high
        rw [decide_eq_true h1, decide_eq_true (show t ≤ (R.length : Int) - 1 by omega)] at hb
        have : (Tr.at_ R t.toNat).isEmpty = true := by simpa using hb
        exact c.ne (List.isEmpty_iff.mp this)
      · have hR3 := hR2.ex x3
        have hb : (0 ≤ t ∧ t ≤ (R.length : Int) - 1) ∧ (Tr.at_ R t.toNat) ≠ [] := by
          rw [Bool.or_eq_false_iff] at hb
          refine ⟨by simpa using hb.1, fun e => ?_⟩
          rw [e] at hb; simp at hb
        have put : ∀ H4, Ex H3 H4 → (∀ u, 0 < i → ts[i - 1]? = some u → u < t ∧ ¬ Led R u t) → (∃ v2 v3, [some (V.ref p), some (.ref q), some (.int (i : Nat)), some (.int t)] = [some (.ref p), some (.ref q), v2, v3]) ∧ Ex H H4 ∧ ∀ j t, j < i + 1 → ts[j]? = some t → OkAt R ts j t := fun H4 x4 st => by
          refine ⟨⟨_, _, rfl⟩, x2.trans (x3.trans x4), fun j t' hj ht' => ?_⟩
          by_cases e : j = i
          · subst e
            rw [ht] at ht'
            have e2 := Option.some.inj ht'
            subst e2
            exact ⟨hb.1.1, by omega, hb.2, st⟩
          · exact hok j t' (by omega) ht'
        by_cases hi0 : 0 < i
        · obtain ⟨u, hu⟩ : ∃ u, ts[i - 1]? = some u := ⟨_, List.getElem?_eq_getElem (by omega)⟩
          have oku := hok (i - 1) u (by omega) hu
          have hS3 := ex_l (x2.trans x3) hS
          have evu : ∀ H4, Ex H3 H4 → Ev (tOp (rIxL K) (tVar 1) (tOp (rI0 fun i j => .int (i - j)) (tVar 2) (tC (.int 1)))) [some (.ref p), some (.ref q), some (.int (i : Nat)), some (.int t)] H4 (.int u) := fun H4 x4 => ev_op (ev_var rfl) (ev_op (ev_var rfl) ev_c rv_I0) (rv_ixL (ex_l x4 hS3) (by
            show atI (ts.map V.int) ((i : Int) - 1) = some (V.int u)
            rw [show (i : Int) - 1 = ((i - 1 : Nat) : Int) by omega]
            exact atI_nat (by rw [List.getElem?_map, hu]; rfl)))
          by_cases htu : t ≤ u
          · refine s_when (b := true) (et_is (et_and (et_test (ev_op (ev_var rfl) ev_c rv_I0)) fun _ => et_or (b := false) (et_test (b := true) (ev_is (ev_op (ev_var rfl) (evu _ (Ex.refl _)) rv_I0) (by rw [decide_eq_true htu]))) fun z => nomatch z) (by rw [decide_eq_true (show (i : Int) > 0 by omega)]; rfl)) (fun _ H4 x4 => ?_) (fun z => nomatch z)
            exact s_ret ev_c fun H5 x5 => bad (fun ⟨_, c, _⟩ => by have := (c.step u hi0 hu).1; omega) H5 (x2.trans (x3.trans (x4.trans x5)))
          · by_cases hled : Led R u t
            · have evl : Ev (tCall spLed [] E0 (tCons (tVar 0) (tCons (tOp (rIxL K) (tVar 1) (tOp (rI0 fun i j => .int (i - j)) (tVar 2) (tC (.int 1)))) (tCons (tVar 3) tNil)))) [some (.ref p), some (.ref q), some (.int (i : Nat)), some (.int t)] H3 (.bl true) := ev_call (ea_cons (ev_var rfl) (ea_cons (evu _ (Ex.refl _)) (ea_cons (ev_var rfl) ea_nil))) fun H4 e Q' q' E' => ⟨p, u.toNat, t.toNat, R, by rw [show ((u.toNat : Nat) : Int) = u by have := oku.low; omega, show ((t.toNat : Nat) : Int) = t by omega]; rfl, hR3.ex e, by have := oku.high; have := oku.low; omega, by have := oku.low; omega, hR1, hr1' _ (by have := oku.high; have := oku.low; omega), fun b H5 hb5 x5 => by rw [hb5.mpr hled]; exact q' H5 x5⟩
              refine s_when (b := true) (et_is (et_and (et_test (ev_op (ev_var rfl) ev_c rv_I0)) fun _ => et_or (et_test (b := false) (ev_is (ev_op (ev_var rfl) (evu _ (Ex.refl _)) rv_I0) (by rw [decide_eq_false htu]))) fun _ => et_B evl) (by rw [decide_eq_true (show (i : Int) > 0 by omega)]; rfl)) (fun _ H4 x4 => ?_) (fun z => nomatch z)
              exact s_ret ev_c fun H5 x5 => bad (fun ⟨_, c, _⟩ => (c.step u hi0 hu).2 hled) H5 (x2.trans (x3.trans (x4.trans x5)))
            · have evl : Ev (tCall spLed [] E0 (tCons (tVar 0) (tCons (tOp (rIxL K) (tVar 1) (tOp (rI0 fun i j => .int (i - j)) (tVar 2) (tC (.int 1)))) (tCons (tVar 3) tNil)))) [some (.ref p), some (.ref q), some (.int (i : Nat)), some (.int t)] H3 (.bl false) := ev_call (ea_cons (ev_var rfl) (ea_cons (evu _ (Ex.refl _)) (ea_cons (ev_var rfl) ea_nil))) fun H4 e Q' q' E' => ⟨p, u.toNat, t.toNat, R, by rw [show ((u.toNat : Nat) : Int) = u by have := oku.low; omega, show ((t.toNat : Nat) : Int) = t by omega]; rfl, hR3.ex e, by have := oku.high; have := oku.low; omega, by have := oku.low; omega, hR1, hr1' _ (by have := oku.high; have := oku.low; omega), fun b H5 hb5 x5 => by
                have : b = false := by
                  cases b with
                  | false => rfl
                  | true => exact absurd (hb5.mp rfl) hled
                rw [this]; exact q' H5 x5⟩
              refine s_when (b := false) (et_is (et_and (et_test (ev_op (ev_var rfl) ev_c rv_I0)) fun _ => et_or (et_test (b := false) (ev_is (ev_op (ev_var rfl) (evu _ (Ex.refl _)) rv_I0) (by rw [decide_eq_false htu]))) fun _ => et_B evl) (by rw [decide_eq_true (show (i : Int) > 0 by omega)]; rfl)) (fun z => nomatch z) (fun _ H4 x4 => put H4 x4 fun u' _ hu' => ?_)
              rw [hu] at hu'
              have e := Option.some.inj hu'
              subst e
              exact ⟨by omega, hled⟩
        · refine s_when (b := false) (et_is (et_and (b := false) (et_test (ev_op (ev_var rfl) ev_c rv_I0)) fun z => absurd (of_decide_eq_true z) (by omega)) (by simp)) (fun z => nomatch z) (fun _ H4 x4 => put H4 x4 fun u h0 _ => absurd h0 hi0)
    · rintro σ' H1 ⟨⟨v2, v3, rfl⟩, x1, hok⟩
      rw [List.length_map] at hok
      exact k true H1 ⟨fun _ j t hj => hok j t (List.getElem?_eq_some_iff.mp hj).1 hj, fun _ => rfl⟩ x1
end
end Mc
namespace Mc
open PySem L2 PySem.Spec PyProof.Rows Evl LamX NdefX Tr
/-! pieces_of, stops_of -/
abbrev lastBd (p1 p2 p3 p4 p5 : Pos) : Expr := .Call (.Name "last_tick" p1) [.Name "rows" p2, .Name "other" p3, .Name "tick" p4] [] p5
def spLastL : List (Option V) → Sp := fun ws vs H Q _ => ∃ (p : Addr) (R : Rws) (m : PySem.Str) (t : Nat), ws = [some (.ref p), some (.int (t : Nat))] ∧ vs = [.str m] ∧ RowsH H p R ∧ t < R.length ∧ ∀ H', Ex H H' → Q (.int (lastT R m t : Nat)) H'
theorem ExtN.mut {H H' : Hp} {q : Addr} {o : HO} (e : ExtN H H') (h : H q = none) : ExtN H (upd H' q o) := fun b u z n => by
  rw [upd_ne (ne_of_none z h)]; exact e b u z n
theorem TabsN.updL {T : List NTab} {H : Hp} {a : Addr} {xs : List V} {o : HO} (t : TabsN T H) (h : H a = some (.lst xs)) : TabsN T (upd H a o) := fun p hp => by
  obtain ⟨ps, h1, h2, h3⟩ := t p hp
  refine ⟨ps, ?_, h2, fun pos cv hc => ?_⟩
  · rw [upd_ne fun e => by rw [e] at h1; rw [h] at h1; cases h1]; exact h1
  · obtain ⟨c, e1, e2⟩ := h3 pos cv hc
    refine ⟨c, e1, ?_⟩
    rw [upd_ne fun e => by rw [e] at e2; unfold CodeO at e2; rw [h] at e2; cases e2]; exact e2
def spPcs (T : List NTab) : Sp := fun vs H Q _ => ∃ (p : Addr) (R : Rws), vs = [.ref p] ∧ RowsH H p R ∧ R.length ≤ 100 ∧ TabsN T H ∧ ∀ (q : Addr) (P : Pcs) (H' : Hp), Gr R 0 P → PcsH H' q P → ExtN H H' → (∀ b, H' b = none → H b = none) → H q = none → TabsN T H' → Q (.ref q) H'
section
variable {P : Program} {w : World} {K : PySem.W.Frag} {mg : PySem.Str → Option Value} {base : Heap}
/-- a def by its body, its code object known -/
theorem fun_okC {x qual : PySem.Str} {st : Stmt} {f c : Addr} {fd : FuncData} {N ps : List PySem.Str} {k : Nat} {sp : Sp} (F : Fun K x qual st f fd) (hc : fd.code = .ref c) (S : FnScope N ps (defScope st)) (len : ∀ vs H Q E, sp vs H Q E → vs.length = ps.length)
    (hbody : ∀ (A : Around) (outer : List Env) (s : Shared) (H : Hp) (vs : List V) (Q : VK) (E : XK), Room k (A.deeper (envOfC qual (defScope st) s.heap.objs.size f (.ref c))) → sp vs H Q E →
      ∃ t, PSs (cxOf CX0 P w K mg base N qual (defScope st) f (.ref c) A outer s H E).nox (defBody st) t ∧ t { nx := fun _ H' => Q .non H', rt := Q } (L2.start N vs) H) : FnOk P w K mg base CX0 (k + 1) f fd ps sp := by
  obtain ⟨oc, od, kV, doc, pm, an, cdv, ct, osl, rfl, lk, hcd⟩ := F.ex
  obtain rfl : cdv = .ref c := hc
  refine fn_of lk hcd S len fun A outer s H vs Q E hr hsp => ?_
  obtain ⟨t, h, q⟩ := hbody A outer s H vs Q E hr hsp
  exact ⟨t, h.nox, q⟩
theorem lok_last {f : Addr} {F : NF} {p1 p2 p3 p4 p5 : Pos} (hz : True) (c_last_tick : Cal P w K mg base 1 "last_tick" ["rows", "mast", "first"] spLast) (hg : F.scope.names.lookup ("last_tick" : PySem.Str) = some NameKind.globalImplicit) (S : NScope ["other", "rows", "tick"] ["other"] ["rows", "tick"] F.scope)
    (hb : ∀ (pm ctv : Value) (us : List Value), us.length = 1 → bindArgs (PySem.W.kla_fn "<lambda>" F.qual F.params (lastBd p1 p2 p3 p4 p5) F.scope F.cl pm (.ref F.c) ctv) ⟨us, []⟩ = pure ((["other"] : List PySem.Str).zip us)) :
    LOk P w K mg base CX0 2 f F (lastBd p1 p2 p3 p4 p5) ["other"] ["rows", "tick"] spLastL := by
  refine lok_of (N := ["other", "rows", "tick"]) S hb (fun ws vs H Q E h => ?_) (fun A outer s H vs ws Q E hr hf hc hl h => ?_)
  · obtain ⟨p, R, m, t, _, rfl, _⟩ := h
    rfl
  · obtain ⟨p, R, m, t, rfl, rfl, hR, ht, q⟩ := h
    have v0 : Vis F.scope "other" := .inl (S.par "other" (by simp))
    have v1 : Vis F.scope "rows" := .inr (.inr (S.frk "rows" (by simp)))
    have v2 : Vis F.scope "tick" := .inr (.inr (S.frk "tick" (by simp)))
    refine ⟨_, pe_cal c_last_tick (hr.mono (by decide)) hg (pa_cons (pe_var (i := 1) rfl v1) (pa_cons (pe_var (i := 0) rfl v0) (pa_cons (pe_var (i := 2) rfl v2) pa_nil))), ?_⟩
    exact ev_last (E := E0) (σ := startF ["other", "rows", "tick"] [.str m] [some (.ref p), some (.int (t : Nat))]) (ea_cons (ev_var rfl) (ea_cons (ev_var rfl) (ea_cons (ev_var rfl) ea_nil))) hR ht H (Ex.refl _) Q q
abbrev nmP : List PySem.Str := ["rows", "pieces", "tick", "mast"]
theorem scPcs : FnScope nmP ["rows"] (defScope sPcs) := ⟨rfl, rfl, rfl, by decide +kernel, rfl, by decide +kernel, by decide +kernel⟩
theorem ok_pcs {f c P' : Addr} {fd : FuncData} (F : Fun K "pieces_of" "pieces_of" sPcs f fd) (hcd : fd.code = .ref c) (TB : TabB base mg c P') (hlen : mg "len" = none) (hmax : mg "max" = none) (c_last_tick : Cal P w K mg base 1 "last_tick" ["rows", "mast", "first"] spLast) :
    FnOk P w K mg base CX0 4 f fd ["rows"] (spPcs [(P', fun _ _ => "pieces_of.<locals>.<lambda>")]) := by
  refine fun_okC F hcd scPcs (fun vs H Q E h => ?_) (fun A outer s H vs Q E hr h => ?_)
  · obtain ⟨p, R, rfl, _⟩ := h
    rfl
  · obtain ⟨p, R, rfl, hR, hR1, hT, k⟩ := h
    refine ⟨_, (pss_cons (ps_set (i := 1) scPcs.nd rfl (Or.inl rfl) (pe_lst pa_nil))
      (pss_cons (ps_set (i := 2) scPcs.nd rfl (Or.inr rfl) pe_int)
      (pss_cons (ps_while PassesOwn.never (pt_cmpR op_lt (pv 2) (pe_callB call_len_seq (by rfl) hlen PySem.boot_len (pa_cons (pv 0) pa_nil)) (nomark _))
        (pss_cons (ps_if (pt_truthK (K := K) rfl (pe_ix ix_list (pv 0) (pv 2) (fun _ _ => rfl)) (by intro _; rfl))
          (pss_cons (ps_set (i := 3) scPcs.nd rfl (Or.inl rfl) (pe_maxL kHi false (fun k => cmp_hi k) (x0 := "other") (fr := ["rows", "tick"]) (js := [0, 2]) (k := 2) (sp := fun _ _ => spLastL) (nm := fun _ _ => "pieces_of.<locals>.<lambda>") (T := [(P', fun _ _ => "pieces_of.<locals>.<lambda>")]) rfl TB rfl (by simp) rfl (fun p hp _ => by rw [List.mem_singleton.mp hp]) rfl (ndef_free (sc := defScope sPcs) (fr := ["rows", "tick"]) (by decide +kernel))
        (fun f c' => lok_last trivial c_last_tick (by rfl) (nscope_by (by kernel_rfl)) (fun pm ctv us hl => match us, hl with | [_], _ => rfl)) (fun ok => Caps.made ok (ndef_free (sc := defScope sPcs) (fr := ["rows", "tick"]) (by decide +kernel)) (ndef_fr (sc := defScope sPcs) (fr := ["rows", "tick"]) (by decide +kernel)) rfl) (hr.mono (by decide)) (by rfl) hmax (pe_ix ix_list (pv 0) (pv 2) (fun _ _ => rfl))))
          (pss_cons (ps_expr (pe_bm PySem.F.plainAttrs_list PySem.F.slot_list_append PySem.F.type_list_append mt_append (pv 1) (pa_cons (pe_tup (pa_cons (pv 3) (pa_cons (pv 2) (pa_cons (pe_cal c_last_tick (hr.mono (by decide)) rfl (pa_cons (pv 0) (pa_cons (pv 3) (pa_cons (pv 2) pa_nil)))) pa_nil)))) pa_nil)))
          (pss_one (ps_set (i := 2) scPcs.nd rfl (Or.inr rfl) (pe_ix ix_tup (pe_ix ix_list (pv 1) (pe_un un_neg pe_int) (fun _ _ => rfl)) pe_int (fun _ _ => rfl))))))
          pss_nil)
        (pss_one (ps_aug (i := 2) scPcs.nd rfl (Or.inr rfl) pe_int ip_add))))
      (pss_one (ps_ret (pv 1)))))), ?_⟩
    refine q_asgL (el_lst ea_nil (by show 0 ≤ 100000; decide)) fun q H1 hq x1 hq1 => ?_
    refine q_asg ev_c fun H2 x2 => ?_
    have T2 := TabsN.ext hT (x1.trans x2)
    refine q_while (fun mm σ' H' => ∃ (t : Nat) (v3 : Option V) (P0 : Pcs), σ' = [some (.ref p), some (.ref q), some (.int (t : Nat)), v3] ∧ ExtN H H' ∧ PcsH H' q P0 ∧ TabsN [(P', fun _ _ => "pieces_of.<locals>.<lambda>")] H' ∧ t ≤ R.length ∧ P0.length ≤ t ∧ (∀ P1, Gr R t P1 → Gr R 0 (P0 ++ P1)) ∧ (∀ b, H' b = none → H b = none) ∧ mm = R.length - t) R.length
      ⟨0, _, [], rfl, ExtN.of (x1.trans x2), ⟨[], x2 _ _ hq1, .nil⟩, T2, Nat.zero_le _, Nat.le_refl _, fun P1 h => h, fun b hb => fresh_back (x1.trans x2) hb, rfl⟩ ?_
    rintro mm σ' H3 ⟨t, v3, P0, rfl, x3, hP3, T3, ht, hP0, hG, hn, rfl⟩
    have hR3 := hR.extN x3
    refine ⟨decide (((t : Nat) : Int) < (R.length : Nat)), et_test (ev_op (ev_var rfl) (ev_lenR hR3 (ev_var rfl)) rv_I0), fun hb H4 x4 => ?_, fun hb H4 x4 => ?_⟩
    · have hb : t < R.length := by have := of_decide_eq_true hb; omega
      have hR4 := hR3.ex x4
      have T4 := TabsN.ext T3 x4
      refine ⟨fun σ2 H2 => ∃ (t' : Nat) (v3 : Option V) (P0 : Pcs), σ2 = [some (.ref p), some (.ref q), some (.int (t' : Nat)), v3] ∧ ExtN H H2 ∧ PcsH H2 q P0 ∧ TabsN [(P', fun _ _ => "pieces_of.<locals>.<lambda>")] H2 ∧ t < t' ∧ t' ≤ R.length ∧ P0.length ≤ t' ∧ (∀ P1, Gr R t' P1 → Gr R 0 (P0 ++ P1)) ∧ (∀ b, H2 b = none → H b = none), fun σ2 H2 ⟨t', v3, P0, e, a1, a2, a3, a4, a5, a6, a7, a8⟩ => ⟨R.length - t', by omega, t', v3, P0, e, a1, a2, a3, a5, a6, a7, a8, rfl⟩, ?_⟩
      obtain ⟨a, ha, hev⟩ := ev_row (K := K) (tp := tVar 0) (ti := tVar 2) (σ := [some (.ref p), some (.ref q), some (.int (t : Nat)), v3]) hR4 hb (ev_var rfl) (ev_var rfl)
      refine q_if (et_row hR4 hb (ev_var rfl) (ev_var rfl)) (fun hne H5 x5 => ?_) fun he H5 x5 => ?_
      · have hne : Tr.at_ R t ≠ [] := fun e => by rw [e] at hne; cases hne
        refine hev H5 x5 _ fun H6 x6 => ⟨TabsN.ext T4 (x5.trans x6), fun fl c' H7 x7 n7 T7 _ _ _ => ?_⟩
        have x47 : ExtN H4 H7 := (ExtN.of (x5.trans x6)).trans x7
        have hR7 := hR4.extN x47
        have ha7 := x47 _ _ ha (fun _ => by simp)
        refine ⟨a, (Tr.at_ R t).map V.str, fun i => (lastT R ((Tr.at_ R t).getD i default) t : Nat), rfl, SqT.of ha7, fun z => hne (List.map_eq_nil_iff.mp z), fun i y hy H8 x8 => ?_, fun i y H8 x8 hy best => ?_⟩
        · rw [List.getElem?_map] at hy
          obtain ⟨m, hm, rfl⟩ := Option.map_eq_some_iff.mp hy
          have em : (Tr.at_ R t).getD i default = m := by rw [List.getD_eq_getElem?_getD, hm]; rfl
          refine ⟨p, R, m, t, rfl, rfl, hR7.ex x8, hb, fun H9 x9 => ⟨x9, ?_⟩⟩
          show V.int _ = V.int ((lastT R ((Tr.at_ R t).getD i default) t : Nat) : Int)
          rw [em]
        · rw [List.getElem?_map] at hy
          obtain ⟨m, hm, rfl⟩ := Option.map_eq_some_iff.mp hy
          have em : (Tr.at_ R t).getD i default = m := by rw [List.getD_eq_getElem?_getD, hm]; rfl
          have hmm := List.mem_of_getElem? hm
          have hi := (List.getElem?_eq_some_iff.mp hm).1
          have most : ∀ m' ∈ Tr.at_ R t, lastT R m' t ≤ lastT R m t := fun m' hm' => by
            obtain ⟨j, hj⟩ := List.mem_iff_getElem?.mp hm'
            have ej : (Tr.at_ R t).getD j default = m' := by rw [List.getD_eq_getElem?_getD, hj]; rfl
            have := best.no j (by rw [List.length_map]; exact (List.getElem?_eq_some_iff.mp hj).1)
            have := of_decide_eq_false (show decide (((lastT R ((Tr.at_ R t).getD j default) t : Nat) : Int) > ((lastT R ((Tr.at_ R t).getD i default) t : Nat) : Int)) = false from this)
            rw [ej, em] at this
            omega
          have isl := lastT_is R m t
          have thr : Thr R m t (lastT R m t) := (lastT_ge isl.le).mp ⟨Nat.le_refl _, hmm⟩
          have nothr : ∀ m', ¬ Thr R m' t (lastT R m t + 1) := fun m' h => by
            have := (lastT_ge (by have := isl.le; omega)).mpr h
            have := most m' this.2
            omega
          have hlt := isl.lt hb
          have hle := isl.le
          generalize lastT R m t = L at thr nothr hlt hle isl
          have hR8 := hR7.ex x8
          have hP8 := ((hP3.ex x4).extN x47).ex x8
          have T8 := TabsN.ext T7 x8
          have x38 : ExtN H3 H8 := (ExtN.of x4).trans (x47.trans (ExtN.of x8))
          obtain ⟨as, hq8, hpr8⟩ := hP8
          dsimp only [gName]
          refine q_appU (xs := as.map V.ref) hq8 (ev_var rfl) (eu_tup (ea_cons (ev_var rfl) (ea_cons (ev_var rfl) (ea_cons (ev_is (ev_last (ea_cons (ev_var rfl) (ea_cons (ev_var rfl) (ea_cons (ev_var rfl) ea_nil))) hR8 hb) (by rw [(lastT_is R m t).uniq isl])) ea_nil))) (by show 3 ≤ 100000; decide)) (by rw [List.length_map, ← Paired.length hpr8]; omega) fun u H9 hu x9 hu9 => ?_
          have nuq : u ≠ q := fun e => by rw [e, hq8] at hu; cases hu
          have hq10 : upd H9 q (.lst (as.map V.ref ++ [V.ref u])) q = some (.lst ((as ++ [u]).map V.ref)) := by rw [upd_same, List.map_append]; rfl
          have hu10 : upd H9 q (.lst (as.map V.ref ++ [V.ref u])) u = some (.tup [.str m, .int (t : Nat), .int (L : Nat)]) := by rw [upd_ne nuq]; exact hu9
          have hpr10 : Paired (fun (x : Pc PySem.Str) a => upd H9 q (.lst (as.map V.ref ++ [V.ref u])) a = some (.tup [.str x.1, .int (x.2.1 : Nat), .int (x.2.2 : Nat)])) (P0 ++ [(m, t, L)]) (as ++ [u]) := prd_snoc (prd_imp (fun x a z => by rw [upd_ne fun e => by rw [e, hq8] at z; cases z]; exact x9 _ _ z) hpr8) hu10
          have T10 := TabsN.updL (o := .lst (as.map V.ref ++ [V.ref u])) (TabsN.ext T8 x9) (x9 _ _ hq8)
          have x10 : ExtN H (upd H9 q (.lst (as.map V.ref ++ [V.ref u]))) := ExtN.mut (x3.trans (x38.trans (ExtN.of x9))) hq
          have n10 : ∀ b, upd H9 q (.lst (as.map V.ref ++ [V.ref u])) b = none → H b = none := fun b hb => hn b (fresh_back x4 (fresh_back (x5.trans x6) (n7 b (fresh_back (x8.trans x9) (upd_none hb)))))
          generalize upd H9 q (.lst (as.map V.ref ++ [V.ref u])) = H10 at hq10 hu10 hpr10 T10 x10 n10 ⊢
          have hla : ((as ++ [u]).map V.ref).length = as.length + 1 := by rw [List.length_map, List.length_append]; rfl
          refine s_asg (ev_op (ev_op (ev_var rfl) (ev_un ev_c ru_neg) (rv_ixL (SqL.of hq10) (v := .ref u) ?_)) ev_c (rv_ixT (SqT.of hu10) (v := .int (L : Nat)) rfl)) fun H11 x11 => ?_
          · unfold atI
            rw [hla]
            have : ixN (as.length + 1) (-1) = some as.length := by
              unfold ixN
              rw [if_neg (by decide)]
              simp
              omega
            rw [this]
            simp
          · refine s_aug rfl ev_c fun H12 x12 => ?_
            refine ⟨L + 1, _, P0 ++ [(m, t, L)], rfl, x10.trans (ExtN.of (x11.trans x12)), (PcsH.ex ⟨_, hq10, hpr10⟩ (x11.trans x12)), TabsN.ext T10 (x11.trans x12), by omega, by omega, by rw [List.length_append]; simp; omega, fun P1 h1 => ?_, fun b hb => n10 b (fresh_back (x11.trans x12) hb)⟩
            rw [List.append_assoc]
            exact hG _ (.cons (Nat.le_refl _) (fun s s1 s2 => by omega) hle thr nothr h1)
      · have he : Tr.at_ R t = [] := List.isEmpty_iff.mp (by simpa using he)
        refine s_aug rfl ev_c fun H6 x6 => ?_
        exact ⟨t + 1, _, P0, rfl, x3.trans (ExtN.of (x4.trans (x5.trans x6))), hP3.ex (x4.trans (x5.trans x6)), TabsN.ext T4 (x5.trans x6), by omega, by omega, by omega, fun P1 h => hG _ (Gr.skip he h), fun b hb => hn b (fresh_back (x4.trans (x5.trans x6)) hb)⟩
    · have hb : t = R.length := by have := of_decide_eq_false hb; omega
      subst hb
      refine s_ret (ev_var rfl) fun H5 x5 => ?_
      have := hG [] (.nil fun s hs => Tr.at_out hs)
      rw [List.append_nil] at this
      exact k q P0 H5 this (hP3.ex (x4.trans x5)) (x3.trans (ExtN.of (x4.trans x5))) (fun b hb => hn b (fresh_back (x4.trans x5) hb)) hq (TabsN.ext T3 (x4.trans x5))
end
end Mc
namespace Mc
open PySem L2 PySem.Spec PyProof.Rows Evl
/-! ### list(d.values()) -/
def tListVals (te : TE) : TE := fun σ H Q => te σ H fun x H1 => ∃ (d : Addr) (kvs : List (L2.Key × V)), x = .ref d ∧ Rd H1 d (.dK kvs) ∧ ∀ p, H1 p = none → Q (.ref p) (upd H1 p (.lst (kvs.map Prod.snd)))
theorem vals_of_kv {kvs : List (L2.Key × V)} {vs : List (L2.Key × Value)} (r : KV kvs vs) : Vals (kvs.map Prod.snd) (vs.map Prod.snd) := by
  induction r with
  | nil => exact .nil
  | cons h _ ih => exact .cons h.2 ih
theorem items_snd {vs : List (L2.Key × Value)} {acc : Array Value} (h : ItemsOf (fun i v => ∃ k, vs[i]? = some (k, v)) acc vs.length) : acc.toList = vs.map Prod.snd := by
  refine List.ext_getElem? fun i => ?_
  rw [List.getElem?_map]
  by_cases hi : i < vs.length
  · have ha : i < acc.size := by rw [h.1]; exact hi
    have e : acc[i]? = some acc[i] := Array.getElem?_eq_getElem ha
    obtain ⟨k, hk⟩ := h.2 i _ e
    rw [hk, Array.getElem?_toList, e]
    rfl
  · rw [List.getElem?_eq_none (l := acc.toList) (by rw [Array.length_toList, h.1]; omega), List.getElem?_eq_none (l := vs) (by omega)]
    rfl
section
variable {X : Cx} {e : Expr} {te : TE} {p apos cpos pos : Pos}
theorem pe_listVals (hc : X.calm = true) (he : PE X e te) (hg : Gl X "list") (hm : X.mg "list" = none) (hbase : attributeBase e "values" X.env (eval e X.env) = eval e X.env := by rfl) (hline : (apos.endLine == cpos.line) = true := by rfl)
    (hs : starEach [.Call (.Attribute e "values" apos) [] [] cpos] X.env = (false, eval (.Call (.Attribute e "values" apos) [] [] cpos) X.env) :: starEach [] X.env := by rfl) :
    PE X (.Call (.Name "list" p) [.Call (.Attribute e "values" apos) [] [] cpos] [] pos) (tListVals te) := ⟨fun pins s σ H Q I hq => by
  refine wpAny_Call_Name_kw (ld_blt I hg hm boot_list (PyProof.Rows.callWith_type1 ?_ hs rfl))
  rw [hs]
  change wpAny _ _ (spliced ((false, eval (.Call (.Attribute e "values" apos) [] [] cpos) X.env) :: backTo pos (starEach [] X.env))) _ _ s
  refine Calls.spliced_cons (wpAny_Call_method (T := "dict") (id := "dict.values") hbase rfl hline F.plainAttrs_dict F.slot_dict_values F.type_dict_values (thn (he.run pins s σ H _ I hq) fun u s1 hv => ?_))
  obtain ⟨x, H1, I1, rx, d, kvs, rfl, hd, q⟩ := hv
  obtain rfl : u = Value.ref d := rx
  obtain ⟨z, lo, vs, rel, dd⟩ := dk_rd I1.hok hd
  obtain ⟨ep, hat⟩ := dd.dictAt
  have I2 : Inv X pins σ H1 { s1 with heap := s1.heap.push { cls := .type "dict_values", data := .fields #[.ref d] } } := I1.kept (t' := s1.toks) fun b ob w => Heap.get?_push_of_some _ w
  refine ⟨dd.typeIs, dd.mapOf.noDict, ?_⟩
  change wpAny _ _ (callWith cpos (.builtin "dict.values") [.ref d] [] []) _ X.xe s1
  refine method_meetsIn F.slot_dict_values F.entry_dict_values rfl (PySem.evalArgs_none ⟨rfl, dd.typeIs, F.args_dict_values_1 _, _, meets_dict_values (mixKind X.prog X.w) d lo, ⟨vs, dd⟩, ?_⟩)
  refine Calls.spliced_nil ?_
  refine PySem.W.kdl_call (PySem.W.kdl_values (knd := mixKind X.prog X.w) (kvs := vs) (ep := ep)) (I1.ok.hd hc) ⟨⟨_, Heap.get?_push_size _ rfl, rfl, rfl⟩, hat.push _⟩ (by rw [← rel.length]; exact z) fun h' tk acc c' hk hD hacc => ?_
  refine ⟨.ref _, upd H1 _ (.lst (kvs.map Prod.snd)), I2.laid (t' := tk) hk (Nat.le_refl _) ⟨by rw [List.length_map]; exact z, acc.toList, c', by rw [items_snd hacc]; exact vals_of_kv rel, by rw [Array.toArray_toList]; exact hD⟩, rfl, q _ (I2.hok.fresh (Nat.le_refl _))⟩⟩
end
section
variable {σ : L2.St} {H : Hp} {te : TE} {d : Addr} {kvs : List (L2.Key × V)}
theorem el_vals (h : Ev te σ H (.ref d)) (hd : Rd H d (.dK kvs)) : EvL (tListVals te) σ H (kvs.map Prod.snd) := fun H1 e Q q =>
  h H1 e _ fun H2 e2 => ⟨d, kvs, rfl, ex_rd (e.trans e2) hd, fun p hp => q p _ (fresh_back e2 hp) (e2.trans (Ex.new hp)) upd_same⟩
end
end Mc
namespace Mc
open PySem L2 PySem.Spec PyProof.Rows Evl LamX NdefX Tr
theorem prd_zip {α β : Type} {F : α → β → Prop} : ∀ {xs : List α} {ys : List β}, Paired F xs ys → ∃ zs : List (α × β), xs = zs.map (·.1) ∧ ys = zs.map (·.2) ∧ ∀ z ∈ zs, F z.1 z.2
  | _, _, .nil => ⟨[], rfl, rfl, fun z hz => nomatch hz⟩
  | _, _, .cons r t => by
    obtain ⟨zs, h1, h2, h3⟩ := prd_zip t
    exact ⟨(_, _) :: zs, by rw [h1]; rfl, by rw [h2]; rfl, fun z hz => (List.mem_cons.mp hz).elim (fun e => e ▸ r) (h3 z)⟩
def spStops (T : List NTab) : Sp := fun vs H Q _ => ∃ (p : Addr) (R : Rws), vs = [.ref p] ∧ RowsH H p R ∧ R.length ≤ 100 ∧ TabsN T H ∧ ∀ (q : Addr) (P : Pcs) (H' : Hp), Gr R 0 P → H' q = some (.lst (P.map fun x => V.int (x.2.1 : Nat))) → ExtN H H' → (∀ b, H' b = none → H b = none) → H q = none → TabsN T H' → Q (.ref q) H'
def spFew : Sp := fun vs H Q _ => ∃ (p : Addr) (R : Rws) (P : Pcs), vs = [.ref p] ∧ RowsH H p R ∧ R.length ≤ 100 ∧ (∀ r ∈ R, r.Nodup ∧ r.length ≤ 100) ∧ Gr R 0 P ∧ ∀ H', Ex H H' → Q (.int (P.length : Nat)) H'
theorem gr_len {α : Type} {R : List (List α)} : ∀ {t : Nat} {P : List (Pc α)}, Gr R t P → P.length + t ≤ max R.length t
  | t, _, .nil _ => by simp; omega
  | t, _, .cons (f := f) (l := l) a b c d e g => by
    have := gr_len g
    have := Tr.at_len (d f (Nat.le_refl _) c)
    have := Tr.at_len (d l c (Nat.le_refl _))
    simp only [List.length_cons]; omega
section
variable {P : Program} {w : World} {K : PySem.W.Frag} {mg : PySem.Str → Option Value} {base : Heap}
theorem scStops : FnScope ["rows", "piece"] ["rows"] (defScope sStops) := ⟨rfl, rfl, rfl, by decide +kernel, rfl, by decide +kernel, by decide +kernel⟩
theorem ok_stops {f : Addr} {fd : FuncData} {T : List NTab} (F : Fun K "stops_of" "stops_of" sStops f fd) (c_pieces_of : Cal P w K mg base 4 "pieces_of" ["rows"] (spPcs T)) : FnOk P w K mg base CX0 5 f fd ["rows"] (spStops T) := by
  refine F.ok scStops (fun vs H Q E h => ?_) (fun cdv A outer s H vs Q E hr h => ?_)
  · obtain ⟨p, R, rfl, _⟩ := h
    rfl
  · obtain ⟨p, R, rfl, hR, hR1, hT, k⟩ := h
    refine ⟨_, (pss_one (ps_ret (pe_lc (own := [("piece", 1)]) (g := gName 1) (tt := tYes) rfl scStops.nd (pi_list (pe_cal c_pieces_of (hr.mono (by decide)) rfl (pa_cons (pv 0) pa_nil))) (blkOk_by (own := [("piece", 1)]) (N := ["rows", "piece"]) (sc := defScope sStops) (by decide +kernel)) (fun _ _ _ _ _ => pg_name (i := 1) scStops.nd rfl (Or.inl rfl)) (fun _ _ _ _ _ => pts_nil) (fun _ _ _ _ _ => (pe_ix (ix_tupK (K := K) rfl) (pv 1) pe_int (fun _ _ => rfl)))))), ?_⟩
    refine ⟨_, rfl, p, R, rfl, hR, hR1, hT, fun q P0 H1 g hP x1 nn1 n1 T1 => ?_⟩
    obtain ⟨as, hq, hpr⟩ := hP
    obtain ⟨zs, e1, e2, hz⟩ := prd_zip hpr
    have hl := gr_len g
    refine ⟨q, rfl, ⟨_, SqL.of hq⟩, fun D hD => lc_m (j := 1) (c := fun z : Pc PySem.Str × Addr => V.ref z.2) (ys := zs) walk_list (fun z => V.int (z.1.2.1 : Nat)) (by rw [List.length_map]) hD (fun H' s => ?_) (sz_of ?_) (fun i z H' k' hzi s hk => ?_) (fun H' s hD' => ?_)⟩
    · have := s _ _ hq
      rw [e2, List.map_map] at this
      exact SqL.of this
    · rw [e1, List.length_map] at hl; simp at hl; omega
    · have h3 := s _ _ (hz z (List.mem_of_getElem? hzi))
      exact (ev_op (ev_var rfl) ev_c (rv_ixT (SqT.of h3) (v := .int (z.1.2.1 : Nat)) rfl)) H' (Ex.refl _) k' hk
    · exact k D P0 H' g (by rw [hD', e1, List.map_map]; rfl) (x1.trans (ExtN.of s)) (fun b hb => nn1 b (fresh_back s hb)) (nn1 _ hD) (TabsN.ext T1 s)
theorem scFew : FnScope ["rows", "best", "many", "row", "late", "mast"] ["rows"] (defScope sFew) := ⟨rfl, rfl, rfl, by decide +kernel, rfl, by decide +kernel, by decide +kernel⟩
theorem ok_few {f : Addr} {fd : FuncData} (F : Fun K "_law_fewest" "_law_fewest" sFew f fd) (hmin : mg "min" = none) (hlist : mg "list" = none) : FnOk P w K mg base CX0 1 f fd ["rows"] spFew := by
  refine F.ok scFew (fun vs H Q E h => ?_) (fun cdv A outer s H vs Q E hr h => ?_)
  · obtain ⟨p, R, P0, rfl, _⟩ := h
    rfl
  · obtain ⟨p, R, P0, rfl, hR, hR1, hr1, g, k⟩ := h
    have hu := hu_of hr
    refine ⟨_, (pss_cons (ps_par (i := 1) (j := 2) rfl scFew.nd rfl rfl (by decide) rfl rfl (pa_cons pe_dnewK (pa_cons pe_int pa_nil)) (by rfl))
      (pss_cons (ps_for PassesOwn.never rfl (pi_list (pv 0)) (pg_name (i := 3) scFew.nd rfl (Or.inl rfl))
        (pss_cons (ps_set (i := 4) scFew.nd rfl (Or.inl rfl) pe_dnewK)
        (pss_cons (ps_for PassesOwn.never rfl (pi_tup (pv 3)) (pg_name (i := 5) scFew.nd rfl (Or.inl rfl))
          (pss_one (ps_dput hu (pv 4) (pv 5) (pe_callB (call_min2 rfl) (by rfl) hmin boot_min (pa_cons (pe_dget2 hu (pv 1) (pv 5) (pe_op op_add (pv 2) pe_int) ⟨rfl, rfl, rfl, rfl⟩) (pa_cons (pe_op op_add (pv 2) pe_int) pa_nil))) rfl)))
        (pss_cons (ps_set (i := 1) scFew.nd rfl (Or.inl rfl) (pv 4))
        (pss_one (ps_set (i := 2) scFew.nd rfl (Or.inl rfl) (pe_ifExp (pt_cmpR (op_neDN hr.units0) (pv 4) pe_dnewK (nomark _)) (pe_callB (cr_min rfl) (by rfl) hmin boot_min (pa_cons (pe_listVals rfl (pv 4) (by rfl) hlist) pa_nil)) (pv 2))))))))
      (pss_one (ps_ret (pv 2))))), ?_⟩
    let vN : Nat → V := fun n => V.int (n : Nat)
    dsimp only [tSeq]
    intro b0 hb0
    refine ⟨_, _, rfl, ?_⟩
    have x1 := Ex.new (o := .dK []) hb0
    have hb1 : upd H b0 (.dK []) b0 = some (.dK (kvT vN [])) := upd_same
    generalize upd H b0 (.dK []) = H1 at x1 hb1 ⊢
    obtain ⟨as, hp1, hpr⟩ := hR.ex x1
    refine s_forL (ev_var rfl) (SqL.of hp1) (fun t σ' H' => ∃ (b : Addr) (c : Nat) (l : List (PySem.Str × Nat)) (v3 v4 v5 : Option V), σ' = [some (.ref p), some (.ref b), some (.int (c : Nat)), v3, v4, v5] ∧ Ex H H' ∧ RowsH H' p R ∧ H' p = some (.lst (as.map V.ref)) ∧ H' b = some (.dK (kvT vN l)) ∧ Dp R P0.length t (getT l) c)
      (fun H2 x2 => ⟨b0, 0, [], _, _, _, rfl, x1.trans x2, hR.ex (x1.trans x2), x2 _ _ hp1, x2 _ _ hb1, dp_start g⟩) (fun i σ' H' _ ⟨_, _, _, _, _, _, _, _, _, h, _⟩ => SqL.of h) ?_ ?_
    · rintro t x σ' H2 hx ⟨b, c, l, v3, v4, v5, rfl, x2, hR2, hp2, hb2, hdp⟩
      have ht : t < R.length := by
        have := (List.getElem?_eq_some_iff.mp hx).1
        rw [List.length_map, ← Paired.length hpr] at this; exact this
      obtain ⟨as2, a, e1, e2, ha⟩ := hR2.at_ ht
      have : (as.map V.ref) = as2.map V.ref := by rw [hp2] at e1; injection e1 with e1; injection e1
      rw [← this, hx] at e2
      obtain rfl := Option.some.inj e2
      have hrt : R[t]'ht = Tr.at_ R t := by unfold Tr.at_; rw [List.getD_eq_getElem?_getD, List.getElem?_eq_getElem ht]; rfl
      obtain ⟨nd, hl100⟩ := hr1 _ (List.getElem_mem ht)
      rw [hrt] at nd hl100
      generalize hrow : Tr.at_ R t = row at ha nd hl100
      dsimp only [gName, tSeq, tAsg]
      intro lt hlt
      have x3 := Ex.new (o := .dK []) hlt
      have hlt3 : upd H2 lt (.dK []) lt = some (.dK (kvT vN [])) := upd_same
      have nbl : b ≠ lt := ne_of_none hb2 hlt
      generalize upd H2 lt (.dK []) = H3 at x3 hlt3 ⊢
      -- the new dict
      let lv : PySem.Str → Nat := fun m => lateV (getT l) c m
      refine s_forT (ev_var rfl) (SqT.of (x3 _ _ ha)) (fun i σ' H' => ∃ v5, σ' = [some (.ref p), some (.ref b), some (.int (c : Nat)), some (.ref a), some (.ref lt), v5] ∧ Ex H2 H' ∧ H' lt = some (.dK (kvT vN ((row.take i).map fun m => (m, lv m)))))
        (fun H4 x4 => ⟨_, rfl, x3.trans x4, x4 _ _ hlt3⟩) (fun i σ' H' _ ⟨_, _, x, _⟩ => SqT.of (x _ _ ha)) ?_ ?_
      · rintro i x σ' H4 hx ⟨v5, rfl, x4, hl4⟩
        rw [List.getElem?_map] at hx
        obtain ⟨m, hm, rfl⟩ := Option.map_eq_some_iff.mp hx
        have hil := (List.getElem?_eq_some_iff.mp hm).1
        have nm : m ∉ keysT ((row.take i).map fun m => (m, lv m)) := fun z => by
          unfold keysT at z
          rw [List.map_map, show ((fun x : PySem.Str × Nat => x.1) ∘ fun m => (m, lv m)) = id from rfl, List.map_id] at z
          obtain ⟨j, hj⟩ := List.mem_iff_getElem?.mp z
          rw [List.getElem?_take] at hj
          split at hj
          · rename_i hji
            have h1 := (List.getElem?_eq_some_iff.mp hj)
            have h2 := (List.getElem?_eq_some_iff.mp hm)
            have := List.pairwise_iff_getElem.mp nd j i h1.1 h2.1 hji
            exact this (by rw [h1.2, h2.2])
          · cases hj
        have value : Ev (tCB (fun xs H Q => ∃ i j, xs = [V.int i, V.int j] ∧ Q (V.int (if j < i then j else i)) H) (tCons (tDGet2 (tVar 1) (tVar 5) (tOp (rI0 fun i j => V.int (i + j)) (tVar 2) (tC (V.int 1)))) (tCons (tOp (rI0 fun i j => V.int (i + j)) (tVar 2) (tC (V.int 1))) tNil)))
            [some (.ref p), some (.ref b), some (.int (c : Nat)), some (.ref a), some (.ref lt), some (.str m)] H4 (.int (lv m : Nat)) := by
          refine ev_cb (ea_cons (ev_is (ev_get2 (f := vN) (l := l) (k := m) (ev_var rfl) (ev_var rfl) (ev_op (ev_var rfl) ev_c rv_I0) (.inl (x4 _ _ hb2))) (w := .int ((((getT l m).getD (c + 1) : Nat) : Int))) ?_) (ea_cons (ev_op (ev_var rfl) ev_c rv_I0) ea_nil)) fun H1 e Q q => ⟨_, _, rfl, ?_⟩
          · cases getT l m with
            | none => show V.int _ = V.int _; simp
            | some v => rfl
          · have : (if (c : Int) + 1 < (((getT l m).getD (c + 1) : Nat) : Int) then (c : Int) + 1 else (((getT l m).getD (c + 1) : Nat) : Int)) = ((lv m : Nat) : Int) := by
              show _ = ((min ((getT l m).getD (c + 1)) (c + 1) : Nat) : Int)
              split <;> omega
            rw [this]
            exact q H1 (Ex.refl _)
        dsimp only [gName, sDPut]
        refine value H4 (Ex.refl _) _ fun H5 x5 => ?_
        refine ⟨_, rfl, _, rfl, lt, _, rfl, DPut.k (k := Sum.inr m) (x5 _ _ hl4) ?_, ?_⟩
        · unfold kvT; rw [List.length_map, List.length_map, List.length_take]
          exact sz_lt (by omega)
        · refine ⟨_, rfl, Ex.mut (x4.trans x5) hlt, ?_⟩
          rw [upd_same, put_new (f := vN) (v := lv m) nm, List.take_add_one, hm, List.map_append]
          rfl
      · rintro σ' H4 ⟨v5, rfl, x4, hl4⟩
        rw [List.length_map, List.take_length] at hl4
        refine q_asg (ev_var rfl) fun H5 x5 => ?_
        have hl5 := x5 _ _ hl4
        have x25 := x4.trans x5
        have gl : ∀ m, getT (row.map fun m => (m, lv m)) m = if m ∈ row then some (lv m) else none := fun m => by
          have nk : (keysT (row.map fun m => (m, lv m))).Nodup := by
            unfold keysT
            rw [List.map_map, show ((fun x : PySem.Str × Nat => x.1) ∘ fun m => (m, lv m)) = id from rfl, List.map_id]; exact nd
          by_cases hm : m ∈ row
          · rw [if_pos hm]
            exact getT_mem nk (List.mem_map.mpr ⟨m, hm, rfl⟩)
          · rw [if_neg hm]
            refine getT_none.mpr fun z => hm ?_
            unfold keysT at z
            rw [List.map_map, show ((fun x : PySem.Str × Nat => x.1) ∘ fun m => (m, lv m)) = id from rfl, List.map_id] at z
            exact z
        have fin : ∀ (c' : Nat) (H6 : Hp), Ex H5 H6 → Dp R P0.length (t + 1) (getT (row.map fun m => (m, lv m))) c' → ∃ (b : Addr) (c : Nat) (l : List (PySem.Str × Nat)) (u3 u4 u5 : Option V), [some (.ref p), some (.ref lt), some (.int (c' : Nat)), some (.ref a), some (.ref lt), v5] = [some (.ref p), some (.ref b), some (.int (c : Nat)), u3, u4, u5] ∧ Ex H H6 ∧ RowsH H6 p R ∧ H6 p = some (.lst (as.map V.ref)) ∧ H6 b = some (.dK (kvT vN l)) ∧ Dp R P0.length (t + 1) (getT l) c := fun c' H6 x6 d => ⟨lt, c', _, _, _, v5, rfl, x2.trans (x25.trans x6), hR2.ex (x25.trans x6), (x25.trans x6) _ _ hp2, x6 _ _ hl5, d⟩
        dsimp only [tAsg, tIf, tTest, tOp]
        refine ⟨_, rfl, ?_⟩
        intro e he
        have nle : lt ≠ e := ne_of_none hl5 he
        have hl6 : upd H5 e (.dK []) lt = some (.dK (kvT vN (row.map fun m => (m, lv m)))) := by rw [upd_ne nle]; exact hl5
        refine ⟨lt, e, _, rfl, rfl, hl6, upd_same, _, rfl, ?_⟩
        have x6 := Ex.new (o := .dK []) he
        generalize upd H5 e (.dK []) = H6 at x6 hl6 ⊢
        by_cases hr0 : row = []
        · subst hr0
          refine itN (by simp [kvT]) ?_
          refine ⟨_, rfl, ?_⟩
          dsimp only [gName]
          obtain ⟨b', c', l', u3, u4, u5, q1, q2⟩ := fin c H6 x6 (hdp.empty hrow)
          exact ⟨b', c', l', u3, u4, u5, q1, q2⟩
        · refine itP (by cases row with | nil => exact absurd rfl hr0 | cons _ _ => rfl) ?_
          dsimp only [tCB, tCons]
          refine (el_vals (ev_var rfl) (.inl hl6) : EvL (tListVals (tVar 4)) [some (.ref p), some (.ref lt), some (.int (c : Nat)), some (.ref a), some (.ref lt), v5] H6 _) H6 (Ex.refl _) _ fun g H7 hg x7 hg7 => ?_
          have ev : (kvT vN (row.map fun m => (m, lv m))).map Prod.snd = (row.map fun m => ((lv m : Nat) : Int)).map V.int := by
            unfold kvT; rw [List.map_map, List.map_map, List.map_map]; rfl
          refine ⟨g, row.map fun m => ((lv m : Nat) : Int), rfl, SqL.of (by rw [hg7, ev]), by rw [List.length_map]; cases row with | nil => exact absurd rfl hr0 | cons _ _ => simp, fun v hv hmin => ?_⟩
          dsimp only [gName]
          obtain ⟨m0, hm0, rfl⟩ := List.mem_map.mp hv
          suffices hs : Dp R P0.length (t + 1) (getT (row.map fun m => (m, lv m))) (lv m0) by
            obtain ⟨b', c', l', u3, u4, u5, q1, q2⟩ := fin (lv m0) H7 (x6.trans x7) hs
            exact ⟨b', c', l', u3, u4, u5, q1, q2⟩
          have full := hdp.full (c' := lv m0) (by rw [hrow]; exact hr0) ⟨m0, by rw [hrow]; exact hm0, rfl⟩ fun m hm => by
            rw [hrow] at hm
            have := hmin _ (List.mem_map.mpr ⟨m, hm, rfl⟩)
            show lv m0 ≤ lv m
            omega
          rw [hrow] at full
          have e : (getT (row.map fun m => (m, lv m))) = fun m => if m ∈ row then some (lateV (getT l) c m) else none := funext gl
          rw [e]
          exact full
    · rintro σ' H2 ⟨b, c, l, v3, v4, v5, rfl, x2, hR2, hp2, hb2, hdp⟩
      rw [List.length_map, ← Paired.length hpr] at hdp
      refine s_ret (ev_var rfl) fun H3 x3 => ?_
      rw [hdp.many]
      exact k H3 (x2.trans x3)
end
end Mc
namespace Mc
open PySem L2 PySem.Spec PyProof.Rows Evl
/-! slices, sums, reversals, sorted copies of sequences, as pure values -/
theorem cut_take (xs : List V) (n : Nat) : cutV xs none (some (n : Nat)) = xs.take n := by
  unfold cutV
  rw [show HT.sIx xs.length 0 none = 0 from rfl, HT.sIx_nat, List.drop_zero, Nat.sub_zero]
  by_cases h : n ≤ xs.length
  · rw [Nat.min_eq_left h]
  · rw [Nat.min_eq_right (by omega), List.take_of_length_le (Nat.le_refl _), List.take_of_length_le (by omega)]
theorem cut_drop (xs : List V) (n : Nat) : cutV xs (some (n : Nat)) none = xs.drop n := by
  unfold cutV
  rw [show HT.sIx xs.length xs.length none = xs.length from rfl, HT.sIx_nat]
  by_cases h : n ≤ xs.length
  · rw [Nat.min_eq_left h]
    exact List.take_of_length_le (by rw [List.length_drop]; exact Nat.le_refl _)
  · rw [Nat.min_eq_right (by omega), Nat.sub_self, List.take_zero, List.drop_eq_nil_of_le (by omega)]
theorem cut_last (xs : List V) : cutV xs none (some (-1)) = xs.dropLast := by
  unfold cutV
  rw [show HT.sIx xs.length 0 none = 0 from rfl, List.drop_zero, Nat.sub_zero, List.dropLast_eq_take]
  have : HT.sIx xs.length xs.length (some (-1)) = xs.length - 1 := by
    show (if (-1 : Int) < 0 then (-1 + (xs.length : Int)).toNat else min (-1 : Int).toNat xs.length) = _
    rw [if_pos (by decide)]; omega
  rw [this]
section
variable {K : PySem.W.Frag} {σ : L2.St} {H : Hp} {ta tb te : TE} {a : Addr} {xs ys : List V} {tl th : TO} {lo hi : Option Int}
theorem el_cat (ha : EvL ta σ H xs) (hb : EvL tb σ H ys) (hz : xs.length + ys.length ≤ 100000) : EvL (tOp rCat ta tb) σ H (xs ++ ys) := fun H1 e Q q =>
  ha H1 e _ fun p H2 hp e2 h2 => hb H2 (e.trans e2) _ fun r H3 hr e3 h3 => ⟨p, r, xs, ys, rfl, rfl, e3 _ _ h2, h3, sz_of hz, fun g hg => q g _ (fresh_back (e2.trans e3) hg) ((e2.trans e3).trans (Ex.new hg)) upd_same⟩
/-- the first, the second one a list that stands -/
theorem el_cat1 (ha : Ev ta σ H (.ref a)) (h : H a = some (.lst xs)) (hb : EvL tb σ H ys) (hz : xs.length + ys.length ≤ 100000) : EvL (tOp rCat ta tb) σ H (xs ++ ys) := fun H1 e Q q =>
  ha H1 e _ fun H2 e2 => hb H2 (e.trans e2) _ fun r H3 hr e3 h3 => ⟨a, r, xs, ys, rfl, rfl, ((e.trans e2).trans e3) _ _ h, h3, sz_of hz, fun g hg => q g _ (fresh_back (e2.trans e3) hg) ((e2.trans e3).trans (Ex.new hg)) upd_same⟩
theorem el_cat2 (ha : EvL ta σ H xs) (hb : Ev tb σ H (.ref a)) (h : H a = some (.lst ys)) (hz : xs.length + ys.length ≤ 100000) : EvL (tOp rCat ta tb) σ H (xs ++ ys) := fun H1 e Q q =>
  ha H1 e _ fun p H2 hp e2 h2 => hb H2 (e.trans e2) _ fun H3 e3 => ⟨p, a, xs, ys, rfl, rfl, e3 _ _ h2, ((e.trans e2).trans e3) _ _ h, sz_of hz, fun g hg => q g _ (fresh_back (e2.trans e3) hg) ((e2.trans e3).trans (Ex.new hg)) upd_same⟩
theorem eu_catA (ha : EvU ta σ H xs) (hb : EvU tb σ H ys) (nx : xs ≠ []) (ny : ys ≠ []) (hz : xs.length + ys.length ≤ 100000) : EvU (tOp (rCatA K) ta tb) σ H (xs ++ ys) := fun H1 e Q q =>
  ha H1 e _ fun p H2 hp e2 h2 => hb H2 (e.trans e2) _ fun r H3 hr e3 h3 => ⟨p, r, xs, ys, rfl, rfl, st_of (e3 _ _ h2), st_of h3, sz_of hz, fun z => absurd z nx, fun _ z => absurd z ny, fun _ _ g hg => q g _ (fresh_back (e2.trans e3) hg) ((e2.trans e3).trans (Ex.new hg)) upd_same⟩
theorem eu_slT (h : Ev te σ H (.ref a)) (h1 : EvO tl σ H lo) (h2 : EvO th σ H hi) (hs : SqT K H a xs) (nw : ¬ (HT.sIx xs.length 0 lo = 0 ∧ HT.sIx xs.length xs.length hi = xs.length)) : EvU (tSl (rSlT K) te tl th) σ H (cutV xs lo hi) := fun H1 e _ q =>
  h H1 e _ fun H2 e2 => h1 H2 (e.trans e2) _ fun H3 e3 => h2 H3 ((e.trans e2).trans e3) _ fun H4 e4 => ⟨a, xs, rfl, ex_t (((e.trans e2).trans e3).trans e4) hs, nw, fun p hp => q p _ (fresh_back ((e2.trans e3).trans e4) hp) (((e2.trans e3).trans e4).trans (Ex.new hp)) upd_same⟩
/-- tuple(xs) of a list -/
theorem eu_tupL (h : Ev te σ H (.ref a)) (hs : SqL K H a xs) : EvU (tThen te (kTup K)) σ H xs := fun H1 e _ q =>
  h H1 e _ fun H2 e2 => .inl ⟨a, xs, rfl, ex_l (e.trans e2) hs, fun p hp => q p _ (fresh_back e2 hp) (e2.trans (Ex.new hp)) upd_same⟩
theorem el_revL (h : Ev te σ H (.ref a)) (hs : SqL K H a xs) : EvL (tRevL K te) σ H xs.reverse := fun H1 e _ q =>
  h H1 e _ fun H2 e2 => ⟨a, xs, rfl, ex_l (e.trans e2) hs, fun p hp => q p _ (fresh_back e2 hp) (e2.trans (Ex.new hp)) upd_same⟩
/-- sorted(xs) of a new list of ints -/
theorem el_srtI {ns zs : List Int} (h : EvL te σ H (ns.map V.int)) (hz : ns.length < 64) (pm : zs.Perm ns) (srt : zs.Pairwise (· ≤ ·)) : EvL (tCB (rSorted K) (tCons te tNil)) σ H (zs.map V.int) := fun H1 e Q q =>
  h H1 e _ fun l H2 hl e2 h2 => ⟨l, ns, rfl, sq_of h2, hz, fun ys p pm2 s hp => by
    have : ys = zs := List.Perm.eq_of_pairwise (le := (· ≤ ·)) (fun a b _ _ h k => Int.le_antisymm h k) s srt (pm2.trans pm.symm)
    rw [this]
    exact q p _ (fresh_back e2 hp) (e2.trans (Ex.new hp)) upd_same⟩
theorem mem_sortI (ns : List Int) : ∃ zs : List Int, zs.Perm ns ∧ zs.Pairwise (· ≤ ·) :=
  ⟨ns.mergeSort (fun a b => decide (a ≤ b)), List.mergeSort_perm _ _, (List.pairwise_mergeSort (le := fun a b => decide (a ≤ b)) (fun a b c h1 h2 => by simp at *; omega) (fun a b => by simp; omega) ns).imp fun h => by simpa using h⟩
theorem inV_int {x : Int} {xs : List Int} : inV (.int x) (xs.map V.int) = decide (x ∈ xs) := by
  unfold inV
  induction xs with
  | nil => rfl
  | cons y ys ih =>
    rw [List.map_cons, List.any_cons, ih]
    by_cases e : x = y
    · subst e
      have : eqV (V.int x) (V.int x) = true := by simp [eqV]
      simp [this]
    · have : eqV (V.int y) (V.int x) = false := by
        simp [eqV]
        exact fun z => e z.symm
      simp [this, e]
theorem flat_ints (xs : List Int) : (xs.map V.int).all flatV = true := by
  rw [List.all_map, List.all_eq_true]
  exact fun x _ => rfl
end
end Mc
namespace Mc
open PySem L2 PySem.Spec PyProof.Rows Evl LamX NdefX Tr
abbrev nmW : List PySem.Str := ["script", "draw", "turn", "rows", "last", "tick", "pieces", "stops", "mast", "first", "end", "at", "changed", "spoilt", "wrong", "piece"]
theorem sc_law : FnScope nmW ["script"] (defScope s_law) := ⟨rfl, rfl, rfl, by decide +kernel, rfl, by decide +kernel, by decide +kernel⟩
structure TxL (mg : PySem.Str → Option Value) : Prop where
  len : mg "len" = none
  range : mg "range" = none
  tuple : mg "tuple" = none
  any : mg "any" = none
  all : mg "all" = none
  sorted : mg "sorted" = none
def spLaw (K : PySem.W.Frag) (T : List NTab) : Sp := fun vs H Q _ => ∃ (a : Addr) (ns : List Int), vs = [.ref a] ∧ SqL K H a (ns.map V.int) ∧ ns.length ≤ 63 ∧ TabsN T H ∧ ∀ H', Q (.bl true) H'
def L4 : List PySem.Str := ["a", "b", "c", "d"]
def L5 : List PySem.Str := ["a", "b", "c", "d", "zz"]
theorem TabsN.kpD {T : List NTab} {K : PySem.W.Frag} {M : List Addr} {d a : Addr} {H H' : Hp} (t : TabsN T H) (D : Dr K M d a H) (k : Kp [d] H H') : TabsN T H' := fun p hp => by
  obtain ⟨j, hd⟩ := D.at_
  obtain ⟨ps, h1, h2, h3⟩ := t p hp
  refine ⟨ps, k _ _ h1 fun e => ?_, h2, fun pos cv hc => ?_⟩
  · rw [List.mem_singleton.mp e, hd] at h1; cases h1
  · obtain ⟨c, e1, e2⟩ := h3 pos cv hc
    refine ⟨c, e1, k _ _ e2 fun e => ?_⟩
    rw [List.mem_singleton.mp e, hd] at e2
    unfold CodeO at e2
    cases e2
theorem Dr.extN {K : PySem.W.Frag} {M : List Addr} {d a : Addr} {H H' : Hp} (D : Dr K M d a H) (x : ExtN H H') : Dr K M d a H' := by
  obtain ⟨k0, m, ns, hl, hs⟩ := D
  refine ⟨?_, m, ns, hl, fun H2 k => ?_⟩
  · obtain ⟨j, h⟩ := k0
    exact ⟨j, x _ _ h fun _ => by simp⟩
  · classical
    have s := hs (fun b => if ∃ ps, H b = some (.tbl ps) then H b else H2 b) fun b o z nb => by
      by_cases e : ∃ ps, H b = some (.tbl ps)
      · show (if _ then H b else H2 b) = _
        rw [if_pos e]; exact z
      · show (if _ then H b else H2 b) = _
        rw [if_neg e]
        exact k b o (x _ _ z fun ps hp => e ⟨ps, by rw [z, hp]⟩) nb
    by_cases e : ∃ ps, H a = some (.tbl ps)
    · obtain ⟨ps, e2⟩ := e
      rcases s with (s | ⟨o, s⟩) | s
      · have s : (if (∃ ps, H a = some (.tbl ps)) then H a else H2 a) = _ := s
        rw [if_pos ⟨ps, e2⟩, e2] at s; cases s
      · have s : (if (∃ ps, H a = some (.tbl ps)) then H a else H2 a) = _ := s
        rw [if_pos ⟨ps, e2⟩, e2] at s; cases s
      · exact .inr s
    · rcases s with (s | ⟨o, s⟩) | s
      · have s : (if (∃ ps, H a = some (.tbl ps)) then H a else H2 a) = _ := s
        rw [if_neg e] at s; exact .inl (.inl s)
      · have s : (if (∃ ps, H a = some (.tbl ps)) then H a else H2 a) = _ := s
        rw [if_neg e] at s; exact .inl (.inr ⟨o, s⟩)
      · exact .inr s
section
variable {K : PySem.W.Frag} {σ : L2.St} {H : Hp} {ta : TA} {tp tl : TE} {E : XK} {p q : Addr} {R : Rws} {P : Pcs} {ts : List Int}
theorem ev_cov (h : EvA ta σ H [.ref p, .ref q]) (hR : RowsH H p R) (hP : PcsH H q P) (h1 : R.length ≤ 100) (h2 : P.length ≤ 100) (h3 : ∀ x ∈ P, x.2.1 ≤ 1000 ∧ x.2.2 ≤ 1000) {b : Bool} (hb : b = true ↔ CovOk R P) : Ev (tCall spCov [] E ta) σ H (.bl b) :=
  ev_call h fun H1 e Q k E => ⟨p, q, R, P, rfl, hR.ex e, hP.ex e, h1, h2, h3, fun b' H2 hb' x2 => by
    rw [show b' = b by rw [Bool.eq_iff_iff, hb', hb]]; exact k H2 x2⟩
theorem ev_show (h : EvA ta σ H [.ref p, .ref q]) (hR : RowsH H p R) (hS : SqL K H q (ts.map V.int)) (h1 : R.length ≤ 100) (h2 : ts.length ≤ 1000) (h3 : ∀ r ∈ R, r.length ≤ 100) {b : Bool} (hb : b = true ↔ ShOk R ts) : Ev (tCall (spShow (K0 := K)) [] E ta) σ H (.bl b) :=
  ev_call h fun H1 e Q k E => ⟨p, q, R, ts, rfl, hR.ex e, ex_l e hS, h1, h2, h3, fun b' H2 hb' x2 => by
    rw [show b' = b by rw [Bool.eq_iff_iff, hb', hb]]; exact k H2 x2⟩
theorem ev_showN (hp : Ev tp σ H (.ref p)) (hl : EvL tl σ H (ts.map V.int)) (hR : RowsH H p R) (h1 : R.length ≤ 100) (h2 : ts.length ≤ 1000) (h3 : ∀ r ∈ R, r.length ≤ 100) {b : Bool} (hb : b = true ↔ ShOk R ts) : Ev (tCall (spShow (K0 := K)) [] E (tCons tp (tCons tl tNil))) σ H (.bl b) := fun H1 e Q k =>
  hp H1 e _ fun H2 e2 => hl H2 (e.trans e2) _ fun l H3 _ e3 h3' => ⟨p, l, R, ts, rfl, hR.ex ((e.trans e2).trans e3), SqL.of h3', h1, h2, h3, fun b' H4 hb' x4 => by
    rw [show b' = b by rw [Bool.eq_iff_iff, hb', hb]]; exact k H4 ((e2.trans e3).trans x4)⟩
theorem ev_few (h : EvA ta σ H [.ref p]) (hR : RowsH H p R) (h1 : R.length ≤ 100) (h3 : ∀ r ∈ R, r.Nodup ∧ r.length ≤ 100) (g : Gr R 0 P) : Ev (tCall spFew [] E ta) σ H (.int (P.length : Nat)) :=
  ev_call h fun H1 e Q k E => ⟨p, R, P, rfl, hR.ex e, h1, h3, g, fun H2 x2 => k H2 x2⟩
end
/-- pieces as data -/
def pcD (x : Pc PySem.Str) : PyData := .tuple [.str x.1, .int (x.2.1 : Nat), .int (x.2.2 : Nat)]
theorem pcD_inj {x y : Pc PySem.Str} (h : pcD x = pcD y) : x = y := by
  obtain ⟨a, b, c⟩ := x
  obtain ⟨a', b', c'⟩ := y
  unfold pcD at h
  injection h with h
  injection h with h1 h
  injection h with h2 h
  injection h with h3 h
  injection h1 with h1
  injection h2 with h2
  injection h3 with h3
  have h2 : (b : Int) = (b' : Int) := h2
  have h3 : (c : Int) = (c' : Int) := h3
  rw [show a = a' from h1, show b = b' by omega, show c = c' by omega]
theorem dp_pcs {K : PySem.W.Frag} {H : Hp} {q : Addr} {P : Pcs} (h : PcsH H q P) : Dp K H (.ref q) (.list (P.map pcD)) := by
  obtain ⟨as, h1, h2⟩ := h
  refine .lst (SqL.of h1) ?_
  have : ∀ {P : Pcs} {as : List Addr}, Paired (fun x a => H a = some (.tup [.str x.1, .int (x.2.1 : Nat), .int (x.2.2 : Nat)])) P as → DpAll K H (as.map V.ref) (P.map pcD) := by
    intro P as h
    induction h with
    | nil => exact .nil
    | cons r t ih => exact .cons (.tup (SqT.of r) (.cons (.str _) (.cons (.int _) (.cons (.int _) .nil)))) ih
  exact this h2
theorem sd_pcs {P : Pcs} (h : ∀ x ∈ P, PyData.strOk x.1 = true) : sdD (.list (P.map pcD)) = true := by
  rw [sdD]
  refine sdA_map fun x hx => ?_
  unfold pcD
  rw [sdD, sdA, sdD, h x hx, sdA, sdD, sdA, sdD, sdA]; rfl
theorem dep_pcs (P : Pcs) : (PyData.list (P.map pcD)).depth ≤ 64 := by
  rw [PyData.depth]
  have := depA_map (f := pcD) (xs := P) (n := 1) fun x _ => by unfold pcD; simp [PyData.depth, PyData.depthAll]
  omega
theorem rv_nePcs {K : PySem.W.Frag} {H : Hp} {a b : Addr} {P P' : Pcs} (ha : PcsH H a P) (hb : PcsH H b P') (h1 : ∀ x ∈ P, PyData.strOk x.1 = true) (h2 : ∀ x ∈ P', PyData.strOk x.1 = true) : RV (rNeD K) (.ref a) (.ref b) H (.bl (!decide (P = P'))) :=
  rv_neDD (dp_pcs ha) (dp_pcs hb) (sd_pcs h1) (sd_pcs h2) (dep_pcs _) (dep_pcs _) (by
    rw [decide_eq_true_eq]
    constructor
    · intro h; rw [h]
    · intro h
      injection h with h
      exact (List.map_inj_right fun a b e => pcD_inj e).mp h)
theorem prd_app {α β : Type} {F : α → β → Prop} : ∀ {xs xs' : List α} {ys ys' : List β}, Paired F xs ys → Paired F xs' ys' → Paired F (xs ++ xs') (ys ++ ys')
  | _, _, _, _, .nil, h => h
  | _, _, _, _, .cons r t, h => .cons r (prd_app t h)
theorem prd_take {α β : Type} {F : α → β → Prop} : ∀ {xs : List α} {ys : List β}, Paired F xs ys → ∀ n, Paired F (xs.take n) (ys.take n)
  | _, _, _, 0 => .nil
  | _, _, .nil, _ + 1 => .nil
  | _, _, .cons r t, n + 1 => .cons r (prd_take t n)
theorem prd_drop {α β : Type} {F : α → β → Prop} : ∀ {xs : List α} {ys : List β}, Paired F xs ys → ∀ n, Paired F (xs.drop n) (ys.drop n)
  | _, _, h, 0 => h
  | _, _, .nil, _ + 1 => .nil
  | _, _, .cons r t, n + 1 => prd_drop t n
theorem prd_rev {α β : Type} {F : α → β → Prop} : ∀ {xs : List α} {ys : List β}, Paired F xs ys → Paired F xs.reverse ys.reverse
  | _, _, .nil => .nil
  | _, _, .cons r t => by rw [List.reverse_cons, List.reverse_cons]; exact prd_snoc (prd_rev t) r
theorem prd_dropLast {α β : Type} {F : α → β → Prop} {xs : List α} {ys : List β} (h : Paired F xs ys) : Paired F xs.dropLast ys.dropLast := by
  rw [List.dropLast_eq_take, List.dropLast_eq_take, Paired.length h]
  exact prd_take h _
/-- a slot takes a value that has some property -/
theorem q_asgP {te : TE} {tz : TS} {D : Ends} {σ : L2.St} {H : Hp} {i : Nat} {P : V → Hp → Prop} (h : EvP te σ H P) (k : ∀ v H1, Ex H H1 → P v H1 → tz D (σ.set i (some v)) H1) : tSeq (tAsg te (gName i)) tz D σ H := h H (Ex.refl H) _ k
section
variable {K : PySem.W.Frag} {σ : L2.St} {H : Hp} {tq ti tm : TE} {q : Addr} {P : Pcs}
/-- pieces[:at] + [(mast,) + pieces[at][1:]] + pieces[at + 1:] -/
theorem ev_changed {j f l : Nat} {m m0 : PySem.Str} (hP : PcsH H q P) (hl : P.length ≤ 1000) (hj : P[j]? = some (m0, f, l)) (hq : Ev tq σ H (.ref q)) (hi : Ev ti σ H (.int (j : Nat))) (hm : Ev tm σ H (.str m)) :
    EvP (tOp rCat (tOp rCat (tSl (rSlL K) tq tNoPart (tPart ti)) (tLst (tCons (tOp (rCatA K) (tTup (tCons tm tNil)) (tSl (rSlT K) (tOp (rIxL K) tq ti) (tPart (tC (.int 1))) tNoPart)) tNil))) (tSl (rSlL K) tq (tPart (tOp (rI0 fun i j => .int (i + j)) ti (tC (.int 1)))) tNoPart)) σ H
      (fun v H' => ∃ g, v = .ref g ∧ PcsH H' g (P.take j ++ (m, f, l) :: P.drop (j + 1))) := fun H1 x1 Q k => by
  obtain ⟨as, hqa, hpr⟩ := id hP
  have hjl := (List.getElem?_eq_some_iff.mp hj).1
  have hla := Paired.length hpr
  obtain ⟨ap, eap, hap⟩ := prd_get hpr hj
  refine (el_sl (K := K) hq eo_none (eo_some hi) (SqL.of hqa)) H1 x1 _ fun pA H2 hpA x2 hA => ?_
  rw [cut_take] at hA
  have x12 := x1.trans x2
  refine (eu_catA (K := K) (eu_tup (ea_cons hm ea_nil) (by show 1 ≤ 100000; decide)) (eu_slT (K := K) (xs := [.str m0, .int (f : Nat), .int (l : Nat)]) (a := ap) (ev_op hq hi (rv_ixL (SqL.of hqa) (atI_nat (by rw [List.getElem?_map, eap]; rfl)))) (eo_some ev_c) eo_none (SqT.of hap) (by intro z; have z1 := z.1; revert z1; show ¬ (min 1 3 = 0); decide)) (by simp) (by rw [show (1 : Int) = ((1 : Nat) : Int) from rfl, cut_drop]; simp) (by rw [show (1 : Int) = ((1 : Nat) : Int) from rfl, cut_drop]; simp)) H2 x12 _ fun u H3 hu x3 hu3 => ?_
  rw [show (1 : Int) = ((1 : Nat) : Int) from rfl, cut_drop] at hu3
  have hu3 : H3 u = some (.tup [.str m, .int (f : Nat), .int (l : Nat)]) := hu3
  refine ⟨(by show 1 ≤ sizeLine; decide), fun lB hlB => ?_⟩
  have x4 := Ex.new (o := .lst [V.ref u]) hlB
  have hA4 := x4 _ _ (x3 _ _ hA)
  have h0l : (List.take j (as.map V.ref)).length + 1 ≤ 100000 := by rw [List.length_take, List.length_map]; omega
  refine ⟨pA, lB, _, [V.ref u], rfl, rfl, hA4, upd_same, sz_of h0l, fun gA hgA => ?_⟩
  have hu4 := x4 _ _ hu3
  generalize upd H3 lB (.lst [V.ref u]) = H4 at x4 hA4 hgA hu4 ⊢
  have x5 := Ex.new (o := .lst (List.take j (as.map V.ref) ++ [V.ref u])) hgA
  have hg5 : upd H4 gA (.lst (List.take j (as.map V.ref) ++ [V.ref u])) gA = some (.lst (List.take j (as.map V.ref) ++ [V.ref u])) := upd_same
  have hu5 := x5 _ _ hu4
  generalize upd H4 gA (.lst (List.take j (as.map V.ref) ++ [V.ref u])) = H5 at x5 hg5 hu5 ⊢
  have x15 := (x12.trans x3).trans (x4.trans x5)
  refine (el_sl (K := K) hq (eo_some (ev_op hi ev_c rv_I0)) eo_none (SqL.of hqa)) H5 x15 _ fun pC H6 hpC x6 hC => ?_
  rw [show ((j : Nat) : Int) + 1 = ((j + 1 : Nat) : Int) from rfl, cut_drop] at hC
  refine ⟨gA, pC, _, _, rfl, rfl, x6 _ _ hg5, hC, sz_of ?_, fun g2 hg2 => ?_⟩
  · rw [List.length_append, List.length_take, List.length_drop, List.length_map]; simp; omega
  · have x7 := Ex.new (o := .lst ((List.take j (as.map V.ref) ++ [V.ref u]) ++ List.drop (j + 1) (as.map V.ref))) hg2
    refine k _ _ (x2.trans (x3.trans (x4.trans (x5.trans (x6.trans x7))))) ⟨g2, rfl, as.take j ++ u :: as.drop (j + 1), ?_, ?_⟩
    · rw [upd_same, List.map_append, List.map_take, List.map_cons, List.map_drop, List.append_assoc]; rfl
    · have x17 := x15.trans (x6.trans x7)
      have pr7 := prd_imp (fun x a z => x17 _ _ z) hpr
      exact prd_app (prd_take pr7 j) (.cons (x7 _ _ (x6 _ _ hu5)) (prd_drop pr7 (j + 1)))
end
/-- a for over a new tuple -/
theorem s_forNT {K : PySem.W.Frag} {g : TG} {tu : TS} {D : Ends} {σ : L2.St} {H : Hp} {xs : List V} {tl : TE} (h : EvU tl σ H xs) (Pv : Addr → Nat → L2.St → Hp → Prop) (h0 : ∀ p H1, H p = none → Ex H H1 → H1 p = some (.tup xs) → Pv p 0 σ H1) (hl : ∀ p i σ' H', i ≤ xs.length → Pv p i σ' H' → SqT K H' p xs)
    (hs : ∀ p i x σ' H', xs[i]? = some x → Pv p i σ' H' → g x σ' H' fun σ2 H2 => tu { D with nx := Pv p (i + 1), ct := Pv p (i + 1), bk := D.nx } σ2 H2) (hd : ∀ p σ' H', Pv p xs.length σ' H' → D.nx σ' H') : tFor (iTup K tl) g tu D σ H :=
  h H (Ex.refl H) _ fun p H1 hp e h1 => ⟨p, rfl, ⟨xs, st_of h1⟩, for_tup (Pv p) (h0 p H1 hp e h1) (hl p) (hs p) (hd p)⟩
/-- a for over a new tuple of which something is known -/
theorem q_forPT {K : PySem.W.Frag} {g : TG} {tu tz : TS} {D : Ends} {σ : L2.St} {H : Hp} {tl : TE} {Pr : List V → Hp → Prop} (h : EvP tl σ H fun v H' => ∃ p xs, v = .ref p ∧ H' p = some (.tup xs) ∧ Pr xs H')
    (k : ∀ p xs H1, Ex H H1 → H1 p = some (.tup xs) → Pr xs H1 → ∃ Pv : Nat → L2.St → Hp → Prop, Pv 0 σ H1 ∧ (∀ i σ' H', i ≤ xs.length → Pv i σ' H' → SqT K H' p xs) ∧ (∀ i x σ' H', xs[i]? = some x → Pv i σ' H' → g x σ' H' fun σ2 H2 => tu { D with nx := Pv (i + 1), ct := Pv (i + 1), bk := tz D } σ2 H2) ∧ (∀ σ' H', Pv xs.length σ' H' → tz D σ' H')) : tSeq (tFor (iTup K tl) g tu) tz D σ H :=
  h H (Ex.refl H) _ fun v H1 e ⟨p, xs, ev, h1, hp⟩ => by
    obtain ⟨Pv, a, b, c, d⟩ := k p xs H1 e h1 hp
    exact ⟨p, ev, ⟨xs, st_of h1⟩, for_tup (D := { D with nx := tz D }) Pv a b c d⟩
section
variable {K : PySem.W.Frag} {σ : L2.St} {H : Hp} {tq : TE} {q : Addr} {P : Pcs}
/-- (pieces[1:], pieces[:-1], pieces[::-1], pieces + pieces[:1]) -/
theorem ev_spoilt (hP : PcsH H q P) (hl : P.length ≤ 1000) (hq : Ev tq σ H (.ref q)) :
    EvP (tTup (tCons (tSl (rSlL K) tq (tPart (tC (.int 1))) tNoPart) (tCons (tSl (rSlL K) tq tNoPart (tPart (tUn (rU fun i => .int (-i)) (tC (.int 1))))) (tCons (tRevL K tq) (tCons (tOp rCat tq (tSl (rSlL K) tq tNoPart (tPart (tC (.int 1))))) tNil))))) σ H
      (fun v H' => ∃ p xs, v = .ref p ∧ H' p = some (.tup xs) ∧ Paired (fun (Pi : Pcs) (v : V) => ∃ gg, v = .ref gg ∧ PcsH H' gg Pi) [P.drop 1, P.dropLast, P.reverse, P ++ P.take 1] xs) := fun H1 x1 Q k => by
  obtain ⟨as, hqa, hpr⟩ := id hP
  have hla := Paired.length hpr
  refine (el_sl (K := K) hq (eo_some ev_c) eo_none (SqL.of hqa)) H1 x1 _ fun pA H11 hpA x11 hA => ?_
  refine (el_sl (K := K) hq eo_none (eo_some (ev_un ev_c ru_neg)) (SqL.of hqa)) H11 (x1.trans x11) _ fun pB H12 hpB x12 hB => ?_
  refine (el_revL (K := K) hq (SqL.of hqa)) H12 (x1.trans (x11.trans x12)) _ fun pC H13 hpC x13 hC => ?_
  refine (el_cat1 hq hqa (el_sl (K := K) hq eo_none (eo_some ev_c) (SqL.of hqa)) (by have := cutV_length (as.map V.ref) none (some 1); rw [List.length_map] at this ⊢; omega)) H13 (x1.trans ((x11.trans x12).trans x13)) _ fun pD H14 hpD x14 hD => ?_
  refine ⟨(by show 4 ≤ sizeLine; decide), fun t4 ht4 => ?_⟩
  have x15 := Ex.new (o := .tup [V.ref pA, V.ref pB, V.ref pC, V.ref pD]) ht4
  have x1015 := x11.trans (x12.trans (x13.trans (x14.trans x15)))
  rw [show (1 : Int) = ((1 : Nat) : Int) from rfl, cut_drop] at hA
  rw [cut_last] at hB
  rw [show (1 : Int) = ((1 : Nat) : Int) from rfl, cut_take] at hD
  refine k _ _ x1015 ⟨t4, _, rfl, upd_same, ?_⟩
  have pr15 := prd_imp (fun x a z => x1015 _ _ (x1 _ _ z)) hpr
  refine .cons ⟨pA, rfl, as.drop 1, ?_, prd_drop pr15 1⟩ (.cons ⟨pB, rfl, as.dropLast, ?_, prd_dropLast pr15⟩ (.cons ⟨pC, rfl, as.reverse, ?_, prd_rev pr15⟩ (.cons ⟨pD, rfl, as ++ as.take 1, ?_, prd_app pr15 (prd_take pr15 1)⟩ .nil)))
  · rw [List.map_drop]; exact x15 _ _ (x14 _ _ (x13 _ _ (x12 _ _ hA)))
  · rw [List.map_dropLast]; exact x15 _ _ (x14 _ _ (x13 _ _ hB))
  · rw [List.map_reverse]; exact x15 _ _ (x14 _ _ hC)
  · rw [List.map_append, List.map_take]; exact x15 _ _ hD
end
section
variable {K : PySem.W.Frag} {σ : L2.St} {H : Hp} {tp ti : TE} {p : Addr} {R : Rws}
/-- rows[t] == () -/
theorem et_rowE (h : RowsH H p R) {t : Nat} (ht : t < R.length) (hp : Ev tp σ H (.ref p)) (hi : Ev ti σ H (.int (t : Nat))) (ok : ∀ m ∈ Tr.at_ R t, PyData.strOk m = true) : EvT (tTest (tOp (rEqD K) (tOp (rIxL K) tp ti) (tTup tNil))) σ H (decide (Tr.at_ R t = [])) := by
  obtain ⟨ar, har, hev⟩ := ev_row (K := K) h ht hp hi
  exact et_test (ev_opU hev (eu_tup ea_nil (by show 0 ≤ 100000; decide)) fun p H18 hp x18 => rv_eqST (xs := Tr.at_ R t) (ys := []) (SqT.of (x18 _ _ har)) (SqT.of hp) ok fun x hx => nomatch hx)
theorem et_rowN (h : RowsH H p R) {t : Nat} (ht : t < R.length) (hp : Ev tp σ H (.ref p)) (hi : Ev ti σ H (.int (t : Nat))) (ok : ∀ m ∈ Tr.at_ R t, PyData.strOk m = true) : EvT (tTest (tOp (rNeD K) (tOp (rIxL K) tp ti) (tTup tNil))) σ H (!decide (Tr.at_ R t = [])) := by
  obtain ⟨ar, har, hev⟩ := ev_row (K := K) h ht hp hi
  exact et_test (ev_opU hev (eu_tup ea_nil (by show 0 ≤ 100000; decide)) fun p H18 hp x18 => rv_neST (xs := Tr.at_ R t) (ys := []) (SqT.of (x18 _ _ har)) (SqT.of hp) ok fun x hx => nomatch hx)
/-- xs != [] of ints -/
theorem et_neNilI {tl : TE} {q : Addr} {xs : List Int} (hq : Ev tl σ H (.ref q)) (h : H q = some (.lst (xs.map V.int))) : EvT (tTest (tOp (rNeD K) tl (tLst tNil))) σ H (!decide (xs = [])) :=
  et_test (ev_opL hq (el_lst ea_nil (by show 0 ≤ 100000; decide)) fun p H18 hp x18 => rv_neIL (xs := xs) (ys := []) (SqL.of (x18 _ _ h)) (SqL.of hp))
end
section
variable {P : Program} {w : World} {K : PySem.W.Frag} {mg : PySem.Str → Option Value} {base : Heap}
theorem ok_law {f : Addr} {fd : FuncData} {TT : List NTab} (F : Fun K "law" "law" s_law f fd) (T : TxL mg) (c__law_take : Cal P w K mg base 2 "_law_take" ["draw", "many"] (spTake K)) (c_pieces_of : Cal P w K mg base 4 "pieces_of" ["rows"] (spPcs TT)) (c_stops_of : Cal P w K mg base 5 "stops_of" ["rows"] (spStops TT))
    (c_covers : Cal P w K mg base 2 "covers" ["rows", "pieces"] spCov) (c_shows_many : Cal P w K mg base 3 "shows_many" ["rows", "stops"] (spShow (K0 := K))) (c__law_fewest : Cal P w K mg base 1 "_law_fewest" ["rows"] spFew) : FnOk P w K mg base CX0 6 f fd ["script"] (spLaw K TT) := by
  refine F.ok sc_law (fun vs H Q E h => ?_) (fun cdv A outer s H vs Q E hr h => ?_)
  · obtain ⟨a, ns, rfl, _⟩ := h
    rfl
  · obtain ⟨a, ns, rfl, hS, hlen, hT, k⟩ := h
    have hu := hu_of hr
    refine ⟨_, (pss_cons (ps_set (i := 1) sc_law.nd rfl (Or.inr rfl) (pe_lst (pa_cons (pv 0) (pa_cons pe_int pa_nil))))
      (pss_cons (ps_for PassesOwn.never rfl (pi_range1 (by rfl) T.range (pa_cons pe_int pa_nil)) (pg_name (i := 2) sc_law.nd rfl (Or.inl rfl))
        (pss_cons (ps_asg (pe_tup (pa_cons (pe_lst pa_nil) (pa_cons (pe_lst pa_nil) pa_nil))) (pg_tup rfl (pgs_cons (pg_name (i := 3) sc_law.nd rfl (Or.inr rfl)) (pgs_cons (pg_name (i := 4) sc_law.nd rfl (Or.inr rfl)) pgs_nil))))
        (pss_cons (ps_for PassesOwn.never rfl (pi_range1 (by rfl) T.range (pa_cons (pe_cal c__law_take (hr.mono (by decide)) rfl (pa_cons (pv 1) (pa_cons pe_int pa_nil))) pa_nil)) (pg_name (i := 5) sc_law.nd rfl (Or.inl rfl))
          (pss_cons (ps_set (i := 4) sc_law.nd rfl (Or.inr rfl) (pe_lc (own := [("mast", 8)]) (g := gName 8) rfl sc_law.nd (pi_tup (pe_tup (pa_cons pe_str (pa_cons pe_str (pa_cons pe_str (pa_cons pe_str pa_nil)))))) (blkOk_by (own := [("mast", 8)]) (N := ["script", "draw", "turn", "rows", "last", "tick", "pieces", "stops", "mast", "first", "end", "at", "changed", "spoilt", "wrong", "piece"]) (sc := defScope s_law) (by decide +kernel)) (fun _ _ _ _ _ => pg_name (i := 8) sc_law.nd rfl (Or.inl rfl)) (fun _ _ _ _ _ => pts_one (pt_cmpR op_eq (pe_cmpR op_gt (pe_cal c__law_take (hr.mono (by decide)) rfl (pa_cons (pv 1) (pa_cons pe_int pa_nil))) pe_int (nomark _)) (pe_cmpR (op_inK (K := K) rfl) (pv 8) (pv 4) (by rfl)) (nomark _))) (fun _ _ _ _ _ => (pv 8))))
          (pss_one (ps_expr (pe_bm PySem.F.plainAttrs_list PySem.F.slot_list_append PySem.F.type_list_append mt_append (pv 3) (pa_cons (pe_tupleOf (by rfl) T.tuple (pv 4)) pa_nil))))))
        (pss_cons (ps_par (i := 6) (j := 7) rfl sc_law.nd rfl rfl (by decide) rfl rfl (pa_cons (pe_cal c_pieces_of (hr.mono (by decide)) rfl (pa_cons (pv 3) pa_nil)) (pa_cons (pe_cal c_stops_of (hr.mono (by decide)) rfl (pa_cons (pv 3) pa_nil)) pa_nil)) (by rfl))
        (pss_cons (ps_if (PW.pt (pw_or (pt_not (pt_val (pe_cal c_covers (hr.mono (by decide)) rfl (pa_cons (pv 3) (pa_cons (pv 6) pa_nil))))) (pw_or (pt_cmpR op_ne (pe_callB call_len_seq (by rfl) T.len PySem.boot_len (pa_cons (pv 6) pa_nil)) (pe_cal c__law_fewest (hr.mono (by decide)) rfl (pa_cons (pv 3) pa_nil)) (nomark _)) (pw_or1 (pt_cmpR (op_neDK (K := K) rfl hr.units) (pv 7) (pe_lc (own := [("piece", 15)]) (g := gName 15) (tt := tYes) rfl sc_law.nd (pi_list (pv 6)) (blkOk_by (own := [("piece", 15)]) (N := ["script", "draw", "turn", "rows", "last", "tick", "pieces", "stops", "mast", "first", "end", "at", "changed", "spoilt", "wrong", "piece"]) (sc := defScope s_law) (by decide +kernel)) (fun _ _ _ _ _ => pg_name (i := 15) sc_law.nd rfl (Or.inl rfl)) (fun _ _ _ _ _ => pts_nil) (fun _ _ _ _ _ => (pe_ix (ix_tupK (K := K) rfl) (pv 15) pe_int (fun _ _ => rfl)))) (nomark _))))))
          (pss_one (ps_ret pe_bl))
          pss_nil)
        (pss_cons (ps_if (pt_not (pt_val (pe_cal c_shows_many (hr.mono (by decide)) rfl (pa_cons (pv 3) (pa_cons (pv 7) pa_nil)))))
          (pss_one (ps_ret pe_bl))
          pss_nil)
        (pss_cons (ps_for PassesOwn.never rfl (pi_list (pv 6)) (pg_tup rfl (pgs_cons (pg_name (i := 8) sc_law.nd rfl (Or.inr rfl)) (pgs_cons (pg_name (i := 9) sc_law.nd rfl (Or.inl rfl)) (pgs_cons (pg_name (i := 10) sc_law.nd rfl (Or.inl rfl)) pgs_nil))))
          (pss_one (ps_if (pt_val (pe_callB (cr_any rfl) (by rfl) T.any boot_any (pa_cons (pe_lc (own := [("at", 11)]) (g := gName 11) (tt := tYes) rfl sc_law.nd (pi_range2 (by rfl) T.range (pa_cons (pv 9) (pa_cons (pe_op op_add (pv 10) pe_int) pa_nil))) (blkOk_by (own := [("at", 11)]) (N := ["script", "draw", "turn", "rows", "last", "tick", "pieces", "stops", "mast", "first", "end", "at", "changed", "spoilt", "wrong", "piece"]) (sc := defScope s_law) (by decide +kernel)) (fun _ _ _ _ _ => pg_name (i := 11) sc_law.nd rfl (Or.inl rfl)) (fun _ _ _ _ _ => pts_nil) (fun _ _ _ _ _ => (pe_cmpR (op_notInK (K := K) rfl) (pv 8) (pe_ix (ix_listK (K := K) rfl) (pv 3) (pv 11) (fun _ _ => rfl)) (by rfl)))) pa_nil)))
            (pss_one (ps_ret pe_bl))
            pss_nil)))
        (pss_cons (ps_for PassesOwn.never rfl (pi_range1 (by rfl) T.range (pa_cons (pe_callB call_len_seq (by rfl) T.len PySem.boot_len (pa_cons (pv 6) pa_nil)) pa_nil)) (pg_name (i := 11) sc_law.nd rfl (Or.inl rfl))
          (pss_one (ps_for PassesOwn.never rfl (pi_tup (pe_tup (pa_cons pe_str (pa_cons pe_str (pa_cons pe_str (pa_cons pe_str (pa_cons pe_str pa_nil))))))) (pg_name (i := 8) sc_law.nd rfl (Or.inr rfl))
            (pss_cons (ps_set (i := 12) sc_law.nd rfl (Or.inl rfl) (pe_op op_cat (pe_op op_cat (pe_slice sl_list (pv 6) po_none (po_some (pv 11))) (pe_lst (pa_cons (pe_op op_catA (pe_tup (pa_cons (pv 8) pa_nil)) (pe_slice sl_tup (pe_ix ix_list (pv 6) (pv 11) (fun _ _ => rfl)) (po_some pe_int) po_none)) pa_nil))) (pe_slice sl_list (pv 6) (po_some (pe_op op_add (pv 11) pe_int)) po_none)))
            (pss_one (ps_if (pt_cmpR op_ne (pe_cal c_covers (hr.mono (by decide)) rfl (pa_cons (pv 3) (pa_cons (pv 12) pa_nil))) (pe_callB (cr_all rfl) (by rfl) T.all boot_all (pa_cons (pe_lc (own := [("tick", 5)]) (g := gName 5) (tt := tYes) rfl sc_law.nd (pi_range2 (by rfl) T.range (pa_cons (pe_ix ix_tup (pe_ix ix_list (pv 6) (pv 11) (fun _ _ => rfl)) pe_int (fun _ _ => rfl)) (pa_cons (pe_op op_add (pe_ix ix_tup (pe_ix ix_list (pv 6) (pv 11) (fun _ _ => rfl)) pe_int (fun _ _ => rfl)) pe_int) pa_nil))) (blkOk_by (own := [("tick", 5)]) (N := ["script", "draw", "turn", "rows", "last", "tick", "pieces", "stops", "mast", "first", "end", "at", "changed", "spoilt", "wrong", "piece"]) (sc := defScope s_law) (by decide +kernel)) (fun _ _ _ _ _ => pg_name (i := 5) sc_law.nd rfl (Or.inl rfl)) (fun _ _ _ _ _ => pts_nil) (fun _ _ _ _ _ => (pe_cmpR (op_inK (K := K) rfl) (pv 8) (pe_ix (ix_listK (K := K) rfl) (pv 3) (pv 5) (fun _ _ => rfl)) (by rfl)))) pa_nil)) (nomark _))
              (pss_one (ps_ret pe_bl))
              pss_nil))))))
        (pss_cons (ps_for PassesOwn.never rfl (pi_tup (pe_tup (pa_cons (pe_slice sl_list (pv 6) (po_some pe_int) po_none) (pa_cons (pe_slice sl_list (pv 6) po_none (po_some (pe_un un_neg pe_int))) (pa_cons (pe_revL (pv 6)) (pa_cons (pe_op op_cat (pv 6) (pe_slice sl_list (pv 6) po_none (po_some pe_int))) pa_nil)))))) (pg_name (i := 13) sc_law.nd rfl (Or.inl rfl))
          (pss_one (ps_if (PW.pt (pw_and (pt_cmpR (op_neDK (K := K) rfl hr.units) (pv 13) (pv 6) (nomark _)) (pw_and1 (pt_val (pe_cal c_covers (hr.mono (by decide)) rfl (pa_cons (pv 3) (pa_cons (pv 13) pa_nil)))))))
            (pss_one (ps_ret pe_bl))
            pss_nil)))
        (pss_cons (ps_setLc (i := 14) (own := [("at", 11)]) (g := gName 11) rfl sc_law.nd rfl rfl (sw_true rfl rfl rfl (by decide +kernel)) (pi_range1 (by rfl) T.range (pa_cons (pe_callB call_len_seq (by rfl) T.len PySem.boot_len (pa_cons (pv 3) pa_nil)) pa_nil)) (blkOk_by (own := [("at", 11)]) (N := ["script", "draw", "turn", "rows", "last", "tick", "pieces", "stops", "mast", "first", "end", "at", "changed", "spoilt", "wrong", "piece"]) (sc := defScope s_law) (by decide +kernel)) (fun _ _ _ _ _ => pg_name (i := 11) sc_law.nd rfl (Or.inl rfl)) (fun _ _ _ _ _ => pts_one (pt_cmpR (op_eqDK (K := K) rfl hr.units) (pe_ix (ix_listK (K := K) rfl) (pv 3) (pv 11) (fun _ _ => rfl)) (pe_tup pa_nil) (nomark _))) (fun _ _ _ _ _ => (pv 11)))
        (pss_cons (ps_if (PW.pt (pw_and (pt_cmpR (op_neDK (K := K) rfl hr.units) (pv 14) (pe_lst pa_nil) (nomark _)) (pw_and1 (pt_val (pe_cal c_shows_many (hr.mono (by decide)) rfl (pa_cons (pv 3) (pa_cons (pe_callB cr_sorted (by rfl) T.sorted boot_sorted (pa_cons (pe_op op_cat (pv 7) (pe_slice sl_list (pv 14) po_none (po_some pe_int))) pa_nil)) pa_nil)))))))
          (pss_one (ps_ret pe_bl))
          pss_nil)
        (pss_cons (ps_if (PW.pt (pw_or (pt_val (pe_cal c_shows_many (hr.mono (by decide)) rfl (pa_cons (pv 3) (pa_cons (pe_op op_cat (pv 7) (pe_lst (pa_cons (pe_callB call_len_seq (by rfl) T.len PySem.boot_len (pa_cons (pv 3) pa_nil)) pa_nil))) pa_nil)))) (pw_or (pt_val (pe_cal c_shows_many (hr.mono (by decide)) rfl (pa_cons (pv 3) (pa_cons (pe_op op_cat (pe_lst (pa_cons (pe_un un_neg pe_int) pa_nil)) (pv 7)) pa_nil)))) (pw_or1 (PW.pt (pw_and (pt_cmpR op_gt (pe_callB call_len_seq (by rfl) T.len PySem.boot_len (pa_cons (pv 7) pa_nil)) pe_int (nomark _)) (pw_and1 (pt_val (pe_cal c_shows_many (hr.mono (by decide)) rfl (pa_cons (pv 3) (pa_cons (pe_revL (pv 7)) pa_nil)))))))))))
          (pss_one (ps_ret pe_bl))
          pss_nil)
        (pss_one (ps_for PassesOwn.never rfl (pi_range1 (by rfl) T.range (pa_cons (pe_callB call_len_seq (by rfl) T.len PySem.boot_len (pa_cons (pv 3) pa_nil)) pa_nil)) (pg_name (i := 11) sc_law.nd rfl (Or.inl rfl))
          (pss_one (ps_if (PW.pt (pw_and (pt_cmpR (op_notInK (K := K) rfl) (pv 11) (pv 7) (by rfl)) (pw_and (pt_cmpR (op_neDK (K := K) rfl hr.units) (pe_ix ix_list (pv 3) (pv 11) (fun _ _ => rfl)) (pe_tup pa_nil) (nomark _)) (pw_and1 (pt_val (pe_cal c_shows_many (hr.mono (by decide)) rfl (pa_cons (pv 3) (pa_cons (pe_callB cr_sorted (by rfl) T.sorted boot_sorted (pa_cons (pe_op op_cat (pv 7) (pe_lst (pa_cons (pv 11) pa_nil))) pa_nil)) pa_nil))))))))
            (pss_one (ps_ret pe_bl))
            pss_nil))))))))))))))))
      (pss_one (ps_ret pe_bl)))), ?_⟩
    refine ⟨_, rfl, (by show 2 ≤ sizeLine; decide), fun d hd => ?_⟩
    have D0 := Dr.mk' (j := 0) hS hlen hd
    have T0 := TabsN.ext hT (H' := upd H d (.lst [.ref a, .int 0])) (fun b o z => (Ex.new hd) b o z)
    generalize upd H d (.lst [.ref a, .int 0]) = H0 at D0 T0 ⊢
    clear hS hd hT
    refine ⟨4, rfl, by decide, by decide, for_range (lo := 0) (n := 4) (fun i σ' H' => (∃ v2 v3 v4 v5 v6 v7 v8 v9 v10 v11 v12 v13 v14, σ' = [some (.ref a), some (.ref d), v2, v3, v4, v5, v6, v7, v8, v9, v10, v11, v12, v13, v14, none]) ∧ Dr K [d] d a H' ∧ TabsN TT H') ⟨⟨_, _, _, _, _, _, _, _, _, _, _, _, _, rfl⟩, D0, T0⟩ ?_ ?_⟩
    rotate_left 1
    · rintro σ' H1 ⟨⟨v2, v3, v4, v5, v6, v7, v8, v9, v10, v11, v12, v13, v14, rfl⟩, _⟩
      exact k H1
    rintro i0 σ' H1 hi0 ⟨⟨v2, v3, v4, v5, v6, v7, v8, v9, v10, v11, v12, v13, v14, rfl⟩, D1, T1⟩
    refine ⟨Nat.zero_le _, fun rw hrw => ⟨Nat.zero_le _, fun la0 hla0 => ⟨(by show 2 ≤ sizeLine; decide), fun tp htp => ⟨tp, [.ref rw, .ref la0], rfl, SqT.of upd_same, rfl, _, _, rfl, _, _, rfl, rfl, ?_⟩⟩⟩⟩
    have x2 : Ex H1 (upd (upd (upd H1 rw (.lst [])) la0 (.lst [])) tp (.tup [.ref rw, .ref la0])) := (Ex.new hrw).trans ((Ex.new hla0).trans (Ex.new htp))
    have nrl : rw ≠ la0 := ne_of_none upd_same hla0
    have hrw2 : upd (upd (upd H1 rw (.lst [])) la0 (.lst [])) tp (.tup [.ref rw, .ref la0]) rw = some (.lst (([] : List Addr).map V.ref)) := by
      have e1 : upd (upd H1 rw (.lst [])) la0 (.lst []) rw = some (.lst []) := by rw [upd_ne nrl]; exact upd_same
      rw [upd_ne (ne_of_none e1 htp)]; exact e1
    have hla2 : upd (upd (upd H1 rw (.lst [])) la0 (.lst [])) tp (.tup [.ref rw, .ref la0]) la0 = some (.lst (([] : List PySem.Str).map V.str)) := by
      have e1 : upd (upd H1 rw (.lst [])) la0 (.lst []) la0 = some (.lst []) := upd_same
      rw [upd_ne (ne_of_none e1 htp)]; exact e1
    have nrd : rw ≠ d := fun e => by obtain ⟨j, hj⟩ := D1.at_; rw [← e, hrw] at hj; cases hj
    have nld : la0 ≠ d := fun e => by
      obtain ⟨j, hj⟩ := D1.at_
      have := (Ex.new (o := .lst []) hrw) _ _ hj
      rw [← e, hla0] at this; cases this
    have D2 := (D1.grow hrw).same x2
    have T2 := TabsN.ext T1 x2
    generalize upd (upd (upd H1 rw (.lst [])) la0 (.lst [])) tp (.tup [.ref rw, .ref la0]) = H2 at x2 hrw2 hla2 D2 T2 ⊢
    clear htp
    refine ⟨_, rfl, [rw, d], d, a, 14, rfl, D2, by decide, fun v H3 w0 w14 D3 k3 => ⟨v, rfl, by omega, by omega, ?_⟩⟩
    have T3 := TabsN.kpD T2 D2 k3
    have hrw3 := k3 _ _ hrw2 (by simp [nrd])
    have hla3 := k3 _ _ hla2 (by simp [nld])
    refine for_range (lo := 0) (n := v.toNat) (fun i σ' H' => ∃ (la : Addr) (l : List PySem.Str) (as : List Addr) (R : Rws) (u5 : Option V), σ' = [some (.ref a), some (.ref d), some (.int (0 + (i0 : Int))), some (.ref rw), some (.ref la), u5, v6, v7, v8, v9, v10, v11, v12, v13, v14, none] ∧ Dr K [rw, d] d a H' ∧ TabsN TT H' ∧ H' rw = some (.lst (as.map V.ref)) ∧ Paired (fun r a => H' a = some (.tup (r.map V.str))) R as ∧ R.length = i ∧ (∀ r ∈ R, r.Sublist L4) ∧ H' la = some (.lst (l.map V.str)) ∧ la ≠ d ∧ la ≠ rw)
      ⟨la0, [], [], [], _, rfl, D3, T3, hrw3, .nil, rfl, fun r hr => (nomatch hr), hla3, nld, nrl.symm⟩ ?_ ?_
    · rintro i σ' H4 hi ⟨la, l, as, R, u5, rfl, D4, T4, hrw4, hpr4, hlR, hsb, hla4, nlad, nlar⟩
      dsimp only [gName, tSeq, tAsg]
      refine ⟨(by show 4 ≤ sizeLine; decide), fun t4 ht4 => ⟨t4, rfl, ⟨_, SqT.of upd_same⟩, fun D hD => ?_⟩⟩
      have x5 := Ex.new (o := .tup [V.str "a", V.str "b", V.str "c", V.str "d"]) ht4
      have ht5 : upd H4 t4 (.tup [V.str "a", V.str "b", V.str "c", V.str "d"]) t4 = some (.tup (L4.map V.str)) := upd_same
      generalize upd H4 t4 (.tup [V.str "a", V.str "b", V.str "c", V.str "d"]) = H5 at x5 ht5 hD ⊢
      have D5 := D4.same x5
      have T5 := TabsN.ext T4 x5
      have hrw5 := x5 _ _ hrw4
      have hla5 := x5 _ _ hla4
      have hpr5 := prd_imp (fun r a z => x5 _ _ z) hpr4
      have nDd : D ≠ d := fun e => by obtain ⟨j, hj⟩ := D5.at_; rw [← e, hD] at hj; cases hj
      have nDr : D ≠ rw := fun e => by rw [← e, hD] at hrw5; cases hrw5
      have ntd : t4 ≠ d := fun e => by obtain ⟨j, hj⟩ := D5.at_; rw [← e, ht5] at hj; cases hj
      refine lc_it (walk_tup (K := K) (a := t4) (xs := L4.map V.str)) (fun i H' => ∃ hs : List PySem.Str, hs.Sublist (L4.take i) ∧ Dr K [D, rw, d] d a H' ∧ Kp [d] H5 H' ∧ H' D = some (.lst (hs.map V.str))) ⟨[], List.Sublist.refl _, (D5.grow hD).new hD, Kp.new hD, upd_same⟩ (fun i H' _ ⟨_, _, _, kk, _⟩ => SqT.of (kk _ _ ht5 (by simp [ntd]))) ?_ ?_
      · rintro j x _ H6 hj ⟨hs, hsub, D6, k6, hd6⟩ ⟨rfl, hx⟩
        rw [List.getElem?_map] at hx
        obtain ⟨m, hm, rfl⟩ := Option.map_eq_some_iff.mp hx
        have tk : L4.take (j + 1) = L4.take j ++ [m] := by rw [List.take_add_one, hm]; rfl
        refine ⟨rfl, _, rfl, [D, rw, d], d, a, 4, rfl, D6, by decide, fun v H7 _ _ D7 k7 => ⟨v, 0, rfl, rfl, ?_⟩⟩
        have hla7 := k7 _ _ (k6 _ _ hla5 (by simp [nlad])) (by simp [nlad])
        have hd7 := k7 _ _ hd6 (by simp [nDd])
        refine (ev_inSL (K := K) (ta := tVar 8) (tb := tVar 4) (σ := (wipe [some (.ref a), some (.ref d), some (.int (0 + (i0 : Int))), some (.ref rw), some (.ref la), some (.int (0 + (i : Int))), v6, v7, v8, v9, v10, v11, v12, v13, v14, none] [8]).set 8 (some (.str m))) (ev_var rfl) (ev_var rfl) (SqL.of hla7)) H7 (Ex.refl _) _ fun H8 x8 => ⟨rfl, _, rfl, ?_⟩
        have D8 := D7.same x8
        have hd8 := x8 _ _ hd7
        have k8 := (k6.trans k7).trans (Kp.same x8)
        refine ite2 (fun _ => ?_) (fun _ => ?_)
        · refine ⟨_, rfl, _, hd8, ?_, hs ++ [m], by rw [tk]; exact hsub.append (List.Sublist.refl _), D8.keep (Kp.at (by simp)) fun o z => by rw [upd_ne nDd.symm]; exact z, fun b o e nb => by rw [upd_ne (ne_of_none e hD)]; exact k8 b o e nb, by rw [upd_same, List.map_append]; rfl⟩
          rw [List.length_map]
          have := hsub.length_le
          rw [List.length_take] at this
          exact sz_lt (by have : L4.length = 4 := rfl; omega)
        · exact ⟨hs, by rw [tk]; exact hsub.trans (List.sublist_append_left _ _), D8, k8, hd8⟩
      · rintro H6 ⟨hs, hsub, D6, k6, hd6⟩
        rw [List.length_map, List.take_length] at hsub
        have T6 := TabsN.kpD T5 D5 k6
        have hrw6 := k6 _ _ hrw5 (by simp [nrd])
        have hpr6 := prd_imp (fun r a z => k6 _ _ z (by
          intro e
          rw [List.mem_singleton.mp e] at z
          obtain ⟨j, hj⟩ := D5.at_
          rw [hj] at z; cases z)) hpr5
        refine s_appU (xs := as.map V.ref) hrw6 (ev_var rfl) (eu_tupL (ev_var rfl) (SqL.of hd6)) (by rw [List.length_map, ← Paired.length hpr6]; omega) fun u H7 hu x7 hu7 => ?_
        have nur : u ≠ rw := fun e => by rw [e, hrw6] at hu; cases hu
        have hd7 := x7 _ _ hd6
        refine ⟨D, hs, as ++ [u], R ++ [hs], _, rfl, ?_, TabsN.updL (TabsN.ext T6 x7) (x7 _ _ hrw6), by rw [upd_same, List.map_append]; rfl, prd_snoc (prd_imp (fun r b z => by rw [upd_ne fun e => by rw [e, hrw6] at z; cases z]; exact x7 _ _ z) hpr6) (by rw [upd_ne nur]; exact hu7), by rw [List.length_append, hlR]; rfl, fun r hr => ?_, by rw [upd_ne nDr]; exact hd7, nDd, nDr⟩
        · exact ((D6.same x7).keep (Kp.at (by simp)) fun o z => by rw [upd_ne nrd.symm]; exact z).sub (N := [rw, d]) (fun b hb => List.mem_cons_of_mem _ hb) (by simp)
        · rcases List.mem_append.mp hr with hr | hr
          · exact hsb r hr
          · rw [List.mem_singleton.mp hr]; exact hsub
    · rintro σ' H4 ⟨la, l, as, R, u5, rfl, D4, T4, hrw4, hpr4, hlR, hsb, hla4, nlad, nlar⟩
      have hR4 : RowsH H4 rw R := ⟨as, hrw4, hpr4⟩
      have hR13 : R.length ≤ 13 := by omega
      have D4 := D4.sub (N := [d]) (fun b hb => List.mem_cons_of_mem _ hb) (by simp)
      refine ⟨_, rfl, rw, R, rfl, hR4, by omega, T4, fun q P0 H5 g hP5 x5 n5 nq T5 => ⟨_, rfl, rw, R, rfl, hR4.extN x5, by omega, T5, fun st P2 H6 g2 hst x6 n6 ns T6 => ⟨_, _, rfl, ?_⟩⟩⟩
      have hR6 := (hR4.extN x5).extN x6
      have hP6 := hP5.extN x6
      have D6 := (D4.extN x5).extN x6
      clear hR4 hP5 hpr4 hrw4 hla4 x5 n5 nq n6 ns T4 T5 D3 T3 D2 T2 hrw3 hla3 hrw2 hla2 k3 x2
      -- what is known of the pieces
      generalize hS : (P0.map fun x => (x.2.1 : Int)) = S
      have est : H6 st = some (.lst (S.map V.int)) := by
        rw [hst, ← hS, List.map_map]
        have := congrArg (fun L => L.map fun y : Nat × Nat => V.int (y.1 : Nat)) (g2.uniq g)
        simp only [List.map_map] at this
        exact congrArg (fun l => some (HO.lst l)) this
      have hPl : P0.length ≤ 13 := by have := gr_len g; simp at this; omega
      have hSl : S.length = P0.length := by rw [← hS, List.length_map]
      have hb : ∀ x ∈ P0, x.2.1 ≤ 1000 ∧ x.2.2 ≤ 1000 := fun x hx => by obtain ⟨_, h1, h2, _⟩ := g.ok x hx; omega
      have hr1 : ∀ r ∈ R, r.Nodup ∧ r.length ≤ 100 := fun r hr => ⟨(hsb r hr).nodup (by decide), by have := (hsb r hr).length_le; have e : L4.length = 4 := rfl; omega⟩
      have hr2 : ∀ r ∈ R, r.length ≤ 100 := fun r hr => (hr1 r hr).2
      have atL : ∀ t, ∀ m ∈ Tr.at_ R t, m ∈ L4 := fun t m hm => by
        have ht := Tr.at_len hm
        have e : Tr.at_ R t = R[t] := by unfold Tr.at_; rw [List.getD_eq_getElem?_getD, List.getElem?_eq_getElem ht]; rfl
        rw [e] at hm
        exact (hsb _ (List.getElem_mem ht)).subset hm
      have lay4 : ∀ m ∈ L4, PyData.strOk m = true := by decide +kernel
      have lay : ∀ x ∈ P0, PyData.strOk x.1 = true := fun x hx => by
        obtain ⟨_, h1, h2, h3, _⟩ := g.ok x hx
        exact lay4 _ (atL _ _ (h3 _ (Nat.le_refl _) h1))
      have atOk : ∀ t, ∀ m ∈ Tr.at_ R t, PyData.strOk m = true := fun t m hm => lay4 m (atL t m hm)
      have lenP : ∀ {H' : Hp} {σ : L2.St} {tp : TE}, PcsH H' q P0 → Ev tp σ H' (.ref q) → Ev (tCB (rLenS K) (tCons tp tNil)) σ H' (.int (P0.length : Nat)) := fun {H' σ tp} h hp => by
        obtain ⟨as, h1, h2⟩ := h
        have := ev_len (K := K) hp (SqL.of h1)
        rwa [List.length_map, ← Paired.length h2] at this
      -- covers, as few as can be, the stops
      refine q_when (b := false) (et_is (et_or (et_not (et_B (b := true) (ev_cov (ea_cons (ev_var rfl) (ea_cons (ev_var rfl) ea_nil)) hR6 hP6 (by omega) (by omega) hb ⟨fun _ => g.covOk, fun _ => rfl⟩))) fun _ => et_or (et_test (b := false) (ev_is (ev_op (lenP hP6 (ev_var rfl)) (ev_few (ea_cons (ev_var rfl) ea_nil) hR6 (by omega) hr1 g) (rv_ne rfl)) (by simp))) fun _ => et_test (b := false) ?_) rfl) (fun z => nomatch z) fun _ H7 x7 => ?_
      · obtain ⟨as6, hq6, hpr6⟩ := hP6
        obtain ⟨zs, ez1, ez2, hz⟩ := prd_zip hpr6
        refine ev_is (ev_opL (ev_var rfl) (el_mI (ys := zs) (c := fun z : Pc PySem.Str × Addr => V.ref z.2) (j := 15) (fun z => V.int (z.1.2.1 : Nat)) (ei_L (ev_var rfl) (SqL.of (show H6 q = some (.lst (zs.map fun z => V.ref z.2)) by rw [hq6, ez2, List.map_map]; rfl))) (by have := congrArg List.length ez1; rw [List.length_map] at this; omega) fun j z hz2 H8 x8 => ?_) fun l H8 hl8 x8 => rv_neIL (xs := S) (ys := S) (SqL.of (x8 _ _ est)) (SqL.of (by rw [hl8, ← hS, ez1, List.map_map, List.map_map]; rfl))) (by simp)
        exact ev_op (ev_var rfl) ev_c (rv_ixT (SqT.of (x8 _ _ (hz z (List.mem_of_getElem? hz2)))) (v := .int (z.1.2.1 : Nat)) rfl)
      have hR7 := hR6.ex x7
      have hP7 := hP6.ex x7
      have est7 := x7 _ _ est
      refine q_when (b := false) (et_is (et_not (et_B (b := true) (ev_show (ts := S) (ea_cons (ev_var rfl) (ea_cons (ev_var rfl) ea_nil)) hR7 (SqL.of est7) (by omega) (by omega) hr2 ⟨fun _ => by rw [← hS]; exact g.shows, fun _ => rfl⟩))) rfl) (fun z => nomatch z) fun _ H8 x8 => ?_
      have x68 := x7.trans x8
      have hP8 := hP7.ex x8
      obtain ⟨as8, hq8, hpr8⟩ := id hP8
      -- each piece's mast is heard all along
      refine q_forL (ev_var rfl) (SqL.of hq8) (fun j σ' H' => (∃ v8 v9 v10, σ' = [some (.ref a), some (.ref d), some (.int (0 + (i0 : Int))), some (.ref rw), some (.ref la), u5, some (.ref q), some (.ref st), v8, v9, v10, v11, v12, v13, v14, none]) ∧ Ex H8 H') (fun H9 x9 => ⟨⟨_, _, _, rfl⟩, x9⟩) (fun j σ' H' _ ⟨_, x⟩ => SqL.of (x _ _ hq8)) ?_ ?_
      · rintro j x σ' H9 hx ⟨⟨v8, v9, v10, rfl⟩, x9⟩
        rw [List.getElem?_map] at hx
        obtain ⟨ap, hap, rfl⟩ := Option.map_eq_some_iff.mp hx
        have hj : j < P0.length := by rw [Paired.length hpr8]; exact (List.getElem?_eq_some_iff.mp hap).1
        obtain ⟨⟨m, f0, l0⟩, hpc⟩ : ∃ y, P0[j]? = some y := ⟨_, List.getElem?_eq_getElem hj⟩
        have hat : H9 ap = some (.tup [.str m, .int (f0 : Nat), .int (l0 : Nat)]) := by
          obtain ⟨a', ea, ha'⟩ := prd_get hpr8 hpc
          rw [hap] at ea
          rw [Option.some.inj ea]; exact x9 _ _ ha'
        obtain ⟨_, o1, o2, o3, _⟩ := g.ok _ (List.mem_of_getElem? hpc)
        have o1 : f0 ≤ l0 := o1
        have o2 : l0 < R.length := o2
        have o3 : Thr R m f0 l0 := o3
        have hR9 := (hR7.ex x8).ex x9
        refine ⟨ap, _, rfl, SqT.of hat, rfl, _, _, rfl, _, _, rfl, _, _, rfl, rfl, ?_⟩
        refine s_when (b := false) (et_B (ev_is (ev_anyM (ys := List.range ((l0 : Int) + 1 - (f0 : Int)).toNat) (p := fun _ => false) (el_mI (c := fun t : Nat => V.int ((f0 : Int) + (t : Nat))) (j := 11) _ (ei_r2 (ea_cons (ev_var rfl) (ea_cons (ev_op (ev_var rfl) ev_c rv_I0) ea_nil)) ⟨by omega, by omega, by omega, by omega⟩) (by rw [List.length_range]; omega) fun i t ht H10 x10 => ?_)) (by simp))) (fun z => nomatch z) (fun _ H10 x10 => ⟨⟨_, _, _, rfl⟩, x9.trans x10⟩)
        have ht' : t < ((l0 : Int) + 1 - (f0 : Int)).toNat := List.mem_range.mp (List.mem_of_getElem? ht)
        have := o3 (f0 + t) (by omega) (by omega)
        exact ev_is (ev_niR (t := f0 + t) (hR9.ex x10) (by omega) (ev_var rfl) (ev_var rfl) (ev_is (ev_var rfl) (by rw [show ((f0 : Int) + (t : Nat)) = ((f0 + t : Nat) : Int) by omega]))) (by simp [this])
      rintro σ' H9 ⟨⟨v8, v9, v10, rfl⟩, x9⟩
      have hR9 := (hR7.ex x8).ex x9
      have hP9 := hP8.ex x9
      have est9 := x9 _ _ (x8 _ _ est7)
      have x69 := x68.trans x9
      clear hq8 hpr8 hP8 hP7 hR7 est7
      -- one mast changed
      refine q_forR1 (n := P0.length) (ea_cons (lenP hP9 (ev_var rfl)) ea_nil) ⟨by omega, by omega⟩ (fun j σ' H' => (∃ v8 v11 v12, σ' = [some (.ref a), some (.ref d), some (.int (0 + (i0 : Int))), some (.ref rw), some (.ref la), u5, some (.ref q), some (.ref st), v8, v9, v10, v11, v12, v13, v14, none]) ∧ Ex H9 H') (fun H10 x10 => ⟨⟨_, _, _, rfl⟩, x10⟩) ?_ ?_
      · rintro j σ' H10 hj ⟨⟨v8, v11, v12, rfl⟩, x10⟩
        have hj : j < P0.length := by omega
        obtain ⟨⟨m0, f0, l0⟩, hpc⟩ : ∃ y, P0[j]? = some y := ⟨_, List.getElem?_eq_getElem hj⟩
        obtain ⟨_, o1, o2, o3, _⟩ := g.ok _ (List.mem_of_getElem? hpc)
        have o1 : f0 ≤ l0 := o1
        have o2 : l0 < R.length := o2
        refine s_forNT (K := K) (xs := L5.map V.str) (eu_tup (ea_cons ev_c (ea_cons ev_c (ea_cons ev_c (ea_cons ev_c (ea_cons ev_c ea_nil))))) (by show 5 ≤ 100000; decide)) (fun t5 i σ' H' => (∃ v8 v12, σ' = [some (.ref a), some (.ref d), some (.int (0 + (i0 : Int))), some (.ref rw), some (.ref la), u5, some (.ref q), some (.ref st), v8, v9, v10, some (.int (j : Nat)), v12, v13, v14, none]) ∧ Ex H10 H' ∧ H' t5 = some (.tup (L5.map V.str))) (fun t5 H11 _ x11 h11 => ⟨⟨_, _, rfl⟩, x11, h11⟩) (fun t5 i σ' H' _ ⟨_, _, x⟩ => SqT.of x) ?_ ?_
        · rintro t5 i x σ' H12 hx ⟨⟨v8, v12, rfl⟩, x12, h12⟩
          rw [List.getElem?_map] at hx
          obtain ⟨m, hm, rfl⟩ := Option.map_eq_some_iff.mp hx
          dsimp only [gName]
          have x912 := x10.trans x12
          have hP12 := hP9.ex x912
          have hR12 := hR9.ex x912
          refine q_asgP (ev_changed (f := f0) (l := l0) (m := m) hP12 (by omega) hpc (ev_var rfl) (ev_var rfl) (ev_var rfl)) fun v H13 x13 ⟨gg, ev, hPg⟩ => ?_
          subst ev
          have hP13 := hP12.ex x13
          have hR13' := hR12.ex x13
          obtain ⟨as13, hq13, hpr13⟩ := id hP13
          obtain ⟨ap, eap, hap⟩ := prd_get hpr13 hpc
          generalize hbb : ((List.range ((l0 : Int) + 1 - (f0 : Int)).toNat).all fun t => decide (m ∈ Tr.at_ R (f0 + t))) = bb
          have hbT : bb = true ↔ Thr R m f0 l0 := by
            rw [← hbb, List.all_eq_true]
            constructor
            · intro h s s1 s2
              have := h (s - f0) (List.mem_range.mpr (by omega))
              rw [show f0 + (s - f0) = s by omega] at this
              exact of_decide_eq_true this
            · intro h t ht
              have := List.mem_range.mp ht
              exact decide_eq_true (h _ (by omega) (by omega))
          have hbC : bb = true ↔ CovOk R (P0.take j ++ (m, f0, l0) :: P0.drop (j + 1)) := by rw [hbT, g.changed hpc]
          have hPgb : ∀ x ∈ P0.take j ++ (m, f0, l0) :: P0.drop (j + 1), x.2.1 ≤ 1000 ∧ x.2.2 ≤ 1000 := fun x hx => by
            rcases List.mem_append.mp hx with hx | hx
            · exact hb x (List.mem_of_mem_take hx)
            · rcases List.mem_cons.mp hx with rfl | hx
              · exact ⟨by show f0 ≤ 1000; omega, by show l0 ≤ 1000; omega⟩
              · exact hb x (List.mem_of_mem_drop hx)
          have evi : ∀ (i : Nat) (n : Int) {σ : L2.St} {H' : Hp}, ([V.str m0, .int (f0 : Nat), .int (l0 : Nat)] : List V)[i]? = some (.int n) → Ex H13 H' → Ev (tVar 6) σ H' (.ref q) → Ev (tVar 11) σ H' (.int (j : Nat)) → Ev (tOp (rIxT K) (tOp (rIxL K) (tVar 6) (tVar 11)) (tC (.int (i : Nat)))) σ H' (.int n) := fun i n {σ H'} hi x h6 h11 => ev_op (ev_op h6 h11 (rv_ixL (SqL.of (x _ _ hq13)) (atI_nat (by rw [List.getElem?_map, eap]; rfl)))) ev_c (rv_ixT (SqT.of (x _ _ hap)) (atI_nat hi))
          refine s_when (b := false) (et_test (ev_is (ev_op (ev_cov (b := bb) (ea_cons (ev_var rfl) (ea_cons (ev_var rfl) ea_nil)) hR13' hPg (by omega) (by rw [List.length_append, List.length_cons, List.length_take, List.length_drop]; omega) hPgb hbC) (y := .bl bb) ?_ (rv_ne rfl)) (by simp))) (fun z => nomatch z) (fun _ H14 x14 => ⟨⟨_, _, rfl⟩, x12.trans (x13.trans x14), x14 _ _ (x13 _ _ h12)⟩)
          rw [← hbb]
          refine ev_allM (el_mI (c := fun t : Nat => V.int ((f0 : Int) + (t : Nat))) (j := 5) _ (ei_r2 (ea_cons (evi 1 _ rfl (Ex.refl _) (ev_var rfl) (ev_var rfl)) (ea_cons (ev_op (evi 2 _ rfl (Ex.refl _) (ev_var rfl) (ev_var rfl)) ev_c rv_I0) ea_nil)) ⟨by omega, by omega, by omega, by omega⟩) (by rw [List.length_range]; omega) fun i t ht H14 x14 => ?_)
          have ht' : t < ((l0 : Int) + 1 - (f0 : Int)).toNat := List.mem_range.mp (List.mem_of_getElem? ht)
          exact ev_inR (t := f0 + t) (hR13'.ex x14) (by omega) (ev_var rfl) (ev_var rfl) (ev_is (ev_var rfl) (by rw [show ((f0 : Int) + (t : Nat)) = ((f0 + t : Nat) : Int) by omega]))
        · rintro t5 σ' H12 ⟨⟨v8, v12, rfl⟩, x12, _⟩
          exact ⟨⟨_, _, _, rfl⟩, x10.trans x12⟩
      rintro σ' H10 ⟨⟨v8, v11, v12, rfl⟩, x10⟩
      have hR10 := hR9.ex x10
      have hP10 := hP9.ex x10
      have est10 := x10 _ _ est9
      obtain ⟨as, hq10, hpr10⟩ := id hP10
      have hlas : as.length = P0.length := (Paired.length hpr10).symm
      -- spoilt ones
      have bad : ∀ Pi ∈ ([P0.drop 1, P0.dropLast, P0.reverse, P0 ++ P0.take 1] : List Pcs), Pi ≠ P0 → ¬ CovOk R Pi := fun Pi hPi hne => by
        have e0 : ∀ {X : Pcs}, X ≠ P0 → (P0 = [] → X = []) → P0 ≠ [] := fun h h2 e => h (by rw [h2 e, e])
        simp only [List.mem_cons, List.not_mem_nil, or_false] at hPi
        rcases hPi with rfl | rfl | rfl | rfl
        · exact g.no_tail (e0 hne fun e => by rw [e]; rfl)
        · exact g.no_last (e0 hne fun e => by rw [e]; rfl)
        · exact g.no_rev hne
        · exact g.no_more (e0 hne fun e => by rw [e]; rfl)
      have subP : ∀ Pi ∈ ([P0.drop 1, P0.dropLast, P0.reverse, P0 ++ P0.take 1] : List Pcs), Pi.length ≤ 100 ∧ ∀ x ∈ Pi, x ∈ P0 := fun Pi hPi => by
        simp only [List.mem_cons, List.not_mem_nil, or_false] at hPi
        rcases hPi with rfl | rfl | rfl | rfl
        · exact ⟨by rw [List.length_drop]; omega, fun x hx => List.mem_of_mem_drop hx⟩
        · exact ⟨by rw [List.length_dropLast]; omega, fun x hx => (List.dropLast_sublist _).subset hx⟩
        · exact ⟨by rw [List.length_reverse]; omega, fun x hx => List.mem_reverse.mp hx⟩
        · exact ⟨by rw [List.length_append, List.length_take]; omega, fun x hx => (List.mem_append.mp hx).elim id List.mem_of_mem_take⟩
      refine q_forPT (K := K) (ev_spoilt hP10 (by omega) (ev_var rfl)) fun t4 xs H15 x1015 h15 prs => ⟨fun i σ' H' => (∃ v13, σ' = [some (.ref a), some (.ref d), some (.int (0 + (i0 : Int))), some (.ref rw), some (.ref la), u5, some (.ref q), some (.ref st), v8, v9, v10, v11, v12, v13, v14, none]) ∧ Ex H15 H', ⟨⟨_, rfl⟩, Ex.refl _⟩, fun i σ' H' _ ⟨_, x⟩ => SqT.of (x _ _ h15), ?_, ?_⟩
      · rintro i x σ' H16 hx ⟨⟨v13, rfl⟩, x16⟩
        have hi : i < 4 := by have := (List.getElem?_eq_some_iff.mp hx).1; rw [← Paired.length prs] at this; simpa using this
        obtain ⟨Pi, hPi⟩ : ∃ Pi, ([P0.drop 1, P0.dropLast, P0.reverse, P0 ++ P0.take 1] : List Pcs)[i]? = some Pi := ⟨_, List.getElem?_eq_getElem (by simpa using hi)⟩
        obtain ⟨v, ev, gg, rfl, hPg⟩ := prd_get prs hPi
        rw [hx] at ev
        have ev := Option.some.inj ev
        subst ev
        have hm := List.mem_of_getElem? hPi
        obtain ⟨s1, s2⟩ := subP Pi hm
        dsimp only [gName]
        refine s_when (b := false) (et_is (et_and (b := false) (et_test (ev_op (ev_var rfl) (ev_var rfl) (rv_nePcs (hPg.ex x16) (hP10.ex (x1015.trans x16)) (fun x hx => lay x (s2 x hx)) lay))) fun hne => et_B (ev_cov (ea_cons (ev_var rfl) (ea_cons (ev_var rfl) ea_nil)) (hR10.ex (x1015.trans x16)) (hPg.ex x16) (by omega) s1 (fun x hx => hb x (s2 x hx)) ⟨fun z => (nomatch z), fun c => absurd c (bad Pi hm (by simpa using hne))⟩)) (by simp)) (fun z => nomatch z) (fun _ H17 x17 => ⟨⟨_, rfl⟩, x16.trans x17⟩)
      rintro σ' H16 ⟨⟨v13, rfl⟩, x16⟩
      have xx := x1015.trans x16
      have hR16 := hR10.ex xx
      have est16 := xx _ _ est10
      have x616 := x69.trans (x10.trans xx)
      clear prs h15 hq10 hpr10
      -- rows that are empty
      generalize hW : ((List.range R.length).filter fun t => decide (Tr.at_ R t = [])) = W
      refine q_asgL (xs := W.map fun t : Nat => V.int (t : Nat)) (by
        rw [← hW]
        refine el_fI (ys := List.range R.length) (c := fun t : Nat => V.int (t : Nat)) (j := 11) (fun t => decide (Tr.at_ R t = [])) (fun t => V.int (t : Nat)) (ei_r1 (n := (R.length : Nat)) (ea_cons (ev_lenR hR16 (ev_var rfl)) ea_nil) (by omega) (by omega)) (by rw [List.length_range]; omega) (fun i t ht H17 x17 => ?_) fun i t ht _ H17 x17 => ev_var rfl
        have ht' : t < R.length := List.mem_range.mp (List.mem_of_getElem? ht)
        exact et_rowE (hR16.ex x17) ht' (ev_var rfl) (ev_var rfl) (atOk t)) fun wl H17 hwl x17 hwl17 => ?_
      have hR17 := hR16.ex x17
      have est17 := x17 _ _ est16
      have eWi : (W.map fun t : Nat => V.int (t : Nat)) = (W.map fun t : Nat => ((t : Nat) : Int)).map V.int := by rw [List.map_map]; rfl
      rw [eWi] at hwl17
      have hWl : W.length ≤ 13 := by rw [← hW]; exact Nat.le_trans (List.length_filter_le _ _) (by rw [List.length_range]; exact hR13)
      have noW : W ≠ [] → ∀ zs : List Int, zs.Perm (S ++ (W.map fun t : Nat => ((t : Nat) : Int)).take 1) → ¬ ShOk R zs := fun hne zs pm => by
        obtain ⟨t0, W', rfl⟩ := List.exists_cons_of_ne_nil hne
        have hm : t0 ∈ t0 :: W' := .head _
        rw [← hW] at hm
        have := of_decide_eq_true (List.mem_filter.mp hm).2
        refine sh_bad (t := ((t0 : Nat) : Int)) (pm.mem_iff.mpr (List.mem_append_right _ (.head _))) (.inr (.inr ?_))
        rw [Int.toNat_natCast]; exact this
      have cutI : ∀ (xs : List Int), cutV (xs.map V.int) none (some 1) = (xs.take 1).map V.int := fun xs => by
        rw [show (1 : Int) = ((1 : Nat) : Int) from rfl, cut_take, List.map_take]
      obtain ⟨zs, pz, sz⟩ := mem_sortI (S ++ (W.map fun t : Nat => ((t : Nat) : Int)).take 1)
      refine q_when (b := false) (et_is (et_and (b := false) (et_neNilI (ev_var rfl) hwl17) fun hne => et_B (ev_showN (ts := zs) (ev_var rfl) (el_srtI (ns := S ++ (W.map fun t : Nat => ((t : Nat) : Int)).take 1) (by
          rw [List.map_append, ← cutI]
          exact el_cat1 (ev_var rfl) est17 (el_sl (K := K) (ev_var rfl) eo_none (eo_some ev_c) (SqL.of hwl17)) (by rw [cutI, List.length_map, List.length_map, List.length_take]; omega)) (by rw [List.length_append, List.length_take]; omega) pz sz) hR17 (by omega) (by rw [pz.length_eq, List.length_append, List.length_take]; omega) hr2 ⟨fun z => (nomatch z), fun c => absurd c (noW (fun e => by rw [e] at hne; simp at hne) zs pz)⟩)) (by simp)) (fun z => nomatch z) fun _ H18 x18 => ?_
      have hR18 := hR17.ex x18
      have est18 := x18 _ _ est17
      have neS : ∀ {t : Int} {zs : List Int}, t ∈ zs → (t < 0 ∨ (R.length : Int) ≤ t) → ((false = true) ↔ ShOk R zs) := fun {t zs} h1 h2 => ⟨fun z => (nomatch z), fun c => absurd c (sh_bad h1 (h2.elim .inl fun z => .inr (.inl z)))⟩
      refine q_when (b := false) (et_is (et_or (et_B (b := false) (ev_showN (ts := S ++ [(R.length : Int)]) (ev_var rfl) (by
          rw [List.map_append]
          exact el_cat1 (ev_var rfl) est18 (el_lst (ea_cons (ev_lenR hR18 (ev_var rfl)) ea_nil) (by show 1 ≤ 100000; decide)) (by rw [List.length_map]; simp; omega)) hR18 (by omega) (by rw [List.length_append]; simp; omega) hr2 (neS (t := R.length) (List.mem_append_right _ (.head _)) (.inr (Int.le_refl _))))) fun _ => et_or (et_B (b := false) (ev_showN (ts := [-1] ++ S) (ev_var rfl) (by
          rw [List.map_append]
          exact el_cat2 (el_lst (ea_cons (ev_un ev_c ru_neg) ea_nil) (by show 1 ≤ 100000; decide)) (ev_var rfl) est18 (by rw [List.length_map]; simp; omega)) hR18 (by omega) (by rw [List.length_append]; simp; omega) hr2 (neS (t := -1) (List.mem_append_left _ (.head _)) (.inl (by decide))))) fun _ => et_and (b := false) (et_test (ev_op (ev_is (ev_len (ev_var rfl) (SqL.of est18)) (by rw [List.length_map])) ev_c rv_I0)) fun h1 => et_B (ev_showN (ts := S.reverse) (ev_var rfl) (by
          rw [List.map_reverse]
          exact el_revL (ev_var rfl) (SqL.of est18)) hR18 (by omega) (by rw [List.length_reverse]; omega) hr2 ⟨fun z => (nomatch z), fun c => absurd c (by
            have h1 : 1 < P0.length := by have := of_decide_eq_true h1; omega
            rw [← hS]; exact g.sh_rev h1)⟩)) (by simp)) (fun z => nomatch z) fun _ H19 x19 => ?_
      have hR19 := hR18.ex x19
      have est19 := x19 _ _ est18
      have x619 := x616.trans (x17.trans (x18.trans x19))
      refine s_forR1 (n := R.length) (ea_cons (ev_lenR hR19 (ev_var rfl)) ea_nil) ⟨by omega, by omega⟩ (fun j σ' H' => (∃ v11, σ' = [some (.ref a), some (.ref d), some (.int (0 + (i0 : Int))), some (.ref rw), some (.ref la), u5, some (.ref q), some (.ref st), v8, v9, v10, v11, v12, v13, some (.ref wl), none]) ∧ Ex H19 H') (fun H20 x20 => ⟨⟨_, rfl⟩, x20⟩) ?_ ?_
      · rintro t σ' H20 ht ⟨⟨v11, rfl⟩, x20⟩
        have ht : t < R.length := by omega
        have hR20 := hR19.ex x20
        have est20 := x20 _ _ est19
        obtain ⟨zs, pz, sz⟩ := mem_sortI (S ++ [(t : Int)])
        refine s_when (b := false) (et_is (et_and (b := false) (et_test (ev_is (ev_op (ev_var rfl) (ev_var rfl) (rv_niL (SqL.of est20) rfl (flat_ints S))) (by rw [inV_int]))) fun hns => et_is (et_and (b := false) (et_rowN hR20 ht (ev_var rfl) (ev_var rfl) (atOk t)) fun hne => et_B (ev_showN (ts := zs) (ev_var rfl) (el_srtI (ns := S ++ [(t : Int)]) (by
            rw [List.map_append]
            exact el_cat1 (ev_var rfl) est20 (el_lst (ea_cons (ev_var rfl) ea_nil) (by show 1 ≤ 100000; decide)) (by rw [List.length_map]; simp; omega)) (by rw [List.length_append]; simp; omega) pz sz) hR20 (by omega) (by rw [pz.length_eq, List.length_append]; simp; omega) hr2 ⟨fun z => (nomatch z), fun c => absurd c (g.sh_more (s := t) (by simpa using hne) (by rw [hS]; simpa using hns) fun x hx => pz.mem_iff.mpr (by
              rw [hS] at hx
              rcases hx with hx | hx
              · exact List.mem_append_left _ hx
              · rw [hx]; exact List.mem_append_right _ (.head _)))⟩)) (by simp)) (by simp)) (fun z => nomatch z) (fun _ H21 x21 => ⟨⟨_, rfl⟩, x20.trans x21⟩)
      · rintro σ' H20 ⟨⟨v11, rfl⟩, x20⟩
        exact ⟨⟨_, _, _, _, _, _, _, _, _, _, _, _, _, rfl⟩, D6.same (x619.trans x20), TabsN.ext T6 (x619.trans x20)⟩
end
end Mc
namespace Mc
open PySem L2 PySem.Spec PyProof.Rows
theorem all_mk {l : PySem.W.OpenLaw} {w : World} {K : PySem.W.Frag} {h : Heap} {mg : PySem.Str → Option Value} {fa : Addr} (X : K.In h) (G : h.Ns mainGlobals mg) (hfa : mg "law" = some (.ref fa))
    {f_is_number : Addr} {od_is_number an_is_number : Option Addr} {sl_is_number : Array (Option Value)} {oc_is_number kV_is_number dc_is_number pm_is_number cd_is_number ct_is_number : Value}
    {f_pieces_of : Addr} {od_pieces_of an_pieces_of : Option Addr} {sl_pieces_of : Array (Option Value)} {oc_pieces_of kV_pieces_of dc_pieces_of pm_pieces_of cd_pieces_of ct_pieces_of : Value}
    {f_last_tick : Addr} {od_last_tick an_last_tick : Option Addr} {sl_last_tick : Array (Option Value)} {oc_last_tick kV_last_tick dc_last_tick pm_last_tick cd_last_tick ct_last_tick : Value}
    {f_covers : Addr} {od_covers an_covers : Option Addr} {sl_covers : Array (Option Value)} {oc_covers kV_covers dc_covers pm_covers cd_covers ct_covers : Value}
    {f_stops_of : Addr} {od_stops_of an_stops_of : Option Addr} {sl_stops_of : Array (Option Value)} {oc_stops_of kV_stops_of dc_stops_of pm_stops_of cd_stops_of ct_stops_of : Value}
    {f_shows_many : Addr} {od_shows_many an_shows_many : Option Addr} {sl_shows_many : Array (Option Value)} {oc_shows_many kV_shows_many dc_shows_many pm_shows_many cd_shows_many ct_shows_many : Value}
    {f_is_led : Addr} {od_is_led an_is_led : Option Addr} {sl_is_led : Array (Option Value)} {oc_is_led kV_is_led dc_is_led pm_is_led cd_is_led ct_is_led : Value}
    {f_law_number : Addr} {od_law_number an_law_number : Option Addr} {sl_law_number : Array (Option Value)} {oc_law_number kV_law_number dc_law_number pm_law_number cd_law_number ct_law_number : Value}
    {f_law_take : Addr} {od_law_take an_law_take : Option Addr} {sl_law_take : Array (Option Value)} {oc_law_take kV_law_take dc_law_take pm_law_take cd_law_take ct_law_take : Value}
    {f_law_fewest : Addr} {od_law_fewest an_law_fewest : Option Addr} {sl_law_fewest : Array (Option Value)} {oc_law_fewest kV_law_fewest dc_law_fewest pm_law_fewest cd_law_fewest ct_law_fewest : Value}
    {f_law : Addr} {od_law an_law : Option Addr} {sl_law : Array (Option Value)} {oc_law kV_law dc_law pm_law cd_law ct_law : Value}
    {tc_pieces_of tp_pieces_of : Addr}
    (a_is_number : PySem.W.nsIn K mainGlobals "is_number" = some (some (.ref f_is_number)))
    (l_is_number : K.lookup f_is_number = some ⟨oc_is_number, od_is_number, .func (PySem.W.fnOf "is_number" "is_number" (defArgs sIsNum) (defBody sIsNum) (defScope sIsNum) .none kV_is_number dc_is_number pm_is_number an_is_number cd_is_number ct_is_number), sl_is_number⟩)
    (c_is_number : PySem.W.codeIn K cd_is_number "is_number" = true)
    (k_is_number : PySem.W.keepIn K (.ref f_is_number) = true)
    (a_pieces_of : PySem.W.nsIn K mainGlobals "pieces_of" = some (some (.ref f_pieces_of)))
    (l_pieces_of : K.lookup f_pieces_of = some ⟨oc_pieces_of, od_pieces_of, .func (PySem.W.fnOf "pieces_of" "pieces_of" (defArgs sPcs) (defBody sPcs) (defScope sPcs) .none kV_pieces_of dc_pieces_of pm_pieces_of an_pieces_of cd_pieces_of ct_pieces_of), sl_pieces_of⟩)
    (c_pieces_of : PySem.W.codeIn K cd_pieces_of "pieces_of" = true)
    (k_pieces_of : PySem.W.keepIn K (.ref f_pieces_of) = true)
    (a_last_tick : PySem.W.nsIn K mainGlobals "last_tick" = some (some (.ref f_last_tick)))
    (l_last_tick : K.lookup f_last_tick = some ⟨oc_last_tick, od_last_tick, .func (PySem.W.fnOf "last_tick" "last_tick" (defArgs sLastT) (defBody sLastT) (defScope sLastT) .none kV_last_tick dc_last_tick pm_last_tick an_last_tick cd_last_tick ct_last_tick), sl_last_tick⟩)
    (c_last_tick : PySem.W.codeIn K cd_last_tick "last_tick" = true)
    (k_last_tick : PySem.W.keepIn K (.ref f_last_tick) = true)
    (a_covers : PySem.W.nsIn K mainGlobals "covers" = some (some (.ref f_covers)))
    (l_covers : K.lookup f_covers = some ⟨oc_covers, od_covers, .func (PySem.W.fnOf "covers" "covers" (defArgs sCov) (defBody sCov) (defScope sCov) .none kV_covers dc_covers pm_covers an_covers cd_covers ct_covers), sl_covers⟩)
    (c_covers : PySem.W.codeIn K cd_covers "covers" = true)
    (k_covers : PySem.W.keepIn K (.ref f_covers) = true)
    (a_stops_of : PySem.W.nsIn K mainGlobals "stops_of" = some (some (.ref f_stops_of)))
    (l_stops_of : K.lookup f_stops_of = some ⟨oc_stops_of, od_stops_of, .func (PySem.W.fnOf "stops_of" "stops_of" (defArgs sStops) (defBody sStops) (defScope sStops) .none kV_stops_of dc_stops_of pm_stops_of an_stops_of cd_stops_of ct_stops_of), sl_stops_of⟩)
    (c_stops_of : PySem.W.codeIn K cd_stops_of "stops_of" = true)
    (k_stops_of : PySem.W.keepIn K (.ref f_stops_of) = true)
    (a_shows_many : PySem.W.nsIn K mainGlobals "shows_many" = some (some (.ref f_shows_many)))
    (l_shows_many : K.lookup f_shows_many = some ⟨oc_shows_many, od_shows_many, .func (PySem.W.fnOf "shows_many" "shows_many" (defArgs sShow) (defBody sShow) (defScope sShow) .none kV_shows_many dc_shows_many pm_shows_many an_shows_many cd_shows_many ct_shows_many), sl_shows_many⟩)
    (c_shows_many : PySem.W.codeIn K cd_shows_many "shows_many" = true)
    (k_shows_many : PySem.W.keepIn K (.ref f_shows_many) = true)
    (a_is_led : PySem.W.nsIn K mainGlobals "is_led" = some (some (.ref f_is_led)))
    (l_is_led : K.lookup f_is_led = some ⟨oc_is_led, od_is_led, .func (PySem.W.fnOf "is_led" "is_led" (defArgs sLed) (defBody sLed) (defScope sLed) .none kV_is_led dc_is_led pm_is_led an_is_led cd_is_led ct_is_led), sl_is_led⟩)
    (c_is_led : PySem.W.codeIn K cd_is_led "is_led" = true)
    (k_is_led : PySem.W.keepIn K (.ref f_is_led) = true)
    (a_law_number : PySem.W.nsIn K mainGlobals "_law_number" = some (some (.ref f_law_number)))
    (l_law_number : K.lookup f_law_number = some ⟨oc_law_number, od_law_number, .func (PySem.W.fnOf "_law_number" "_law_number" (defArgs sNum) (defBody sNum) (defScope sNum) .none kV_law_number dc_law_number pm_law_number an_law_number cd_law_number ct_law_number), sl_law_number⟩)
    (c_law_number : PySem.W.codeIn K cd_law_number "_law_number" = true)
    (k_law_number : PySem.W.keepIn K (.ref f_law_number) = true)
    (a_law_take : PySem.W.nsIn K mainGlobals "_law_take" = some (some (.ref f_law_take)))
    (l_law_take : K.lookup f_law_take = some ⟨oc_law_take, od_law_take, .func (PySem.W.fnOf "_law_take" "_law_take" (defArgs sTake) (defBody sTake) (defScope sTake) .none kV_law_take dc_law_take pm_law_take an_law_take cd_law_take ct_law_take), sl_law_take⟩)
    (c_law_take : PySem.W.codeIn K cd_law_take "_law_take" = true)
    (k_law_take : PySem.W.keepIn K (.ref f_law_take) = true)
    (a_law_fewest : PySem.W.nsIn K mainGlobals "_law_fewest" = some (some (.ref f_law_fewest)))
    (l_law_fewest : K.lookup f_law_fewest = some ⟨oc_law_fewest, od_law_fewest, .func (PySem.W.fnOf "_law_fewest" "_law_fewest" (defArgs sFew) (defBody sFew) (defScope sFew) .none kV_law_fewest dc_law_fewest pm_law_fewest an_law_fewest cd_law_fewest ct_law_fewest), sl_law_fewest⟩)
    (c_law_fewest : PySem.W.codeIn K cd_law_fewest "_law_fewest" = true)
    (k_law_fewest : PySem.W.keepIn K (.ref f_law_fewest) = true)
    (a_law : PySem.W.nsIn K mainGlobals "law" = some (some (.ref f_law)))
    (l_law : K.lookup f_law = some ⟨oc_law, od_law, .func (PySem.W.fnOf "law" "law" (defArgs s_law) (defBody s_law) (defScope s_law) .none kV_law dc_law pm_law an_law cd_law ct_law), sl_law⟩)
    (c_law : PySem.W.codeIn K cd_law "law" = true)
    (k_law : PySem.W.keepIn K (.ref f_law) = true)
    (z_abs : PySem.W.nsIn K mainGlobals "abs" = some none)
    (z_all : PySem.W.nsIn K mainGlobals "all" = some none)
    (z_any : PySem.W.nsIn K mainGlobals "any" = some none)
    (z_bool : PySem.W.nsIn K mainGlobals "bool" = some none)
    (z_enumerate : PySem.W.nsIn K mainGlobals "enumerate" = some none)
    (z_int : PySem.W.nsIn K mainGlobals "int" = some none)
    (z_isinstance : PySem.W.nsIn K mainGlobals "isinstance" = some none)
    (z_len : PySem.W.nsIn K mainGlobals "len" = some none)
    (z_list : PySem.W.nsIn K mainGlobals "list" = some none)
    (z_max : PySem.W.nsIn K mainGlobals "max" = some none)
    (z_min : PySem.W.nsIn K mainGlobals "min" = some none)
    (z_range : PySem.W.nsIn K mainGlobals "range" = some none)
    (z_sorted : PySem.W.nsIn K mainGlobals "sorted" = some none)
    (z_tuple : PySem.W.nsIn K mainGlobals "tuple" = some none)
    (ht_pieces_of : h.get? tp_pieces_of = some (PySem.W.tabObj #[]))
    (cc_pieces_of : cd_pieces_of = .ref tc_pieces_of)
    (ch_pieces_of : PySem.W.codeHdIn K tc_pieces_of tp_pieces_of = true)
    (np_pieces_of : K.lookup tp_pieces_of = none) :
    LamX.LawAtS l w K CX0 6 63 "script" mg fa h := by
  have e := hfa.symm.trans (PySem.W.mg_of X G a_law)
  cases e
  have F_is_number := fun_mk (st := sIsNum) l_is_number c_is_number k_is_number
  have b_is_number := F_is_number.binds (ps := ["thing", "low", "high"]) fun _ _ _ _ _ _ us hl => match us, hl with | [_, _, _], _ => rfl
  have g_is_number := PySem.W.mg_of X G a_is_number
  have F_pieces_of := fun_mk (st := sPcs) l_pieces_of c_pieces_of k_pieces_of
  have b_pieces_of := F_pieces_of.binds (ps := ["rows"]) fun _ _ _ _ _ _ us hl => match us, hl with | [_], _ => rfl
  have g_pieces_of := PySem.W.mg_of X G a_pieces_of
  have F_last_tick := fun_mk (st := sLastT) l_last_tick c_last_tick k_last_tick
  have b_last_tick := F_last_tick.binds (ps := ["rows", "mast", "first"]) fun _ _ _ _ _ _ us hl => match us, hl with | [_, _, _], _ => rfl
  have g_last_tick := PySem.W.mg_of X G a_last_tick
  have F_covers := fun_mk (st := sCov) l_covers c_covers k_covers
  have b_covers := F_covers.binds (ps := ["rows", "pieces"]) fun _ _ _ _ _ _ us hl => match us, hl with | [_, _], _ => rfl
  have g_covers := PySem.W.mg_of X G a_covers
  have F_stops_of := fun_mk (st := sStops) l_stops_of c_stops_of k_stops_of
  have b_stops_of := F_stops_of.binds (ps := ["rows"]) fun _ _ _ _ _ _ us hl => match us, hl with | [_], _ => rfl
  have g_stops_of := PySem.W.mg_of X G a_stops_of
  have F_shows_many := fun_mk (st := sShow) l_shows_many c_shows_many k_shows_many
  have b_shows_many := F_shows_many.binds (ps := ["rows", "stops"]) fun _ _ _ _ _ _ us hl => match us, hl with | [_, _], _ => rfl
  have g_shows_many := PySem.W.mg_of X G a_shows_many
  have F_is_led := fun_mk (st := sLed) l_is_led c_is_led k_is_led
  have b_is_led := F_is_led.binds (ps := ["rows", "first", "last"]) fun _ _ _ _ _ _ us hl => match us, hl with | [_, _, _], _ => rfl
  have g_is_led := PySem.W.mg_of X G a_is_led
  have F_law_number := fun_mk (st := sNum) l_law_number c_law_number k_law_number
  have b_law_number := F_law_number.binds (ps := ["script", "index"]) fun _ _ _ _ _ _ us hl => match us, hl with | [_, _], _ => rfl
  have g_law_number := PySem.W.mg_of X G a_law_number
  have F_law_take := fun_mk (st := sTake) l_law_take c_law_take k_law_take
  have b_law_take := F_law_take.binds (ps := ["draw", "many"]) fun _ _ _ _ _ _ us hl => match us, hl with | [_, _], _ => rfl
  have g_law_take := PySem.W.mg_of X G a_law_take
  have F_law_fewest := fun_mk (st := sFew) l_law_fewest c_law_fewest k_law_fewest
  have b_law_fewest := F_law_fewest.binds (ps := ["rows"]) fun _ _ _ _ _ _ us hl => match us, hl with | [_], _ => rfl
  have g_law_fewest := PySem.W.mg_of X G a_law_fewest
  have F_law := fun_mk (st := s_law) l_law c_law k_law
  have n_abs := PySem.W.mg_none_of X G z_abs
  have n_all := PySem.W.mg_none_of X G z_all
  have n_any := PySem.W.mg_none_of X G z_any
  have n_bool := PySem.W.mg_none_of X G z_bool
  have n_enumerate := PySem.W.mg_none_of X G z_enumerate
  have n_int := PySem.W.mg_none_of X G z_int
  have n_isinstance := PySem.W.mg_none_of X G z_isinstance
  have n_len := PySem.W.mg_none_of X G z_len
  have n_list := PySem.W.mg_none_of X G z_list
  have n_max := PySem.W.mg_none_of X G z_max
  have n_min := PySem.W.mg_none_of X G z_min
  have n_range := PySem.W.mg_none_of X G z_range
  have n_sorted := PySem.W.mg_none_of X G z_sorted
  have n_tuple := PySem.W.mg_none_of X G z_tuple
  refine ⟨PySem.W.fnOf "law" "law" (defArgs s_law) (defBody s_law) (defScope s_law) .none kV_law dc_law pm_law an_law cd_law ct_law, [(tc_pieces_of, tp_pieces_of)], spLaw K [(tp_pieces_of, fun _ _ => "pieces_of.<locals>.<lambda>")], List.forall_mem_cons.mpr ⟨ht_pieces_of, fun _ z => nomatch z⟩, List.forall_mem_cons.mpr ⟨np_pieces_of, fun _ z => nomatch z⟩, List.forall_mem_cons.mpr ⟨PySem.W.codeHd_of_K X ch_pieces_of, fun _ z => nomatch z⟩, fun s v => .of_eq rfl, fun H a ns hl _ ht hS => ⟨a, ns, rfl, hS, hl, ?_, fun _ => rfl⟩, fun base KB GB TB => ?_⟩
  · exact List.forall_mem_cons.mpr ⟨NdefX.TabN.nil (ht (tc_pieces_of, tp_pieces_of) (by simp)), fun _ z => nomatch z⟩
  have tb_pieces_of := TB (tc_pieces_of, tp_pieces_of) (by simp)
  have TD : TxD K mg f_law_number f_law_take := ⟨n_len, n_int, n_abs, g_law_number, g_law_take⟩
  have c_take : Cal l.prog w K mg base 2 "_law_take" ["draw", "many"] (spTake K) := ⟨_, _, g_law_take, F_law_take.kp, b_law_take, ok_take F_law_take TD F_law_number b_law_number⟩
  have c_num : Cal l.prog w K mg base 1 "is_number" ["thing", "low", "high"] spIsNum := ⟨_, _, g_is_number, F_is_number.kp, b_is_number, ok_isnum F_is_number ⟨n_isinstance, n_int, n_bool⟩⟩
  have c_last : Cal l.prog w K mg base 1 "last_tick" ["rows", "mast", "first"] spLast := ⟨_, _, g_last_tick, F_last_tick.kp, b_last_tick, ok_last F_last_tick n_len⟩
  have c_pcs : Cal l.prog w K mg base 4 "pieces_of" ["rows"] (spPcs [(tp_pieces_of, fun _ _ => "pieces_of.<locals>.<lambda>")]) := ⟨_, _, g_pieces_of, F_pieces_of.kp, b_pieces_of, ok_pcs F_pieces_of cc_pieces_of tb_pieces_of n_len n_max c_last⟩
  have c_stops : Cal l.prog w K mg base 5 "stops_of" ["rows"] (spStops [(tp_pieces_of, fun _ _ => "pieces_of.<locals>.<lambda>")]) := ⟨_, _, g_stops_of, F_stops_of.kp, b_stops_of, ok_stops F_stops_of c_pcs⟩
  have c_cov : Cal l.prog w K mg base 2 "covers" ["rows", "pieces"] spCov := ⟨_, _, g_covers, F_covers.kp, b_covers, ok_cov F_covers n_len n_list n_range c_num c_last⟩
  have c_led : Cal l.prog w K mg base 2 "is_led" ["rows", "first", "last"] spLed := ⟨_, _, g_is_led, F_is_led.kp, b_is_led, ok_led F_is_led n_any c_last⟩
  have c_show : Cal l.prog w K mg base 3 "shows_many" ["rows", "stops"] (spShow (K0 := K)) := ⟨_, _, g_shows_many, F_shows_many.kp, b_shows_many, ok_show F_shows_many n_len n_enumerate c_num c_led⟩
  have c_few : Cal l.prog w K mg base 1 "_law_fewest" ["rows"] spFew := ⟨_, _, g_law_fewest, F_law_fewest.kp, b_law_fewest, ok_few F_law_fewest n_min n_list⟩
  exact ok_law F_law ⟨n_len, n_range, n_tuple, n_any, n_all, n_sorted⟩ c_take c_pcs c_stops c_cov c_show c_few
theorem walk {l : PySem.W.OpenLaw} {q : Program} {loose : List PySem.Str} {XP : (PySem.Str → Option Value) → Heap → Prop} {YP : World → Heap → Prop} {d : DefRec} {K : Params → PySem.W.Frag} (hn : l.most = some 63) (hdf : d.params.defaults = [])
    (hY : ∀ (w : World) (h : Heap), YP w h → (K w.params).In h)
    (F : ∀ (w : World) (mg : PySem.Str → Option Value) (fa : Addr) (h : Heap), YP w h → (K w.params).In h → h.Ns mainGlobals mg → mg d.name = some (.ref fa) → LamX.LawAtS l w (K w.params) CX0 6 63 "script" mg fa h) :
    PySem.W.WalkO q loose XP YP l.row.toRowW d [] (fun f vs => PySem.call f vs) :=
  LamX.walk_ofTs (n := 63) (k := 6) (x := "script") (CX := fun _ => CX0) hn (by decide) hdf ⟨rfl, by decide, by decide⟩ hY F fun _ _ _ _ _ z => z
end Mc
open PySem PySem.W PyProof.Rows
set_option maxRecDepth 100000 in
set_option maxHeartbeats 0 in
theorem PySem.Challenge.cw_mastcalls_k37_whole_tours_holds : PySem.Challenge.rw_mastcalls_k37_whole_tours.Holds := by
  w_on; o_law; k_head; (case hw => w_witness2)
  k_fill
  refine Mc.walk (l := PySem.Challenge.rw_mastcalls_k37_whole_tours) rfl rfl (fun w h Y => PySem.W.km_in_of Y) ?F
  case F =>
    intro w mg fa h Y KX G hmg
    refine' Mc.all_mk KX G hmg ?a_is_number ?l_is_number ?c_is_number ?k_is_number ?a_pieces_of ?l_pieces_of ?c_pieces_of ?k_pieces_of ?a_last_tick ?l_last_tick ?c_last_tick ?k_last_tick ?a_covers ?l_covers ?c_covers ?k_covers ?a_stops_of ?l_stops_of ?c_stops_of ?k_stops_of ?a_shows_many ?l_shows_many ?c_shows_many ?k_shows_many ?a_is_led ?l_is_led ?c_is_led ?k_is_led ?a_law_number ?l_law_number ?c_law_number ?k_law_number ?a_law_take ?l_law_take ?c_law_take ?k_law_take ?a_law_fewest ?l_law_fewest ?c_law_fewest ?k_law_fewest ?a_law ?l_law ?c_law ?k_law ?z_abs ?z_all ?z_any ?z_bool ?z_enumerate ?z_int ?z_isinstance ?z_len ?z_list ?z_max ?z_min ?z_range ?z_sorted ?z_tuple ?ht_pieces_of ?cc_pieces_of ?ch_pieces_of ?np_pieces_of
    (case a_is_number => k_is)
    (case l_is_number => k_is)
    (case c_is_number => k_is)
    (case k_is_number => k_is)
    (case a_pieces_of => k_is)
    (case l_pieces_of => k_is)
    (case c_pieces_of => k_is)
    (case k_pieces_of => k_is)
    (case a_last_tick => k_is)
    (case l_last_tick => k_is)
    (case c_last_tick => k_is)
    (case k_last_tick => k_is)
    (case a_covers => k_is)
    (case l_covers => k_is)
    (case c_covers => k_is)
    (case k_covers => k_is)
    (case a_stops_of => k_is)
    (case l_stops_of => k_is)
    (case c_stops_of => k_is)
    (case k_stops_of => k_is)
    (case a_shows_many => k_is)
    (case l_shows_many => k_is)
    (case c_shows_many => k_is)
    (case k_shows_many => k_is)
    (case a_is_led => k_is)
    (case l_is_led => k_is)
    (case c_is_led => k_is)
    (case k_is_led => k_is)
    (case a_law_number => k_is)
    (case l_law_number => k_is)
    (case c_law_number => k_is)
    (case k_law_number => k_is)
    (case a_law_take => k_is)
    (case l_law_take => k_is)
    (case c_law_take => k_is)
    (case k_law_take => k_is)
    (case a_law_fewest => k_is)
    (case l_law_fewest => k_is)
    (case c_law_fewest => k_is)
    (case k_law_fewest => k_is)
    (case a_law => k_is)
    (case l_law => k_is)
    (case c_law => k_is)
    (case k_law => k_is)
    (case z_abs => k_is)
    (case z_all => k_is)
    (case z_any => k_is)
    (case z_bool => k_is)
    (case z_enumerate => k_is)
    (case z_int => k_is)
    (case z_isinstance => k_is)
    (case z_len => k_is)
    (case z_list => k_is)
    (case z_max => k_is)
    (case z_min => k_is)
    (case z_range => k_is)
    (case z_sorted => k_is)
    (case z_tuple => k_is)
    (case ht_pieces_of => exact PySem.W.km_tabs_of Y _ (by first | exact List.mem_cons_self | exact List.mem_cons_of_mem _ List.mem_cons_self))
    (case cc_pieces_of => rfl)
    (case ch_pieces_of => kernel_rfl)
    (case np_pieces_of => kernel_rfl)
