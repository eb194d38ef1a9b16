import PyProof.Rows.All
import Wide.All
import OpenK.AllK
import Wide.FinOn
import HandS.ForMost
import HandS.Style
import HandS.Conv
import HandS.DictComp
import HandS.Evl
import HandS.SortRule
import KE.KDictPairs
import HandS.SetKeys
import HandS.Walk
import HandS.IsInst
import KE.SortKeyHeap
import HandS.FromBytesMap
import HandS.SortKw
import KE.DataCmp
import HandS.TupAny
import HandS.ExcInit
import HandS.ExcField
import KE.KExcInit
import HandS.WordsExc
import KE.KDictList
import HandS.More
import HandS.ListItems
import HandS.SetFor
import PyProof.Rows.SortRev
import HandS.Nested
import KE.KMinKey
import HandS.Flow
import HandS.Deep
import KE.DatumOrd
import HandS.OwnEq
import PyProof.InstEq
import KE.KNestM
import HandS.EndTab
import PySem.Challenge.RW_mastcalls_k41_whole_takes_over
set_option Elab.async false
set_option maxRecDepth 100000
set_option maxHeartbeats 4000000
namespace Mc
open PySem L2 PySem.Spec PyProof.Rows
/-! rules that the layer lacks -/
theorem get_list {X : Cx} : PGet X (rIxL X.K) := by
  intro pins s σ H o i ov iv Q I ro ri h
  obtain ⟨p, xs, k, v, rfl, rfl, hs, hv, q⟩ := h
  cases ro
  obtain ⟨t, rfl⟩ := ri
  obtain ⟨its, r, pl, hz⟩ := I.list hs
  obtain ⟨j, h1, h2, h3, h4, h5⟩ := atI_get hv
  obtain ⟨w, ew, rw'⟩ := r.get h2
  have hl := r.length
  have hn := line63
  have fin : EP X pins σ Q w s := ⟨v, H, I, rw', q⟩
  by_cases h0 : 0 ≤ k
  · have hj : k.toNat = j := by
      rw [seqIndex_of h0 h5] at h1
      exact Option.some.inj h1
    exact wpAny_getItem_list pl.isList h0 (by omega) (by rw [hj]; simpa using ew) fin
  · have hj : (k + (its.toArray.size : Int)).toNat = j := by
      rw [seqIndex_neg (by omega) h4] at h1
      rw [List.size_toArray, ← hl]
      exact Option.some.inj h1
    exact wpAny_getItem_list_neg pl.isList (by omega) (by rw [List.size_toArray] <;> omega) (by omega) (by rw [hj]; simpa using ew) fin

/-! ### a heap that is kept but for some objects -/
def Kp (M : List Addr) (H H' : Hp) : Prop := ∀ b o, H b = some o → b ∉ M → H' b = some o
theorem Kp.refl (M : List Addr) (H : Hp) : Kp M H H := fun _ _ h _ => h
theorem Kp.trans {M : List Addr} {H H1 H2 : Hp} (a : Kp M H H1) (b : Kp M H1 H2) : Kp M H H2 := fun c o h n => b c o (a c o h n) n
theorem Kp.mono {M N : List Addr} {H H' : Hp} (k : Kp M H H') (h : ∀ b ∈ M, b ∈ N) : Kp N H H' := fun b o e n => k b o e fun z => n (h b z)
theorem Kp.new {M : List Addr} {p : Addr} {H : Hp} {o : HO} (h : H p = none) : Kp M H (upd H p o) := fun b u e _ => by
  rw [upd_ne (ne_of_none e h)]
  exact e
theorem Kp.at {M : List Addr} {d : Addr} {H : Hp} {o : HO} (h : d ∈ M) : Kp M H (upd H d o) := fun b u e n => by
  rw [upd_ne fun z => n (by rw [z]; exact h)]
  exact e
theorem Kp.same {M : List Addr} {H H' : Hp} (h : Same H H') : Kp M H H' := fun b o e _ => h b o e
/-- nothing tracked is lost -/
def Lv (H H' : Hp) : Prop := ∀ b, H' b = none → H b = none
theorem Kp.live {M : List Addr} {H H' : Hp} (k : Kp M H H') (h : ∀ d ∈ M, ∃ o, H' d = some o) {p : Addr} (e : H' p = none) : H p = none := by
  cases q : H p with
  | none => rfl
  | some u =>
    by_cases n : p ∈ M
    · obtain ⟨o, z⟩ := h p n
      rw [z] at e; cases e
    · rw [k p u q n] at e; cases e
/-- what was not there may be changed freely -/
theorem Kp.drop {M : List Addr} {p : Addr} {H H' : Hp} (k : Kp (p :: M) H H') (h : H p = none) : Kp M H H' := fun b o e n => k b o e fun z => by
  rcases List.mem_cons.mp z with rfl | z
  · rw [h] at e; cases e
  · exact n z

/-- the draw stands at d: the script, and how many were drawn; M: all that may be changed -/
structure Dr (K : PySem.W.Frag) (M : List Addr) (d a : Addr) (H : Hp) : Prop where
  at_ : ∃ k : Int, H d = some (.lst [.ref a, .int k])
  mem : d ∈ M
  sc : ∃ ns : List Int, ns.length ≤ 63 ∧ ∀ H', Kp M H H' → SqL K H' a (ns.map V.int)
section
variable {K : PySem.W.Frag} {M : List Addr} {d a : Addr} {H H' : Hp}
theorem Dr.keep (D : Dr K M d a H) (k : Kp M H H') (e : ∀ o, H d = some o → H' d = some o) : Dr K M d a H' := by
  obtain ⟨⟨k0, h⟩, m, ns, hl, hs⟩ := D
  exact ⟨⟨k0, e _ h⟩, m, ns, hl, fun H2 k2 => hs H2 (k.trans k2)⟩
theorem Dr.same (D : Dr K M d a H) (k : Same H H') : Dr K M d a H' := D.keep (Kp.same k) fun o h => k _ o h
theorem Dr.new {p : Addr} {o : HO} (D : Dr K M d a H) (h : H p = none) : Dr K M d a (upd H p o) := D.same fun b u e => by rw [upd_ne (ne_of_none e h)]; exact e
theorem Dr.next (D : Dr K M d a H) (k : Kp M H H') {j : Int} (h : H' d = some (.lst [.ref a, .int j])) : Dr K M d a H' := by
  obtain ⟨_, m, ns, hl, hs⟩ := D
  exact ⟨⟨j, h⟩, m, ns, hl, fun H2 k2 => hs H2 (k.trans k2)⟩
/-- one more object may be changed, that was not there -/
theorem Dr.grow {p : Addr} (D : Dr K M d a H) (h : H p = none) : Dr K (p :: M) d a H := by
  obtain ⟨k0, m, ns, hl, hs⟩ := D
  exact ⟨k0, List.mem_cons_of_mem _ m, ns, hl, fun H2 k2 => hs H2 (k2.drop h)⟩
/-- fewer may be changed -/
theorem Dr.sub {N : List Addr} (D : Dr K M d a H) (h : ∀ b ∈ N, b ∈ M) (hd : d ∈ N) : Dr K N d a H := by
  obtain ⟨k0, _, ns, hl, hs⟩ := D
  exact ⟨k0, hd, ns, hl, fun H2 k2 => hs H2 (k2.mono h)⟩
/-- a draw made of the script -/
theorem Dr.mk' {ns : List Int} {j : Int} (hs : SqL K H a (ns.map V.int)) (hl : ns.length ≤ 63) (hd : H d = none) : Dr K [d] d a (upd H d (.lst [.ref a, .int j])) := by
  refine ⟨⟨j, upd_same⟩, List.mem_singleton.mpr rfl, ns, hl, fun H' k => ?_⟩
  have ne : ∀ {o}, H a = some o → a ∉ [d] := fun h z => ne_of_none h hd (List.mem_singleton.mp z)
  rcases hs with (h | ⟨o, h⟩) | h
  · exact .inl (.inl (k a _ (by rw [upd_ne (ne_of_none h hd)]; exact h) (ne h)))
  · exact .inl (.inr ⟨o, k a _ (by rw [upd_ne (ne_of_none h hd)]; exact h) (ne h)⟩)
  · exact .inr h
end

theorem rel_int {i : Int} {t : Tok} : RelV (.int i) (.int i t) := ⟨t, rfl⟩
theorem rel_str {x : PySem.Str} {t : Tok} : RelV (.str x) (.str x t) := ⟨t, rfl⟩
/-! ### rules for a comprehension's block: K by its name -/
section
variable {X : Cx} {K : PySem.W.Frag} {e : Expr} {f : PySem.Str} {pos : Pos} {ta : TE}
theorem pe_fldK (h : X.K = K) (he : PE X e ta) (hb : attributeBase e f X.env (eval e X.env) = eval e X.env) : PE X (.Attribute e f pos) (tFld K ta f) := by
  subst h
  exact pe_fld he hb
theorem ix_listK (h : X.K = K) : IxR X (rIxL K) := by
  subst h
  exact ix_list
theorem ix_tupK (h : X.K = K) : IxR X (rIxT K) := by
  subst h
  exact ix_tup
theorem sl_listK (h : X.K = K) : SlR X (rSlL K) := by
  subst h
  exact sl_list
theorem call_len_seqK (h : X.K = K) : CallR X (.builtin "len") (fun xs H Q => ∃ p ys, xs = [.ref p] ∧ (SqL K H p ys ∨ SqT K H p ys) ∧ Q (.int ys.length) H) := by
  subst h
  exact call_len_seq
theorem op_eqDK (h : X.K = K) (hu : X.A.units + 64 < cLine) : OpR X (compareOp .Eq) (rEqD K) := by
  subst h
  exact op_eqD hu
theorem op_neDK (h : X.K = K) (hu : X.A.units + 64 < cLine) : OpR X (compareOp .NotEq) (rNeD K) := by
  subst h
  exact op_neD hu
theorem pe_tupleOfK (h : X.K = K) {a : Expr} {p pos : Pos} (hg : Gl X "tuple") (hm : X.mg "tuple" = none) (ha : PE X a ta) (na : starEach [a] X.env = (false, eval a X.env) :: starEach [] X.env := by rfl) :
    PE X (.Call (.Name "tuple" p) [a] [] pos) (tThen ta (kTup K)) := by
  subst h
  exact pe_tupleOf hg hm ha na
end
/-! ### defs, methods, classes: what a caller needs -/
/-- a def of the module keeps its promise -/
def Cal (P : Program) (w : World) (K : PySem.W.Frag) (mg : PySem.Str → Option Value) (base : Heap) (k : Nat) (x : PySem.Str) (ps : List PySem.Str) (sp : Sp) : Prop :=
  ∃ (f : Addr) (fd : FuncData), mg x = some (.ref f) ∧ PySem.W.keepIn K (.ref f) = true ∧ Binds K fd ps [] ∧ FnOk P w K mg base CX0 k f fd ps sp
/-- a method of the class at C -/
def CalM (P : Program) (w : World) (K : PySem.W.Frag) (mg : PySem.Str → Option Value) (base : Heap) (C : Addr) (k : Nat) (m : PySem.Str) (ps : List PySem.Str) (sp : Sp) : Prop :=
  ∃ (f : Addr) (fd : FuncData), Meth K C m f ∧ Binds K fd ps [] ∧ FnOk P w K mg base CX0 k f fd ps sp
/-- the class of that name, made by its __init__ -/
def CalI (P : Program) (w : World) (K : PySem.W.Frag) (mg : PySem.Str → Option Value) (base : Heap) (C : Addr) (k : Nat) (x : PySem.Str) (ps : List PySem.Str) (sp : Sp) : Prop :=
  ∃ (f : Addr) (fd : FuncData), mg x = some (.ref C) ∧ Mk K C f ∧ Binds K fd ps [] ∧ FnOk P w K mg base CX0 k f fd ps sp
section
variable {X : Cx} {k : Nat} {x m : PySem.Str} {ps : List PySem.Str} {sp : Sp} {C : Addr} {p pos apos : Pos} {e o : Expr} {es : List Expr} {t : TA} {ta : TE}
theorem pe_cal (c : Cal X.prog X.w X.K X.mg X.base k x ps sp) (hr : Room k X.A) (hg : Gl X x) (ha : PA X (e :: es) t) (hdb : (x == ("__debug__" : PySem.Str)) = false := by decide)
    (he : starEach (e :: es) X.env = (false, eval e X.env) :: starEach es X.env := by rfl) (hpl : (backTo pos (starEach es X.env)).any (·.1) = false := by rfl) : PE X (.Call (.Name x p) (e :: es) [] pos) (tCall sp [] E0 t) := by
  obtain ⟨f, fd, hm, hk, hb, F⟩ := c
  exact pe_call F hr hg hm hk hb .nil pass0 ha hdb he hpl
theorem pe_cal0 (c : Cal X.prog X.w X.K X.mg X.base k x ps sp) (hr : Room k X.A) (hg : Gl X x) (hdb : (x == ("__debug__" : PySem.Str)) = false := by decide) : PE X (.Call (.Name x p) [] [] pos) (tCall sp [] E0 tNil) := by
  obtain ⟨f, fd, hm, hk, hb, F⟩ := c
  exact pe_call0 F hr hg hm hk hb .nil pass0 hdb
theorem pe_calM {pl : Sem Bool} (he : PE X o ta) (cl : Cls X.K C) (c : CalM X.prog X.w X.K X.mg X.base C k m ps sp) (hr : Room k X.A) (ha : PA X (e :: es) t)
    (hst : starEach (e :: es) X.env = (false, eval e X.env) :: starEach es X.env := by rfl) (hpl : (backTo pos (starEach es X.env)).any (·.1) = false := by rfl)
    (ht : eval (.Call (.Attribute o m apos) (e :: es) [] pos) X.env = (do
      let ov ← eval o X.env
      standAt apos.atName
      let (f, first) ← holding [ov] (getMethod ov m pl)
      callWith pos f first (backTo pos (starEach (e :: es) X.env)) (backToKw pos (keywordEach [] X.env))) := by rfl) :
    PE X (.Call (.Attribute o m apos) (e :: es) [] pos) (tMeth C m sp [] E0 ta t) := by
  obtain ⟨f, fd, hm, hb, F⟩ := c
  exact pe_meth he cl hm F hr hb .nil pass0 ha hst hpl ht
theorem pe_calM0 {pl : Sem Bool} (he : PE X o ta) (cl : Cls X.K C) (c : CalM X.prog X.w X.K X.mg X.base C k m ps sp) (hr : Room k X.A)
    (ht : eval (.Call (.Attribute o m apos) [] [] pos) X.env = (do
      let ov ← eval o X.env
      standAt apos.atName
      let (f, first) ← holding [ov] (getMethod ov m pl)
      callWith pos f first (backTo pos (starEach [] X.env)) (backToKw pos (keywordEach [] X.env))) := by rfl) :
    PE X (.Call (.Attribute o m apos) [] [] pos) (tMeth C m sp [] E0 ta tNil) := by
  obtain ⟨f, fd, hm, hb, F⟩ := c
  exact pe_meth0 he cl hm F hr hb .nil pass0 ht
theorem pe_calI (c : CalI X.prog X.w X.K X.mg X.base C k x ps sp) (hr : Room (k + 1) X.A) (hg : Gl X x) (ha : PA X (e :: es) t) (hdb : (x == ("__debug__" : PySem.Str)) = false := by decide)
    (he : starEach (e :: es) X.env = (false, eval e X.env) :: starEach es X.env := by rfl) (hpl : (backTo pos (starEach es X.env)).any (·.1) = false := by rfl) : PE X (.Call (.Name x p) (e :: es) [] pos) (tMake C sp [] E0 t) := by
  obtain ⟨f, fd, hm, M, hb, F⟩ := c
  exact pe_make M F hr hg hm hb .nil pass0 ha hdb he hpl
theorem pe_calI0 (c : CalI X.prog X.w X.K X.mg X.base C k x ps sp) (hr : Room (k + 1) X.A) (hg : Gl X x) (hdb : (x == ("__debug__" : PySem.Str)) = false := by decide) : PE X (.Call (.Name x p) [] [] pos) (tMake C sp [] E0 tNil) := by
  obtain ⟨f, fd, hm, M, hb, F⟩ := c
  exact pe_make0 M F hr hg hm hb .nil pass0 hdb
end
/-! ### data of ints -/
def pdI (ns : List Int) : PyData := .list (ns.map PyData.int)
theorem dpAll_ints (K : PySem.W.Frag) (H : Hp) : ∀ ns : List Int, DpAll K H (ns.map V.int) (ns.map PyData.int)
  | [] => .nil
  | n :: ns => .cons (.int n) (dpAll_ints K H ns)
theorem dp_ints {K : PySem.W.Frag} {H : Hp} {a : Addr} {ns : List Int} (h : SqL K H a (ns.map V.int)) : Dp K H (.ref a) (pdI ns) := .lst h (dpAll_ints K H ns)
theorem canLay_ints : ∀ ns : List Int, PyData.canLayAll0 (ns.map PyData.int) = true
  | [] => rfl
  | n :: ns => by
    show (PyData.canLay0 (.int n) && PyData.canLayAll0 (ns.map PyData.int)) = true
    rw [canLay_ints ns]
    rfl
theorem depth_ints : ∀ ns : List Int, PyData.depthAll (ns.map PyData.int) = 0
  | [] => rfl
  | n :: ns => by
    show max (PyData.depth (.int n)) (PyData.depthAll (ns.map PyData.int)) = 0
    rw [depth_ints ns]
    rfl
theorem shaped_ints (ns : List Int) : SeqAt.shaped (pdI ns) = true := by
  have h : PyData.depth (pdI ns) = PyData.depthAll (ns.map PyData.int) + 1 := by unfold pdI; rw [PyData.depth]
  unfold SeqAt.shaped
  rw [h, depth_ints]
  have h2 : (pdI ns).canLay0 = true := by unfold pdI; rw [PyData.canLay0]; exact canLay_ints ns
  rw [h2]
  rfl
theorem eqvAll_ints : ∀ ns ms : List Int, PyData.eqvAll (ns.map PyData.int) (ms.map PyData.int) = decide (ns = ms)
  | [], [] => rfl
  | [], m :: ms => by simp [PyData.eqvAll]
  | n :: ns, [] => by simp [PyData.eqvAll]
  | n :: ns, m :: ms => by
    show (PyData.eqv (.int n) (.int m) && PyData.eqvAll (ns.map PyData.int) (ms.map PyData.int)) = _
    rw [eqvAll_ints ns ms]
    have : PyData.eqv (.int n) (.int m) = (n == m) := by rw [PyData.eqv]
    rw [this]
    by_cases h : n = m <;> simp [h]
theorem eqv_ints (ns ms : List Int) : PyData.eqv (pdI ns) (pdI ms) = decide (ns = ms) := by
  unfold pdI
  rw [PyData.eqv]
  exact eqvAll_ints ns ms
end Mc
namespace Mc
open PySem PySem.Spec PyProof.Rows SrtO
/-! ### sorted of pairs of a text and an int, out of a list or a tuple -/
def IsPairS (h : Heap) (v : Value) (x : PySem.Str) (y : Int) : Prop := ∃ a o t u n, v = .ref a ∧ h.get? a = some o ∧ o.cls = .type "tuple" ∧ o.data = .seq #[.str x t, .int y u] n
theorem IsPairS.keeps {h h' : Heap} {v : Value} {x : PySem.Str} {y : Int} (p : IsPairS h v x y) (k : ∀ b o, h.get? b = some o → o.cls = .type "tuple" → h'.get? b = some o) : IsPairS h' v x y := by
  obtain ⟨a, o, t, u, n, e, ho, hc, hd⟩ := p
  exact ⟨a, o, t, u, n, e, k _ _ ho hc, hc, hd⟩
def lexS (p q : PySem.Str × Int) : Bool := if p.1 = q.1 then decide (p.2 < q.2) else decide (p.1.cps.toList < q.1.cps.toList)
theorem str_ext {a b : PySem.Str} (h : a.cps.toList = b.cps.toList) : a = b := by
  obtain ⟨x⟩ := a
  obtain ⟨y⟩ := b
  have : x = y := by simpa using congrArg List.toArray h
  rw [this]
theorem swo_lexS {α : Type} (k : α → PySem.Str × Int) : Swo fun v u => lexS (k v) (k u) := by
  have irr : ∀ l : List Nat, ¬ l < l := fun l => List.lt_irrefl l
  refine ⟨fun x y h => ?_, fun x y z h1 h2 => ?_⟩
  · unfold lexS at h ⊢
    by_cases e : (k x).1 = (k y).1
    · rw [if_pos e, decide_eq_true_eq] at h
      rw [if_pos e.symm, decide_eq_false_iff_not]
      omega
    · rw [if_neg e, decide_eq_true_eq] at h
      rw [if_neg (Ne.symm e), decide_eq_false_iff_not]
      exact fun z => irr _ (List.lt_trans h z)
  · unfold lexS at h1 h2 ⊢
    generalize (k x).1 = a at *
    generalize (k y).1 = b at *
    generalize (k z).1 = c at *
    by_cases e1 : b = a
    · subst e1
      rw [if_pos rfl, decide_eq_false_iff_not] at h1
      by_cases e2 : c = b
      · subst e2
        rw [if_pos rfl, decide_eq_false_iff_not] at h2
        rw [if_pos rfl, decide_eq_false_iff_not]
        omega
      · rw [if_neg e2] at h2
        rw [if_neg e2]
        exact h2
    · rw [if_neg e1, decide_eq_false_iff_not] at h1
      by_cases e2 : c = b
      · subst e2
        rw [if_neg e1, decide_eq_false_iff_not]
        exact h1
      · rw [if_neg e2, decide_eq_false_iff_not] at h2
        have l1 : a.cps.toList ≤ b.cps.toList := List.not_lt.mp h1
        have l2 : b.cps.toList ≤ c.cps.toList := List.not_lt.mp h2
        by_cases e3 : c = a
        · subst e3
          exact absurd (str_ext (List.le_antisymm l2 l1)) e1
        · rw [if_neg e3, decide_eq_false_iff_not]
          exact List.not_lt.mpr (List.le_trans l1 l2)
section
variable {prog : Program} {w : World} {A : Around} {E : Value → Shared → Prop} {s : Shared}
theorem pairS_cmp {vs : List Value} {k : Value → PySem.Str × Int} (hp : ∀ v ∈ vs, IsPairS s.heap v (k v).1 (k v).2) : Cmp prog w A s (tuples' true) (fun p => p.1 ∈ vs) (lt2 fun v u => lexS (k v) (k u)) := by
  intro p q hm hm'
  have h1 := hp _ hm
  have h2 := hp _ hm'
  show wpAny (model prog w) A (keyLt' (tuples' true) p.1 q.1) (fun r s' => s' = s ∧ r = lexS (k p.1) (k q.1)) (fun _ _ => False) s
  unfold lexS
  generalize (k p.1).1 = x at h1 ⊢
  generalize (k p.1).2 = y at h1 ⊢
  generalize (k q.1).1 = x' at h2 ⊢
  generalize (k q.1).2 = y' at h2 ⊢
  obtain ⟨a, o, t, u, n, e, ho, hc, hd⟩ := h1
  obtain ⟨a', o', t', u', n', e', ho', hc', hd'⟩ := h2
  rw [e, e']
  refine PySem.W.kat_lt ho hd ho' hd' ?_
  show PySem.W.KatLex prog w A true (decide (2 < 2)) _ [(.str x t, .str x' t'), (.int y u, .int y' u')] 0 s
  refine PySem.W.kat_cons (SeqAt.EqAt.str_str x t x' t' prog w _ _ ?_)
  refine PySem.W.kat_go (fun e1 => ?_) (fun e1 => ?_)
  · have ex : x = x' := by simpa using e1
    refine PySem.W.kat_yes (PySem.W.kat_cons (SeqAt.EqAt.int_int y u y' u' prog w _ _ ?_))
    refine PySem.W.kat_go (fun e2 => ?_) (fun e2 => ?_)
    · have ey : y = y' := by simpa using e2
      have e3 : (if x = x' then decide (y < y') else decide (x.cps.toList < x'.cps.toList)) = false := by
        rw [if_pos ex, ey]
        exact decide_eq_false (Int.lt_irrefl _)
      exact PySem.W.kat_yes (PySem.W.kat_nil ⟨rfl, e3.symm⟩)
    · have e3 : (if x = x' then decide (y < y') else decide (x.cps.toList < x'.cps.toList)) = decide (y < y') := if_pos ex
      refine PySem.W.kat_no (PySem.W.kat_one _ _ (PyProof.Rows.lt_int ?_))
      exact (show s = s ∧ decide (y < y') = (if x = x' then decide (y < y') else decide (x.cps.toList < x'.cps.toList)) from ⟨rfl, e3.symm⟩)
  · have ex : ¬ x = x' := by simpa using e1
    have e3 : (if x = x' then decide (y < y') else decide (x.cps.toList < x'.cps.toList)) = decide (x.cps.toList < x'.cps.toList) := if_neg ex
    exact PySem.W.kat_no (oneLt_str ⟨rfl, e3.symm⟩)
theorem firstsS_of {h : Heap} : ∀ {vs : List Value}, (∀ v ∈ vs, ∃ x y, IsPairS h v x y) → ∃ fs : List Value, PySem.W.KatTups h vs fs ∧ fs.length = vs.length ∧ ∀ f ∈ fs, ∃ x t, f = Value.str x t
  | [], _ => ⟨[], PySem.W.KatTups.nil, rfl, fun _ hm => by simp at hm⟩
  | v :: vs, hp => by
    obtain ⟨fs, h1, h2, h3⟩ := firstsS_of (vs := vs) fun v' hm => hp v' (List.mem_cons_of_mem _ hm)
    obtain ⟨x, y, a, o, t, u, n, e, ho, hc, hd⟩ := hp v (List.mem_cons_self ..)
    subst e
    refine ⟨.str x t :: fs, PySem.W.KatTups.cons ho hc hd rfl h1, by rw [List.length_cons, List.length_cons, h2], fun f hm => ?_⟩
    rcases List.mem_cons.mp hm with rfl | hm
    · exact ⟨x, t, rfl⟩
    · exact h3 f hm
theorem pairsS_sortable {a : Addr} {vs : List Value} {k : Value → PySem.Str × Int} (h0 : 0 < vs.length) (hp : ∀ v ∈ vs, IsPairS s.heap v (k v).1 (k v).2) (ha : ∀ o, s.heap.get? a = some o → o.cls ≠ .type "tuple") : SortableO prog w A s a vs fun v u => lexS (k v) (k u) := by
  intro h' keep
  have hp' : ∀ v ∈ vs, IsPairS h' v (k v).1 (k v).2 := fun v hm => (hp v hm).keeps fun b o e c => keep b o (fun z => by subst z; exact ha o e c) e
  obtain ⟨fs, h1, h2, h3⟩ := firstsS_of fun v hm => ⟨_, _, hp' v hm⟩
  refine ⟨tuples' true, fun Q E hq => ?_, pairS_cmp hp'⟩
  refine PySem.W.kat_kind (T := .type "str") h1 (by omega) (fun f hm => ?_) (by rfl) ?_
  · obtain ⟨x, t, rfl⟩ := h3 f hm
    exact PySem.W.Looks.now
  · have e : (Value.type "str" != Value.type "tuple") = true := by first | decide +kernel | rfl | decide
    rw [e]
    exact hq
/-- what a tuple gives out, told with the heap behind -/
theorem collect_tupE {it : Addr} {o : Obj} {vs : List Value} {n : Nat} {Q : List Value → Shared → Prop} (ho : s.heap.get? it = some o) (hc : o.cls = .type "tuple") (hd : o.data = .seq vs.toArray n) (hz : vs.length ≤ sizeLine)
    (hQ : Q vs { s with heap := (s.heap.push (seqObj "list" #[] 0)).update s.heap.objs.size (Obj.mapSeq (· ++ vs.toArray)) }) : wpAny (model prog w) A (collect (.ref it)) Q E s := by
  have hz' : vs.toArray.size ≤ sizeLine := by rw [List.size_toArray]; exact hz
  have h0 : (s.heap.push (seqObj "list" #[] 0)).get? s.heap.objs.size = some { cls := .type "list", data := .seq #[] 0 } := Heap.get?_push_size _ rfl
  have h1 := Heap.get?_update_self (Obj.mapSeq (· ++ vs.toArray)) h0 rfl
  unfold collect
  refine wpAny_bind (wpAny_runValue (codeAny_builtin F.entry_proto_collect ?_))
  rw [Around.under_plainId F.plain_proto_collect _]
  refine wpAny_bind (m := newList []) (wpAny_newList ?_ (Nat.zero_le _))
  refine wpAny_pure ⟨plainId_quiet F.plain_list_iadd _, codeAny_builtin F.entry_list_iadd ?_⟩
  rw [Around.under_plainId F.plain_list_iadd _]
  have last : wpAny (model prog w) A (load s.heap.objs.size >>= fun o => match o.data with | .seq xs _ => pure xs.toList | _ => unsupported "internal:collect") Q E { s with heap := (s.heap.push (seqObj "list" #[] 0)).update s.heap.objs.size (Obj.mapSeq (· ++ vs.toArray)) } := by
    refine wpAny_bind (wpAny_load h1 (wpAny_pure ?_))
    have e : ((#[] : Array Value) ++ vs.toArray).toList = vs := by simp
    show Q ((#[] : Array Value) ++ vs.toArray).toList _
    rw [e]
    exact hQ
  refine wpAny_mono (wpAny_extend_seq (hsz := hz') (A := A) (R := fun r s' => r = .ok (.ret (.ref s.heap.objs.size)) ∧ s' = { s with heap := (s.heap.push (seqObj "list" #[] 0)).update s.heap.objs.size (Obj.mapSeq (· ++ vs.toArray)) })
    (s := { s with heap := s.heap.push (seqObj "list" #[] 0) }) _ it _ 0 (.inr rfl) h0 (Heap.get?_push_of_some _ ho) hc hd ⟨rfl, rfl⟩) (fun fin s' h => ?_) (fun e s' h => absurd h.1 (by simp))
  cases fin with
  | done f =>
    obtain ⟨e, rfl⟩ := h
    cases e
    exact last
  | again c' => exact ⟨h.1, codeAny_mono h.2 fun r s'' hr => by obtain ⟨rfl, rfl⟩ := hr; exact last⟩
/-- sorted(t), t a tuple of such pairs -/
theorem sorted_pairsS {it : Addr} {o : Obj} {vs : List Value} {n : Nat} {k : Value → PySem.Str × Int} {Q : Value → Shared → Prop} (ho : s.heap.get? it = some o) (hc : o.cls = .type "tuple") (hd : o.data = .seq vs.toArray n)
    (hz : vs.length ≤ sizeLine) (hp : ∀ v ∈ vs, IsPairS s.heap v (k v).1 (k v).2)
    (h : ∀ (h' : Heap) (d : Addr) (out : List Value), Srtd (fun v u => lexS (k v) (k u)) out → Stb (fun v u => lexS (k v) (k u)) out vs → (∀ b o, s.heap.get? b = some o → h'.get? b = some o) → s.heap.objs.size ≤ d → (∃ n, h'.get? d = some (seqObj "list" out.toArray n)) → Q (.ref d) { s with heap := h' }) :
    wpAny (model prog w) A (call (.builtin "sorted") [.ref it]) Q E s := by
  refine Calls.call_function_entry kind_sorted plain_sorted entry_sorted (args_sorted1 _) ?_
  unfold Builtin.«sorted»
  refine wpAny_bind (m := checkCount "sorted" 1 1 _) (wpAny_pure ?_)
  refine wpAny_bind (collect_tupE ho hc hd hz ?_)
  have k' : ∀ b o, s.heap.get? b = some o → ((s.heap.push (seqObj "list" #[] 0)).update s.heap.objs.size (Obj.mapSeq (· ++ vs.toArray))).get? b = some o := fun b o q => by
    rw [Heap.get?_update_ne _ _ _ _ (Nat.ne_of_lt (Heap.lt_size q))]
    exact Heap.get?_push_of_some _ q
  have hsz : ((s.heap.push (seqObj "list" #[] 0)).update s.heap.objs.size (Obj.mapSeq (· ++ vs.toArray))).objs.size = s.heap.objs.size + 1 := by rw [Heap.size_update, size_push']
  generalize (s.heap.push (seqObj "list" #[] 0)).update s.heap.objs.size (Obj.mapSeq (· ++ vs.toArray)) = h' at k' hsz ⊢
  refine wpAny_bind (wpAny_newList ?_ hz)
  have hoL : (h'.push (seqObj "list" vs.toArray 0)).get? h'.objs.size = some (seqObj "list" vs.toArray 0) := Heap.get?_push_size _ rfl
  have kp : ∀ b o, s.heap.get? b = some o → b ≠ h'.objs.size ∧ (h'.push (seqObj "list" vs.toArray 0)).get? b = some o := fun b o q => ⟨Nat.ne_of_lt (Heap.lt_size (k' b o q)), Heap.get?_push_of_some _ (k' b o q)⟩
  refine wpAny_bind (wpAny_holding (wpAny_call_entry slot_list_sort ⟨_, hoL, rfl⟩ entry_list_sort (list_sort_ord (s := { s with heap := h'.push (seqObj "list" vs.toArray 0) }) (swo_lexS k) hoL hz (fun h2 => ?_) fun out hs hb => ⟨_, rfl, ?_⟩) (args_list_sort _)))
  · refine pairsS_sortable (s := { s with heap := h'.push (seqObj "list" vs.toArray 0) }) (by omega) (fun v hm => (hp v hm).keeps fun b o e _ => (kp b o e).2) fun o e => ?_
    have e' : some o = some (seqObj "list" vs.toArray 0) := e.symm.trans hoL
    cases e'
    intro c
    exact absurd (Value.type.inj c) (by decide)
  · refine wpAny_pure ⟨_, rfl, h _ _ out hs hb (fun b o e => ?_) (by rw [hsz]; exact Nat.le_succ _) (sortedHeap_at hoL)⟩
    rw [sortedHeap_old (kp b o e).1 (Heap.lt_size (kp b o e).2)]
    exact (kp b o e).2
end
open L2
/-- x before y: by its text, then by its int -/
abbrev ltS (k : V → PySem.Str × Int) (x y : V) : Bool := lexS (k x) (k y)
/-! ### a tuple whose object is known whole -/
def TupR (h : Heap) (a : Addr) (xs : List V) : Prop := xs.length ≤ sizeLine ∧ ∃ (its : List Value) (n : Nat), Vals xs its ∧ h.get? a = some { cls := .type "tuple", data := .seq its.toArray n }
def TupO (a : Addr) (xs : List V) : HO := .ext fun h => TupR h a xs
theorem tupO_new {P : Program} {w : World} {H : Hp} {h : Heap} {a : Addr} {xs : List V} (R : TupR h a xs) : ObjOk P w H h a (TupO a xs) := by
  obtain ⟨z, its, n, r, e⟩ := id R
  exact ⟨R, ⟨_, e⟩, fun h1 h2 ⟨z1, its1, n1, r1, e1⟩ k => ⟨z1, its1, n1, r1, k _ e1⟩⟩
section
variable {X : Cx} {pins : List (Addr × Obj)} {σ : L2.St} {H : Hp} {s : Shared} {a : Addr} {xs : List V}
theorem tupO_get (I : Inv X pins σ H s) (h : H a = some (TupO a xs)) : TupR s.heap a xs := (I.hok a _ h).1
end
section
variable {X : Cx} {es : List Expr} {t : TA} {pos : Pos} {x1 : Nat}
def tTupO (t : TA) : TE := fun σ H Q => t σ H fun xs H1 => xs.length ≤ sizeLine ∧ ∀ p, H1 p = none → Q (.ref p) (upd H1 p (TupO p xs))
theorem pe_tupO (h : PA X es t) : PE X (.Tuple es x1 pos) (tTupO t) := by
  refine ⟨fun pins s σ H Q I hq => ?_⟩
  refine wpAny_Tuple_spliced (thn (h.run pos pins s σ H _ I hq) fun us s1 ⟨xs, H1, I1, r, z, q⟩ => ⟨by rw [← r.length]; exact z, ?_⟩)
  exact ⟨.ref s1.heap.objs.size, upd H1 s1.heap.objs.size (TupO s1.heap.objs.size xs), I1.laid (t' := s1.toks) (fun b u e => Heap.get?_push_of_some _ e) (Nat.le_refl _) (tupO_new ⟨z, us, _, r, Heap.get?_push_size _ rfl⟩), rfl, q _ (I1.hok.fresh (Nat.le_refl _))⟩
/-- tuple(xs), xs a list -/
def kTupO (K : PySem.W.Frag) (x : V) (H : Hp) (Q : VK) : Prop := ∃ p xs, x = .ref p ∧ SqL K H p xs ∧ ∀ q, H q = none → Q (.ref q) (upd H q (TupO q xs))
theorem rl_tupO {K : PySem.W.Frag} (hK : X.K = K) (pins : List (Addr × Obj)) (s : Shared) (σ : L2.St) (H : Hp) (x : V) (v : Value) (Q : VK) (I : Inv X pins σ H s) (r : RelV x v) (h : kTupO K x H Q) :
    wpAny (model X.prog X.w) X.A (call (.type "tuple") [v]) (EP X pins σ Q) X.xe s := by
  subst hK
  obtain ⟨p, xs, rfl, hs, q⟩ := h
  obtain rfl : v = .ref p := r
  obtain ⟨its, rv, pl, hz⟩ := I.list hs
  refine call_tuple_list pl.isList (fun h' hk => ?_) (by rw [List.size_toArray, ← rv.length]; exact hz)
  have I1 : Inv X pins σ H { s with heap := h' } := I.kept (t' := s.toks) hk
  have I2 := I1.laid (t' := s.toks) (o := TupO h'.objs.size xs) (h' := h'.push { cls := .type "tuple", data := .seq its.toArray }) (fun b o e => Heap.get?_push_of_some _ e) (Nat.le_refl _) (tupO_new ⟨hz, its, _, rv, Heap.get?_push_size _ rfl⟩)
  exact ⟨.ref h'.objs.size, _, I2, rfl, q _ (I1.hok.fresh (Nat.le_refl _))⟩
theorem pe_tupleOfO {K : PySem.W.Frag} (hK : X.K = K) {a : Expr} {ta : TE} {p pos : Pos} (hg : Gl X "tuple") (hm : X.mg "tuple" = none) (ha : PE X a ta) (na : starEach [a] X.env = (false, eval a X.env) :: starEach [] X.env := by rfl) :
    PE X (.Call (.Name "tuple" p) [a] [] pos) (tThen ta (kTupO K)) := by
  refine ⟨fun pins s σ H Q I h => ?_⟩
  exact Call_ (ld_blt I hg hm boot_tuple (PyProof.Rows.callWith_type1 (one_arg ha I h (fun v s2 x H2 I2 r q => rl_tupO hK pins s2 σ H2 x v Q I2 r q) na) na))
end
def rSortedPS : List V → Hp → VK → Prop := fun vs H Q => ∃ (a : Addr) (xs : List V) (k : V → PySem.Str × Int), vs = [V.ref a] ∧ H a = some (TupO a xs) ∧ (∀ x ∈ xs, ∃ t, x = V.ref t ∧ H t = some (.tup [.str (k x).1, .int (k x).2])) ∧
  ∀ ys p, Srtd (ltS k) ys → Stb (ltS k) ys xs → H p = none → Q (.ref p) (upd H p (.lst ys))
theorem cr_sortedPS {X : Cx} : CallR X (.builtin "sorted") rSortedPS := by
  intro pins s σ H vs us Q I r h
  obtain ⟨a, xs, k, rfl, hs, hx, q⟩ := h
  obtain ⟨hz, its, n, rv, ho⟩ := tupO_get I hs
  obtain ⟨u, rfl, ru⟩ := vals1 r
  obtain rfl : u = Value.ref a := ru
  obtain ⟨e1, e2⟩ := refs_back rv fun x m => (hx x m).imp fun t e => e.1
  refine sorted_pairsS (k := fun u => k (backV u)) ho rfl rfl (by rw [← rv.length]; exact hz) (fun v hv => ?_) fun h' d out h1 h2 kp hd hn => ?_
  · obtain ⟨t, rfl⟩ := e2 v hv
    obtain ⟨t', e, ht⟩ := hx (V.ref t) (by rw [e1]; exact List.mem_map.mpr ⟨_, hv, rfl⟩)
    cases e
    obtain ⟨_, its2, r2, o2, ho2, hc2, n2, hd2⟩ := I.hok _ _ ht
    obtain ⟨u1, u2, rfl, ri, rj⟩ := vals2 r2
    obtain ⟨t1, rfl⟩ := ri
    obtain ⟨t2, rfl⟩ := rj
    exact ⟨t, o2, t1, t2, n2, rfl, ho2, hc2, hd2⟩
  · have h3 : ∀ u ∈ out, ∃ a, u = Value.ref a := fun u hu => e2 u (h2.perm.mem_iff.mp hu)
    obtain ⟨m, hn⟩ := hn
    have hb : Stb (ltS k) (out.map backV) xs := by
      rw [e1]
      exact Stb.map (swo_lexS k) backV h2
    exact ⟨.ref d, upd H d (.lst (out.map backV)), I.laid (t' := s.toks) kp hd ⟨by rw [hb.len]; exact hz, out, m, vals_back h3, hn⟩, rfl, q _ d (srtd_map h1) hb (I.hok.fresh hd)⟩
theorem pairsV_of {X : Cx} {pins : List (Addr × Obj)} {σ : L2.St} {H : Hp} {s : Shared} (I : Inv X pins σ H s) : ∀ {ps : List Addr} {kvs : List (L2.Key × V)}, Paired (fun p kv => SqT X.K H p [kV kv.1, kv.2]) ps kvs →
    ∃ (prs : List (L2.Key × Value)) (pvs : List (Value × Value)), KV kvs prs ∧ pvs.length = ps.length ∧ prs.length = ps.length ∧
      ∀ (j : Nat) k v, pvs[j]? = some (k, v) → (∃ b, ps[j]? = some b ∧ PairAt s.heap b k v) ∧ ∃ key, prs[j]? = some (key, v) ∧ (mixKind X.prog X.w).is key k = true
  | _, _, .nil => ⟨[], [], .nil, rfl, rfl, fun j k v e => by simp at e⟩
  | _, _, .cons (a := p) (b := kv) h t => by
    obtain ⟨prs, pvs, r, l1, l2, hp⟩ := pairsV_of I t
    obtain ⟨its, rv, ht, _⟩ := I.tuple h
    obtain ⟨u, y, ei, ru, ry⟩ := vals2 rv
    subst ei
    refine ⟨(kv.1, y) :: prs, (u, y) :: pvs, .cons ⟨rfl, ry⟩ r, congrArg Nat.succ l1, congrArg Nat.succ l2, fun j k v e => ?_⟩
    cases j with
    | zero =>
      cases Option.some.inj e
      exact ⟨⟨p, rfl, .inl ht⟩, kv.1, rfl, kV_is (P := X.prog) (w := X.w) ru⟩
    | succ j => exact hp j k v e
/-- dict(t), t a tuple of pairs -/
def rDictO (K : PySem.W.Frag) : List V → Hp → VK → Prop := fun vs H Q => ∃ (a : Addr) (ps : List Addr) (kvs : List (L2.Key × V)), vs = [.ref a] ∧ H a = some (TupO a (ps.map V.ref)) ∧ Paired (fun p kv => SqT K H p [kV kv.1, kv.2]) ps kvs ∧
  ∀ p, H p = none → Q (.ref p) (upd H p (.dK (mergeK [] kvs)))
theorem call_dictO {X : Cx} (hcalm : X.calm = true) : CallR X (.type "dict") (rDictO X.K) := by
  intro pins s σ H vs us Q I r h
  obtain ⟨a, ps, kvs, rfl, hs, hp, q⟩ := h
  obtain ⟨hz, its, n, rv, ho⟩ := tupO_get I hs
  obtain ⟨u, rfl, ru⟩ := vals1 r
  obtain rfl : u = Value.ref a := ru
  have ei := refs_at rv
  subst ei
  rw [List.length_map] at hz
  obtain ⟨prs, pvs, rel, l1, l2, hpr⟩ := pairsV_of I hp
  have hq : ∀ j, j < ps.length → ∃ k v, pvs[j]? = some (k, v) := fun j hj => ⟨_, _, List.getElem?_eq_getElem (by omega)⟩
  refine PySem.call_dict_pairs (knd := mixKind X.prog X.w) (kvs := prs) (PairArg.tuple a (ps.map Value.ref).toArray (fun j => ps.getD j 0) pvs) (I.ok.hd hcalm)
    ⟨⟨_, n, ho, rfl, rfl, rfl⟩, by rw [List.size_toArray, List.length_map, l1], fun j k v e => ?_⟩ ⟨by omega, fun i key v e => ?_⟩ (by omega) fun h' tk hd' k => ?_
  · obtain ⟨⟨b, hb, hat⟩, _⟩ := hpr j k v e
    have e2 : ps.getD j 0 = b := by rw [List.getD_eq_getElem?_getD, hb]; rfl
    show (ps.map Value.ref).toArray[j]? = some (Value.ref (ps.getD j 0)) ∧ PairAt s.heap (ps.getD j 0) k v
    rw [e2]
    exact ⟨by simp [hb], hat⟩
  · obtain ⟨_, key', e1, e2⟩ := hpr i key v e
    exact ⟨key', e1, e2⟩
  · have hm : (s.heap.objs.size == sysModules) = false := beq_eq_false_iff_ne.mpr (Nat.ne_of_gt I.big)
    have hlen : (mergeK [] kvs).length ≤ sizeLine := by
      refine Nat.le_trans (length_mergeK kvs []) ?_
      rw [List.length_nil, Nat.zero_add, rel.length, l2]
      exact hz
    exact ⟨.ref s.heap.objs.size, upd H s.heap.objs.size (.dK (mergeK [] kvs)), I.laid (t' := tk) (fun b o e => k b o (by simp) e) (Nat.le_refl _) (show ObjOk X.prog X.w _ _ _ (.dK (mergeK [] kvs)) from ⟨hlen, hm, merged [] prs, KV.merge rel .nil, hd'⟩), rfl, q _ (I.hok.fresh (Nat.le_refl _))⟩
/-- what is sorted already stays as it is -/
theorem sorted_same {k : V → PySem.Str × Int} {xs ys : List V} (hx : xs.Pairwise fun x y => (k x).1.cps.toList < (k y).1.cps.toList) (hs : Srtd (ltS k) ys) (hb : Stb (ltS k) ys xs) : ys = xs := by
  refine stb_uniq (swo_lexS k) hs ?_ hb
  refine hx.imp fun {x y} h => ?_
  have ne : ¬ (k x).1 = (k y).1 := fun e => by rw [e] at h; exact List.lt_irrefl _ h
  show lexS (k y) (k x) = false
  unfold lexS
  rw [if_neg (Ne.symm ne), decide_eq_false_iff_not]
  exact fun w => List.lt_irrefl _ (List.lt_trans h w)
/-- a dict comprehension over a list that stays -/
theorem dc_list {K : PySem.W.Frag} {a : Addr} {xs : List V} {g : TG} {tt : TT} {tk tv : TE} {vs : List Nat} {σ : L2.St} {H1 : Hp} {D : Addr} {Qd : Hp → Prop} (Pv : Nat → Hp → Prop) (h0 : Pv 0 (upd H1 D (.dK []))) (hl : ∀ i H, i ≤ xs.length → Pv i H → SqL K H a xs)
    (hs : ∀ i x H, xs[i]? = some x → Pv i H → g x (wipe σ vs) H fun σ2 H2 => wipe σ2 vs = wipe σ vs ∧ tt σ2 H2 fun b H3 =>
      if b = true then tk σ2 H3 fun y H4 => tv σ2 H4 fun z H5 => ∃ kvs k, y = kV k ∧ H5 D = some (.dK kvs) ∧ kvs.length < sizeLine ∧ Pv (i + 1) (upd H5 D (.dK (putK kvs k z))) else Pv (i + 1) H3) (hd : ∀ H, Pv xs.length H → Qd H) :
    ∃ W : Nat → Nat → Hp → Prop, (∃ m, W 0 m (upd H1 D (.dK []))) ∧ ∀ i m H, W i m H →
      ((Itl K a).stop i H ∧ Qd H) ∨ ((Itl K a).go i H ∧ ∃ Nx : Hp → Prop, (∀ H', Nx H' → ∃ m', m' < m ∧ W (i + 1) m' H') ∧ ∀ x H', (Itl K a).yld i H x H' → g x (wipe σ vs) H' fun σ2 H2 => wipe σ2 vs = wipe σ vs ∧ tt σ2 H2 fun b H3 =>
        if b = true then tk σ2 H3 fun y H4 => tv σ2 H4 fun z H5 => ∃ kvs k, y = kV k ∧ H5 D = some (.dK kvs) ∧ kvs.length < sizeLine ∧ Nx (upd H5 D (.dK (putK kvs k z))) else Nx H3) := by
  refine ⟨fun i m H => m = xs.length - i ∧ i ≤ xs.length ∧ Pv i H, ⟨xs.length, by simp, Nat.zero_le _, h0⟩, ?_⟩
  rintro i m H ⟨rfl, hi, p⟩
  have q := hl i H hi p
  by_cases hlt : i < xs.length
  · refine .inr ⟨⟨xs, xs[i], q, by simp [hlt]⟩, Pv (i + 1), fun H' p' => ⟨xs.length - (i + 1), by omega, rfl, hlt, p'⟩, fun x H' y => ?_⟩
    obtain ⟨e, y⟩ := y
    subst e
    exact hs i x _ (y xs q) p
  · have e : i = xs.length := by omega
    subst e
    exact .inl ⟨⟨xs, q, Nat.le_refl _⟩, hd H p⟩
end Mc
namespace Mc
open PySem L2 PySem.Spec PyProof.Rows
theorem erase_at [DecidableEq α] {k : α} : ∀ {xs : List α}, k ∈ xs → ∃ j, xs[j]? = some k ∧ (∀ m : Nat, m < j → ∀ y, xs[m]? = some y → y ≠ k) ∧ xs.eraseIdx j = xs.erase k
  | x :: xs, h => by
    by_cases e : x = k
    · exact ⟨0, by rw [e]; rfl, fun m z => absurd z (Nat.not_lt_zero _), by rw [e]; simp⟩
    · obtain ⟨j, a, b, c⟩ := erase_at (xs := xs) ((List.mem_cons.mp h).resolve_left fun z => e z.symm)
      refine ⟨j + 1, a, fun m hm y hy => ?_, by rw [List.erase_cons_tail (by simpa using e), List.eraseIdx_cons_succ, c]⟩
      cases m with
      | zero => cases Option.some.inj hy; exact e
      | succ m => exact b m (Nat.lt_of_succ_lt_succ hm) y hy
theorem eraseIdx_map' (f : α → β) : ∀ (l : List α) (j : Nat), (l.map f).eraseIdx j = (l.eraseIdx j).map f
  | [], _ => by simp
  | _ :: _, 0 => by simp
  | _ :: r, j + 1 => by simp [eraseIdx_map' f r j]
def isS (k : PySem.Str) : Value → Bool
  | .str y _ => y.cps.toList == k.cps.toList
  | _ => false
section
variable {X : Cx}
def rRemS : V → List V → Hp → VK → Prop := fun x vs H Q => ∃ (l : Addr) (xs : List PySem.Str) (k : PySem.Str), x = .ref l ∧ vs = [.str k] ∧ H l = some (.lst (xs.map V.str)) ∧ k ∈ xs ∧ Q .non (upd H l (.lst ((xs.erase k).map V.str)))
theorem mt_removeS : MtM X "list.remove" rRemS := by
  intro pins s σ H x vs v us Q I rx rv ⟨l, xs, k, ex, ev, hl, hk, q⟩
  subst ex; subst ev; cases rx
  obtain ⟨u, eu, ⟨t, et⟩⟩ := rv.one
  subst eu; subst et
  obtain ⟨_, its, n, r, hlen, hg⟩ := I.lstM hl
  obtain ⟨j, a, b, c⟩ := erase_at hk
  have look : ∀ (i : Nat) (w : Value), its[i]? = some w → ∃ y t', xs[i]? = some y ∧ w = .str y t' := by
    intro i w hw
    cases hx : xs[i]? with
    | none => rw [r.none_of (by rw [List.getElem?_map, hx]; rfl)] at hw; cases hw
    | some y =>
      obtain ⟨w', h1, ⟨t', h2⟩⟩ := r.get (i := i) (x := .str y) (by rw [List.getElem?_map, hx]; rfl)
      rw [hw] at h1; cases h1
      exact ⟨y, t', rfl, h2⟩
  have lenx : its.length = xs.length := by rw [← r.length, List.length_map]
  have hj : j < xs.length := (List.getElem?_eq_some_iff.mp a).1
  have hj' : j < its.toArray.size := by simp; omega
  refine call_meets PySem.F.slot_list_remove ⟨_, hg, rfl⟩ PySem.F.entry_list_remove (PySem.F.args_list_remove_2 _ _)
    (MeetsSeq.list_remove l its.toArray n (.str k t) (isS k) ?g1 j hj' ?g2 ?g3 (by simp at *; omega)) ⟨hg, .non, _, I.lset (its' := its.eraseIdx j) (t' := s.toks) hl hg (by simp) (r.eraseIdx j) ?g4, rfl, ?g5⟩
  case g1 =>
    intro y hy
    obtain ⟨i, hi⟩ := List.mem_iff_getElem?.mp (show y ∈ its by simpa using hy)
    obtain ⟨z, t', _, e⟩ := look i y hi
    rw [e]
    exact SeqRoads2.EqGives.str z k t' t
  case g2 =>
    obtain ⟨z, t', hz, e⟩ := look j _ (List.getElem?_eq_getElem (by omega : j < its.length))
    rw [a] at hz; cases hz
    have e2 : its.toArray[j] = .str k t' := by simpa using e
    rw [e2]
    exact beq_self_eq_true k.cps.toList
  case g3 =>
    intro m hm hmj
    obtain ⟨z, t', hz, e⟩ := look m _ (List.getElem?_eq_getElem (by simpa using hm : m < its.length))
    have e2 : its.toArray[m] = .str z t' := by simpa using e
    rw [e2]
    have ne := b m hmj z hz
    refine beq_eq_false_iff_ne.mpr fun w => ne ?_
    obtain ⟨⟨z⟩⟩ := z
    obtain ⟨⟨k⟩⟩ := k
    exact congrArg (fun l => PySem.Str.mk (Array.mk l)) w
  case g4 =>
    have z2 := len_erase (xs.map V.str) j
    rw [List.length_map] at z2
    simp at *; omega
  case g5 =>
    have : (xs.map V.str).eraseIdx j = (xs.erase k).map V.str := by rw [← c, eraseIdx_map']
    rw [this]; exact q
end
end Mc
namespace Mc
open PySem L2 PySem.Spec PyProof.Rows
def inK (ys : List PySem.Str) (k : L2.Key) : Bool := ys.any fun y => decide (k = Sum.inr y)
/-- a set under way: it holds the first i of ys -/
structure Part (P : Program) (w : World) (ys : List PySem.Str) (a : Addr) (h : Heap) (i : Nat) (c : Nat) : Prop where
  of : h.SetOf (mixKind P w) a (inK (ys.take i)) c
  le : c ≤ i
  nd : ys.Nodup → c = i
  dn : c = i → (ys.take i).Nodup
abbrev so (b : Bool) : Obj := { cls := .type "set", dict := none, data := .set #[] 0 (.fresh 0 0 b) }
section
variable {P : Program} {w : World} {A : Around} {E : Value → Shared → Prop} {s : Shared} {ys : List PySem.Str}
theorem Part.at {a : Addr} {h h' : Heap} {i c : Nat} (p : Part P w ys a h i c) (k : ∀ o, h.get? a = some o → h'.get? a = some o) : Part P w ys a h' i c := ⟨setOf_at p.of k, p.le, p.nd, p.dn⟩
theorem Part.more {a : Addr} {h : Heap} {i c : Nat} {y : PySem.Str} (p : Part P w ys a h i c) (hy : ys[i]? = some y) {h' : Heap}
    (q : h'.SetOf (mixKind P w) a (fun k' => inK (ys.take i) k' || decide (k' = Sum.inr y)) (if inK (ys.take i) (Sum.inr y) then c else c + 1)) :
    ∃ c', Part P w ys a h' (i + 1) c' := by
  have e1 : ys.take (i + 1) = ys.take i ++ [y] := by rw [List.take_add_one, hy]; rfl
  refine ⟨if inK (ys.take i) (Sum.inr y) then c else c + 1, ⟨?_, ?_, ?_, ?_⟩⟩
  rotate_left 3
  · intro e
    have le := p.le
    cases hno : inK (ys.take i) (Sum.inr y) with
    | true => rw [hno, if_pos rfl] at e; omega
    | false =>
      rw [hno, if_neg Bool.false_ne_true] at e
      rw [e1]
      refine List.nodup_append.mpr ⟨p.dn (by omega), by simp, fun a ha b hb eab => ?_⟩
      rw [List.mem_singleton.mp hb] at eab
      have : inK (ys.take i) (Sum.inr y) = true := List.any_eq_true.mpr ⟨a, ha, decide_eq_true (by rw [eab])⟩
      rw [hno] at this; cases this
  rotate_left 2
  · intro nd
    have no : inK (ys.take i) (Sum.inr y) = false := by
      refine Bool.eq_false_iff.mpr fun z => ?_
      obtain ⟨x, hx, ex⟩ := List.any_eq_true.mp z
      cases Sum.inr.inj (of_decide_eq_true ex)
      have h2 : (ys.take (i + 1)).Nodup := nd.sublist (List.take_sublist _ _)
      rw [e1] at h2
      exact (List.nodup_append.mp h2).2.2 y hx y (by simp) rfl
    rw [no, p.nd nd]; rfl
  · have e2 : (fun k' => inK (ys.take i) k' || decide (k' = Sum.inr y)) = inK (ys.take (i + 1)) := by
      funext k'
      unfold inK
      rw [e1, List.any_append]
      simp
    rw [← e2]
    exact q
  · have := p.le
    split <;> omega
theorem fill {I : Addr} {fp wr : List Addr} {G : Array GenState → Array GenState → Prop} {n : Nat} {Pv : Nat → Value → Prop} {St : Nat → Shared → Prop} {R : Result → Shared → Prop} (W : WalksS P w A.in1 I fp wr G n Pv St)
    {a : Addr} (ha : a ∉ fp) (hn : n = ys.length) (hb : n + 1 < scanBound) (hv : ∀ i v, Pv i v → ∃ y t, ys[i]? = some y ∧ v = .str y t) (fin : ∀ s' c, Moved (a :: wr) G s s' → Part P w ys a s'.heap n c → R (.ok (.ret .none)) s') :
    ∀ (k i c : Nat) (s1 : Shared), i + k = n → St i s1 → Part P w ys a s1.heap i c → Moved (a :: wr) G s s1 → codeAny (model P w) A (.builtin "set.update.loop" ⟨[.ref a, .ref I], []⟩) R s1
  | 0, i, c, s1, e, st, p, mv => codeAny_builtin F.entry_set_update_loop <| by
    cases (Nat.add_zero i).symm.trans e
    rw [Around.under_plainId F.plain_set_update_loop _]
    refine wpAny_bind (m := pyNext (.ref I)) (W.done s1 _ _ st fun s2 hm => wpAny_pure ?_)
    exact fin s2 c (mv.trans W.gtrans (hm.mono fun b z => .tail _ z)) (p.at fun o => hm.heap a o fun z => ha (W.sub _ z))
  | k + 1, i, c, s1, e, st, p, mv => codeAny_builtin F.entry_set_update_loop <| by
    rw [Around.under_plainId F.plain_set_update_loop _]
    refine wpAny_bind (m := pyNext (.ref I)) (W.item i s1 _ _ (by omega) st fun v s2 pv st2 hm => ?_)
    obtain ⟨y, t, hy, ev⟩ := hv i v pv
    subst ev
    have p2 := p.at fun o => hm.heap a o fun z => ha (W.sub _ z)
    refine wpAny_bind (m := holding [Value.str y t] (setAdd a (.str y t))) (wpAny_holding (wpAny_holding ?_))
    refine wpAny_bind ((mixKind P w).pyHash (k := Sum.inr y) (beq_self_eq_true y) ?_)
    refine wpAny_setAddHashed_of (knd := mixKind P w) (k := Sum.inr y) (s := { s2 with toks := s2.toks + 1 }) (beq_self_eq_true y) rfl p2.of (by have := p2.le; omega) fun h' but so' => wpAny_pure ?_
    obtain ⟨c', p3⟩ := p2.more hy so'
    have far : ∀ b, b ≠ a → ∀ o, s2.heap.get? b = some o → h'.get? b = some o := fun b ne o z => (but.2 b ne).trans z
    refine ⟨plainId_quiet F.plain_set_update_loop _, fill W ha hn hb hv fin k (i + 1) c' _ (by omega) ?_ p3 ?_⟩
    · exact W.frame _ s2 _ _ st2 (Nat.le_succ _) fun b hb o z => far b (fun q => ha (by rw [← q]; exact hb)) o z
    · exact mv.trans W.gtrans (((hm.mono fun b z => .tail _ z)).then_heap (Nat.le_succ _) fun b o hb z => far b (fun q => hb (by rw [q]; exact .head _)) o z)
end
section
variable {P : Program} {w : World} {A : Around} {E : Value → Shared → Prop} {s : Shared} {ys : List PySem.Str}
theorem Part.start (led : Bool) {h : Heap} {a : Addr} (ho : h.get? a = some (so led)) : Part P w ys a h 0 0 :=
  ⟨⟨_, #[], 0, _, ho, ⟨rfl, rfl, rfl⟩, rfl, (fun e he => by simp at he), (fun k => by simp [inK]), (by decide), (by rfl), rfl⟩, Nat.le_refl _, fun _ => rfl, fun _ => by simp⟩
set_option maxHeartbeats 6400000 in
theorem call_setS {l : Addr} {its : Array Value} {Q : Value → Shared → Prop} (hh : A.handled = none) (hl : s.heap.IsList l its) (hv : ∀ (i : Nat) v, its[i]? = some v → ∃ y t, ys[i]? = some y ∧ v = .str y t) (hn : its.size = ys.length) (hb : its.size + 1 < scanBound)
    (fin : ∀ (h' : Heap) (tk c : Nat), Part P w ys s.heap.objs.size h' ys.length c → (∀ b o, s.heap.get? b = some o → h'.get? b = some o) → Q (.ref s.heap.objs.size) { s with heap := h', toks := tk }) :
    wpAny (model P w) A (call (.type "set") [.ref l]) Q E s := by
  have F0 := PySem.F.called_set
  obtain ⟨cc, tl, m1⟩ := F0.mro
  have m2 := F0.made
  have m3 := F0.sub
  have m4 := F0.notType
  have m5 := F0.canCreate
  have m6 := PySem.F.typeCall_set_1 (.ref l)
  refine wpAny_call <| codeAny_of_tree <| wpAny_pure ⟨Code.quiet_builtin _ (by decide +kernel), codeAny_builtin PySem.F.entry_type_call <| by
    rw [Around.under_plain (weight_type_call_type "set" [.ref l] []) rfl]
    repeat (any_goals (first | assumption | wp_step))
    refine codeAny_mono (code_set_new_1 (.ref l) (E := E) (Q₁ := fun v s1 => ∃ led, v = .ref s.heap.objs.size ∧ s1 = { s with heap := s.heap.push (so led) }) fun led => ⟨led, rfl, rfl⟩) ?_
    intro r s1 hr
    match r, hr with
    | .error e, hr => exact hr
    | .ok (.ret v), ⟨led, e1, e2⟩ =>
      subst e1; subst e2
      have at0 : (s.heap.push (so led)).get? s.heap.objs.size = some (so led) := Heap.get?_push_size _ rfl
      have ty : Shared.TypeIs { s with heap := s.heap.push (so led) } (.ref s.heap.objs.size) "set" := ⟨_, at0, rfl⟩
      have n1 := F0.init.lookup
      have n2 := F0.init.bind (.ref s.heap.objs.size)
      repeat (any_goals (first | assumption | wp_step))
      refine codeAny_mono (codeAny_call_builtin (R := wants (fun r s2 => r = .none ∧ ∃ h' tk c, s2 = { s with heap := h', toks := tk } ∧ Part P w ys s.heap.objs.size h' ys.length c ∧ ∀ b o, s.heap.get? b = some o → h'.get? b = some o) E) F0.init.plain PySem.F.entry_set_init (check_set_init_1 ty ?_)) ?_
      rotate_left 1
      · intro r2 s2 hr2
        match r2, hr2 with
        | .error e, hr2 => exact hr2
        | .ok (.ret r), ⟨e1, h', tk, c, e2, pt, kp⟩ =>
          subst e1; subst e2
          repeat (any_goals (first | assumption | wp_step))
          exact fin h' _ c pt kp
      · have pre : ∀ b o, s.heap.get? b = some o → (s.heap.push (so led)).get? b = some o := fun b o z => Heap.get?_push_of_some _ z
        obtain ⟨ob, hob, hc, nn, hd⟩ := hl
        obtain ⟨c0, d0, dat, sl0⟩ := ob
        cases hc; cases hd
        have hob1 := pre _ _ hob
        have il : (s.heap.push (so led)).IsList l its := ⟨_, hob1, rfl, nn, rfl⟩
        have q1 := PySem.F.sub_list_set
        have q2 := PySem.F.sub_list_frozenset
        have q3 : (Value.type "list" == Value.type "dict") = false := by decide
        unfold Builtin.«set.__init__» noKeywords Builtin.Frozenset.updateFrom
        generalize hPI : pyIter = PI
        wp_walk
        cases hPI
        refine wpAny_pyIter_list il (wpAny_bind (wpAny_runValue ?_))
        have z1 : (s.heap.push (so led)).objs.size = s.heap.objs.size + 1 := Heap.size_push ..
        have z2 : l < s.heap.objs.size := Heap.lt_size hob
        have ne : l ≠ (s.heap.push (so led)).objs.size := by rw [z1]; exact Nat.ne_of_lt (Nat.lt_succ_of_lt z2)
        have out : s.heap.objs.size ∉ [(s.heap.push (so led)).objs.size, l] := by
          rw [z1]; simp only [List.mem_cons, List.not_mem_nil, or_false, not_or]; exact ⟨Nat.ne_of_lt (Nat.lt_succ_self _), Nat.ne_of_gt z2⟩
        have hd3 : A.in1.in1.in1.handled = none := by simp [hh]
        refine fill (ys := ys) ((Walks.list hd3 _ l ne its).toS) out hn hb hv ?_ its.size 0 0 _ (Nat.zero_add _) ⟨⟨_, Heap.get?_push_size _ rfl, rfl, rfl⟩, il.push _⟩ (Part.start led (Heap.get?_push_of_some _ at0)) (Moved.refl fun _ => rfl)
        rintro ⟨h', g', d', tk', os'⟩ c mv pt
        cases show g' = s.gens from mv.gens
        cases show d' = s.drawn from mv.drawn
        cases show os' = s.os from mv.os
        refine wpAny_pure (wpAny_pure ⟨rfl, h', tk', c, rfl, hn ▸ pt, fun b o z => ?_⟩)
        have lt : b < s.heap.objs.size := Heap.lt_size z
        refine mv.heap b o ?_ (Heap.get?_push_of_some _ (pre b o z))
        rw [z1]; simp only [List.mem_cons, List.not_mem_nil, or_false, not_or]; exact ⟨Nat.ne_of_lt lt, Nat.ne_of_lt (Nat.lt_succ_of_lt lt)⟩
  ⟩
end
section
variable {X : Cx}
def rSetS (K : PySem.W.Frag) (P : Program) (w : World) : List V → Hp → VK → Prop := fun xs H Q => ∃ (l : Addr) (ys : List PySem.Str), xs = [.ref l] ∧ SqL K H l (ys.map V.str) ∧ ys.length < 64 ∧
  ∀ (p : Addr) (n : Nat), H p = none → n ≤ ys.length → (ys.Nodup → n = ys.length) → Q (.ref p) (upd H p (SetK P w p (inK ys) n))
theorem cr_setS (hc : X.calm = true) : CallR X (.type "set") (rSetS X.K X.prog X.w) := by
  intro pins s σ H xs us Q I r ⟨l, ys, e, hl, h64, q⟩
  subst e
  obtain ⟨u, eu, ru⟩ := r.one
  subst eu; cases ru
  obtain ⟨its, rv, pl, hz⟩ := I.list hl
  have hlen : its.toArray.size = ys.length := by rw [List.size_toArray, ← rv.length, List.length_map]
  refine call_setS (ys := ys) (I.ok.hd hc) pl.isList (fun i v hv => ?_) hlen (by rw [hlen]; unfold scanBound; omega) fun h' tk c pt kp => ?_
  · have hv' : its[i]? = some v := by simpa using hv
    cases hy : ys[i]? with
    | none => rw [rv.none_of (by rw [List.getElem?_map, hy]; rfl)] at hv'; cases hv'
    | some y =>
      obtain ⟨v', h1, ⟨t, h2⟩⟩ := rv.get (i := i) (x := .str y) (by rw [List.getElem?_map, hy]; rfl)
      rw [hv'] at h1; cases h1
      exact ⟨y, t, rfl, h2⟩
  · have e1 : ys.take ys.length = ys := List.take_length
    have po := pt.of
    rw [e1] at po
    exact ⟨.ref _, upd H s.heap.objs.size (SetK X.prog X.w s.heap.objs.size (inK ys) c), I.laid (t' := tk) kp (Nat.le_refl _) (setK_new po), rfl, q _ c (I.hok.fresh (Nat.le_refl _)) pt.le pt.nd⟩
/-- with the word that as many items as texts means that no text stands twice -/
def rSetSN (K : PySem.W.Frag) (P : Program) (w : World) : List V → Hp → VK → Prop := fun xs H Q => ∃ (l : Addr) (ys : List PySem.Str), xs = [.ref l] ∧ SqL K H l (ys.map V.str) ∧ ys.length < 64 ∧
  ∀ (p : Addr) (n : Nat), H p = none → n ≤ ys.length → (ys.Nodup → n = ys.length) → (n = ys.length → ys.Nodup) → Q (.ref p) (upd H p (SetK P w p (inK ys) n))
theorem cr_setSN (hc : X.calm = true) : CallR X (.type "set") (rSetSN X.K X.prog X.w) := by
  intro pins s σ H xs us Q I r ⟨l, ys, e, hl, h64, q⟩
  subst e
  obtain ⟨u, eu, ru⟩ := r.one
  subst eu; cases ru
  obtain ⟨its, rv, pl, hz⟩ := I.list hl
  have hlen : its.toArray.size = ys.length := by rw [List.size_toArray, ← rv.length, List.length_map]
  refine call_setS (ys := ys) (I.ok.hd hc) pl.isList (fun i v hv => ?_) hlen (by rw [hlen]; unfold scanBound; omega) fun h' tk c pt kp => ?_
  · have hv' : its[i]? = some v := by simpa using hv
    cases hy : ys[i]? with
    | none => rw [rv.none_of (by rw [List.getElem?_map, hy]; rfl)] at hv'; cases hv'
    | some y =>
      obtain ⟨v', h1, ⟨t, h2⟩⟩ := rv.get (i := i) (x := .str y) (by rw [List.getElem?_map, hy]; rfl)
      rw [hv'] at h1; cases h1
      exact ⟨y, t, rfl, h2⟩
  · have e1 : ys.take ys.length = ys := List.take_length
    have po := pt.of
    rw [e1] at po
    exact ⟨.ref _, upd H s.heap.objs.size (SetK X.prog X.w s.heap.objs.size (inK ys) c), I.laid (t' := tk) kp (Nat.le_refl _) (setK_new po), rfl, q _ c (I.hok.fresh (Nat.le_refl _)) pt.le pt.nd fun e => by have := pt.dn e; rwa [e1] at this⟩
theorem call_lenK : CallR X (.builtin "len") (fun xs H Q => ∃ (p : Addr) (S : L2.Key → Bool) (n : Nat), xs = [.ref p] ∧ H p = some (SetK X.prog X.w p S n) ∧ n < 64 ∧ Q (.int (n : Nat)) H) := by
  intro pins s σ H xs us Q I r ⟨p, S, n, e, hp, h64, q⟩
  subst e
  obtain ⟨u, eu, ru⟩ := r.one
  subst eu; cases ru
  obtain ⟨o, es, ep, t, h1, h2, h3, _, _, _, h5, h6⟩ := setK_get I hp
  refine call_len_set h1 h2 h3 h5 (by rw [h6]; omega) ⟨.int n, H, I.tok _, ⟨_, by rw [h6]⟩, q⟩
end
end Mc
namespace Mc
section
variable {α : Type} [DecidableEq α]
structure Sc (α : Type) where
  ms : List α
  cap : α → Nat
  heard : α → List α
structure SM (α : Type) where
  pos : α → Option α
  on : α → List α
structure SOk (X : Sc α) (S : SM α) (names : List α) : Prop where
  mem : ∀ c m, S.pos c = some m ↔ c ∈ S.on m
  nd : ∀ m, (S.on m).Nodup
  cap : ∀ m, (S.on m).length ≤ X.cap m
  hd : ∀ c m, c ∈ S.on m → m ∈ X.heard c
  dom : ∀ c, (∃ m, S.pos c = some m) ↔ c ∈ names
def SM.rm (S : SM α) (c x : α) : List α := if S.pos c = some x then (S.on x).erase c else S.on x
def SM.put (S : SM α) (c m : α) : SM α := ⟨fun x => if x = c then some m else S.pos x, fun x => if x = m then S.rm c x ++ [c] else S.rm c x⟩
theorem SM.rm_sub (S : SM α) (c x : α) : ∀ y ∈ S.rm c x, y ∈ S.on x := by
  intro y h; unfold SM.rm at h; split at h
  · exact List.mem_of_mem_erase h
  · exact h
theorem SM.rm_len (S : SM α) (c x : α) : (S.rm c x).length ≤ (S.on x).length := by
  unfold SM.rm; split
  · exact List.length_erase_le
  · exact Nat.le_refl _
theorem SOk.rm_mem {X : Sc α} {S : SM α} {names : List α} (O : SOk X S names) (c x y : α) : y ∈ S.rm c x ↔ y ≠ c ∧ y ∈ S.on x := by
  unfold SM.rm; split
  case isTrue h => rw [List.Nodup.mem_erase_iff (O.nd x)]
  case isFalse h =>
    constructor
    · intro hy; exact ⟨fun e => h (by rw [← e]; exact (O.mem y x).mpr hy), hy⟩
    · exact fun h => h.2
theorem SOk.rm_nd {X : Sc α} {S : SM α} {names : List α} (O : SOk X S names) (c x : α) : (S.rm c x).Nodup := by
  unfold SM.rm; split
  · exact (O.nd x).erase _
  · exact O.nd x
theorem SOk.put {X : Sc α} {S : SM α} {names names' : List α} (O : SOk X S names) {c m : α} (hm : m ∈ X.heard c) (hr : (S.on m).length < X.cap m) (hn : ∀ x, x ∈ names' ↔ x = c ∨ x ∈ names) :
    SOk X (S.put c m) names' := by
  have hc : ∀ x, c ∉ S.rm c x := fun x h => ((O.rm_mem c x c).mp h).1 rfl
  refine ⟨fun y x => ?_, fun x => ?_, fun x => ?_, fun y x h => ?_, fun y => ?_⟩
  · show (if y = c then some m else S.pos y) = some x ↔ y ∈ (if x = m then S.rm c x ++ [c] else S.rm c x)
    by_cases e : y = c
    · subst e; rw [if_pos rfl]
      by_cases e2 : x = m
      · subst e2; simp
      · rw [if_neg e2]; exact ⟨fun z => absurd (Option.some.inj z).symm e2, fun z => absurd z (hc x)⟩
    · rw [if_neg e]
      have := O.rm_mem c x y
      by_cases e2 : x = m
      · rw [if_pos e2]; simp [e, this, O.mem]
      · rw [if_neg e2, this, O.mem]; simp [e]
  · show (if x = m then S.rm c x ++ [c] else S.rm c x).Nodup
    split
    · exact List.nodup_append.mpr ⟨O.rm_nd c x, by simp, fun a ha b hb e => by simp at hb; subst hb; subst e; exact hc x ha⟩
    · exact O.rm_nd c x
  · show (if x = m then S.rm c x ++ [c] else S.rm c x).length ≤ _
    split
    case isTrue e => subst e; rw [List.length_append]; have := S.rm_len c x; simp; omega
    case isFalse e => exact Nat.le_trans (S.rm_len c x) (O.cap x)
  · have h : y ∈ (if x = m then S.rm c x ++ [c] else S.rm c x) := h
    split at h
    case isTrue e =>
      rcases List.mem_append.mp h with h | h
      · exact O.hd _ _ (S.rm_sub c x y h)
      · simp at h; subst h; subst e; exact hm
    case isFalse e => exact O.hd _ _ (S.rm_sub c x y h)
  · show (∃ x, (if y = c then some m else S.pos y) = some x) ↔ _
    by_cases e : y = c
    · rw [if_pos e, hn]; exact ⟨fun _ => .inl e, fun _ => ⟨m, rfl⟩⟩
    · rw [if_neg e, hn, O.dom]; simp [e]
/-- a right seating of some calls -/
def Right (X : Sc α) (names : List α) (T : α → α) : Prop := (∀ c ∈ names, T c ∈ X.heard c) ∧ ∀ m, (names.filter fun c => decide (T c = m)).length ≤ X.cap m
def Seatable (X : Sc α) (names : List α) : Prop := ∃ T, Right X names T
theorem len_sub : ∀ {a b : List α}, a.Nodup → (∀ x ∈ a, x ∈ b) → a.length ≤ b.length
  | [], _, _, _ => Nat.zero_le _
  | x :: a, b, h, s => by
    have hx := List.nodup_cons.mp h
    have h1 := len_sub (a := a) (b := b.erase x) hx.2 fun y hy => (List.mem_erase_of_ne (fun e => by subst e; exact hx.1 hy)).mpr (s y (List.mem_cons_of_mem _ hy))
    have h2 := List.length_erase_of_mem (s x (by simp))
    have h3 : 0 < b.length := List.length_pos_of_mem (s x (by simp))
    simp; omega
theorem sum_le {R : List α} {f g : α → Nat} (h : ∀ m ∈ R, f m ≤ g m) : (R.map f).sum ≤ (R.map g).sum := by
  induction R with
  | nil => exact Nat.le_refl _
  | cons x R ih => simp; have := h x (by simp); have := ih fun m hm => h m (List.mem_cons_of_mem _ hm); omega
theorem sum_cnt {R : List α} (hR : R.Nodup) (T : α → α) : ∀ (A : List α), (∀ a ∈ A, T a ∈ R) → A.length ≤ (R.map fun m => (A.filter fun c => decide (T c = m)).length).sum
  | [], _ => Nat.zero_le _
  | a :: A, h => by
    have ih := sum_cnt hR T A fun x hx => h x (List.mem_cons_of_mem _ hx)
    have key : ∀ (R : List α), T a ∈ R → (R.map fun m => (A.filter fun c => decide (T c = m)).length).sum + 1 ≤ (R.map fun m => ((a :: A).filter fun c => decide (T c = m)).length).sum := by
      intro R
      induction R with
      | nil => intro h; cases h
      | cons r R ihR =>
        intro h
        simp only [List.map_cons, List.sum_cons]
        by_cases e : T a = r
        · have h1 : ((a :: A).filter fun c => decide (T c = r)).length = (A.filter fun c => decide (T c = r)).length + 1 := by rw [List.filter_cons, if_pos (decide_eq_true e)]; rfl
          have h2 : (R.map fun m => (A.filter fun c => decide (T c = m)).length).sum ≤ (R.map fun m => ((a :: A).filter fun c => decide (T c = m)).length).sum := sum_le fun m _ => by
            rw [List.filter_cons]; split <;> simp
          omega
        · have h1 : (A.filter fun c => decide (T c = r)).length ≤ ((a :: A).filter fun c => decide (T c = r)).length := by rw [List.filter_cons]; split <;> simp
          have := ihR ((List.mem_cons.mp h).resolve_left e)
          omega
    have := key R (h a (by simp))
    simp; omega
theorem no_seat {X : Sc α} {S : SM α} {names : List α} (O : SOk X S names) {c : α} (hc : c ∉ names) {R : List α} (hR : R.Nodup) (h1 : ∀ m ∈ X.heard c, m ∈ R) (h2 : ∀ m ∈ R, ¬ (S.on m).length < X.cap m)
    (h3 : ∀ m ∈ R, ∀ y ∈ S.on m, ∀ o ∈ X.heard y, o ∈ R) {names' : List α} (hn : ∀ x, x ∈ names' ↔ x ∈ names ∨ x = c) : ¬ Seatable X names' := by
  rintro ⟨T, T1, T2⟩
  have hmem : ∀ y ∈ R.flatMap S.on, y ∈ names ∧ ∃ m ∈ R, y ∈ S.on m := fun y hy => by
    obtain ⟨m, hm, hy⟩ := List.mem_flatMap.mp hy
    exact ⟨(O.dom y).mp ⟨m, (O.mem y m).mpr hy⟩, m, hm, hy⟩
  have nd : ∀ R : List α, R.Nodup → (R.flatMap S.on).Nodup := by
    intro R hR
    induction R with
    | nil => exact List.nodup_nil
    | cons r R ih =>
      have hr := List.nodup_cons.mp hR
      rw [List.flatMap_cons]
      refine List.nodup_append.mpr ⟨O.nd r, ih hr.2, fun a ha b hb e => ?_⟩
      subst e
      obtain ⟨m, hm, hb⟩ := List.mem_flatMap.mp hb
      have e1 := (O.mem a r).mpr ha
      have e2 := (O.mem a m).mpr hb
      rw [e1] at e2
      cases Option.some.inj e2
      exact hr.1 hm
  have ndA : (c :: R.flatMap S.on).Nodup := List.nodup_cons.mpr ⟨fun h => hc (hmem c h).1, nd R hR⟩
  have hA := sum_cnt hR T (c :: R.flatMap S.on) fun a ha => by
    rcases List.mem_cons.mp ha with e | e
    · subst e; exact h1 _ (T1 _ ((hn a).mpr (.inr rfl)))
    · obtain ⟨h, m, hm, hy⟩ := hmem a e
      exact h3 m hm a hy _ (T1 _ ((hn a).mpr (.inl h)))
  have hB := sum_le (R := R) (f := fun m => ((c :: R.flatMap S.on).filter fun c => decide (T c = m)).length) (g := fun m => (S.on m).length) fun m hm => by
    refine Nat.le_trans (Nat.le_trans (len_sub (b := names'.filter fun c => decide (T c = m)) (ndA.filter _) fun x hx => ?_) (T2 m)) (Nat.le_of_not_lt (h2 m hm))
    rw [List.mem_filter] at hx ⊢
    refine ⟨(hn x).mpr ?_, hx.2⟩
    rcases List.mem_cons.mp hx.1 with e | e
    · exact .inr e
    · exact .inl (hmem x e).1
  have hl : ∀ R : List α, (R.flatMap S.on).length = (R.map fun m => (S.on m).length).sum := fun R => by rw [List.length_flatMap]
  rw [List.length_cons, hl] at hA
  omega
theorem SOk.seatable {X : Sc α} {S : SM α} {names : List α} (O : SOk X S names) (hn : names.Nodup) : Seatable X names := by
  cases names with
  | nil => exact ⟨id, ⟨fun c h => (nomatch h), fun m => Nat.zero_le _⟩⟩
  | cons n ns =>
    refine ⟨fun c => (S.pos c).getD n, fun c hc => ?_, fun m => ?_⟩
    · obtain ⟨m, hm⟩ := (O.dom c).mpr hc
      show (S.pos c).getD n ∈ _
      rw [hm]; exact O.hd c m ((O.mem c m).mp hm)
    · refine Nat.le_trans (len_sub (b := S.on m) (hn.filter _) fun x hx => ?_) (O.cap m)
      rw [List.mem_filter] at hx
      obtain ⟨m', hm⟩ := (O.dom x).mpr hx.1
      have h2 : (S.pos x).getD n = m := of_decide_eq_true hx.2
      rw [hm] at h2
      exact (O.mem x m).mp (by rw [hm]; exact congrArg some h2)
/-- the search: which masts were come to, and how -/
inductive Ch (X : Sc α) (S : SM α) (c : α) : List (α × α × Option α) → Prop
  | nil : Ch X S c []
  | snoc {L : List (α × α × Option α)} {m y : α} {l : Option α} : Ch X S c L → m ∈ X.heard y → (l = none ∧ y = c ∨ ∃ m', l = some m' ∧ m' ∈ L.map (·.1) ∧ y ∈ S.on m') → m ∉ L.map (·.1) → Ch X S c (L ++ [(m, y, l)])
theorem Ch.nodup {X : Sc α} {S : SM α} {c : α} {L : List (α × α × Option α)} (h : Ch X S c L) : (L.map (·.1)).Nodup := by
  induction h with
  | nil => exact List.nodup_nil
  | snoc _ _ _ hn ih => rw [List.map_append]; exact List.nodup_append.mpr ⟨ih, by simp, fun a ha b hb e => by simp at hb; subst hb; subst e; exact hn ha⟩
theorem Ch.at {X : Sc α} {S : SM α} {c : α} {L : List (α × α × Option α)} (h : Ch X S c L) {m : α} (hm : m ∈ L.map (·.1)) :
    ∃ L1 y l L2, L = L1 ++ (m, y, l) :: L2 ∧ Ch X S c L1 ∧ m ∈ X.heard y ∧ (l = none ∧ y = c ∨ ∃ m', l = some m' ∧ m' ∈ L1.map (·.1) ∧ y ∈ S.on m') ∧ m ∉ L1.map (·.1) := by
  induction h with
  | nil => cases hm
  | @snoc L m2 y l hL h1 h2 h3 ih =>
    rw [List.map_append, List.mem_append] at hm
    rcases hm with hm | hm
    · obtain ⟨L1, y', l', L2, e, r⟩ := ih hm
      exact ⟨L1, y', l', L2 ++ [(m2, y, l)], by rw [e]; simp, r⟩
    · simp at hm; subst hm
      exact ⟨L, y, l, [], rfl, hL, h1, h2, h3⟩
/-- the way back: what holds ahead of each move -/
structure Lead (X : Sc α) (S : SM α) (c : α) (L : List (α × α × Option α)) (S' : SM α) (names : List α) (m : α) (n : Nat) : Prop where
  ok : SOk X S' names
  c0 : c ∉ names
  ch : Ch X S c L
  room : (S'.on m).length < X.cap m
  here : m ∈ L.map (·.1)
  pre : ∀ L1 y l L2, L = L1 ++ (m, y, l) :: L2 → L1.length < n ∧ ∀ x ∈ L1.map (·.1), S'.on x = S.on x
theorem Lead.step {X : Sc α} {S : SM α} {c : α} {L : List (α × α × Option α)} {S' : SM α} {names : List α} {m : α} {n : Nat} (I : Lead X S c L S' names m n) :
    ∃ y l, (m, y, l) ∈ L ∧ m ∈ X.heard y ∧ (l = none ∧ y = c ∧ SOk X (S'.put y m) (names ++ [c]) ∨ ∃ m' k, l = some m' ∧ k < n ∧ Lead X S c L (S'.put y m) names m' k) := by
  obtain ⟨L1, y, l, L2, e, hc1, hm, hl, hn⟩ := I.ch.at I.here
  refine ⟨y, l, by rw [e]; simp, hm, ?_⟩
  obtain ⟨hk, hp⟩ := I.pre _ _ _ _ e
  rcases hl with ⟨rfl, rfl⟩ | ⟨m', rfl, hm', hy⟩
  · exact .inl ⟨rfl, rfl, I.ok.put hm I.room fun x => by simp; exact Or.comm⟩
  · right
    obtain ⟨La, ya, la, Lb, ea, ca, _⟩ := hc1.at hm'
    have hy' : y ∈ S'.on m' := by rw [hp m' hm']; exact hy
    have py : S'.pos y = some m' := (I.ok.mem y m').mpr hy'
    have yn : y ∈ names := (I.ok.dom y).mp ⟨m', py⟩
    have mne : m' ≠ m := fun z => hn (by rw [← z]; exact hm')
    refine ⟨m', L1.length, rfl, hk, I.ok.put hm I.room fun x => ⟨fun h => .inr h, fun h => h.elim (fun e => by rw [e]; exact yn) id⟩, I.c0, I.ch, ?_, ?_, ?_⟩
    · show (if m' = m then S'.rm y m' ++ [y] else S'.rm y m').length < _
      rw [if_neg mne]
      unfold SM.rm
      rw [if_pos py, List.length_erase_of_mem hy']
      have := I.ok.cap m'
      have : 0 < (S'.on m').length := List.length_pos_of_mem hy'
      omega
    · rw [e, ea]; simp
    · intro La' ya' la' Lb' e'
      have nd := I.ch.nodup
      -- the place of m' is one only
      have hLa : La' = La := by
        have e1 : L = La ++ (m', ya, la) :: (Lb ++ (m, y, some m') :: L2) := by rw [e, ea]; simp
        have nd1 := nd
        rw [e'] at nd
        rw [e1] at nd1
        have key : ∀ (A A' : List (α × α × Option α)) (z z' : α × Option α) (B B' : List (α × α × Option α)), A ++ (m', z) :: B = A' ++ (m', z') :: B' → m' ∉ A.map (·.1) → m' ∉ A'.map (·.1) → A = A' := by
          intro A
          induction A with
          | nil =>
            intro A' z z' B B' h _ h2
            cases A' with
            | nil => rfl
            | cons a A' => simp at h; exact absurd (by rw [← h.1]; simp) h2
          | cons a A ih =>
            intro A' z z' B B' h h1 h2
            cases A' with
            | nil => simp at h; exact absurd (by rw [h.1]; simp) h1
            | cons a' A' =>
              simp only [List.cons_append, List.cons.injEq] at h
              rw [h.1, ih A' z z' B B' h.2 (fun q => h1 (List.mem_cons_of_mem _ q)) (fun q => h2 (List.mem_cons_of_mem _ q))]
        have n1 : m' ∉ La.map (·.1) := by
          rw [List.map_append] at nd1
          intro q
          exact (List.nodup_append.mp nd1).2.2 m' q m' (by simp) rfl
        have n2 : m' ∉ La'.map (·.1) := by
          rw [List.map_append] at nd
          intro q
          exact (List.nodup_append.mp nd).2.2 m' q m' (by simp) rfl
        exact key La' La _ _ _ _ (e'.symm.trans e1) n2 n1
      subst hLa
      have nd1 := hc1.nodup
      rw [ea, List.map_append] at nd1
      refine ⟨by rw [ea]; simp, fun x hx => ?_⟩
      have xm' : x ≠ m' := fun z => (List.nodup_append.mp nd1).2.2 x hx m' (by simp) z
      have hxL : x ∈ L1.map (·.1) := by rw [ea, List.map_append]; exact List.mem_append_left _ hx
      have xm : x ≠ m := fun z => hn (by rw [← z]; exact hxL)
      show (if x = m then S'.rm y x ++ [y] else S'.rm y x) = S.on x
      rw [if_neg xm]
      unfold SM.rm
      rw [if_neg (fun z => xm' (by rw [py] at z; exact (Option.some.inj z).symm))]
      exact hp x hxL
end
end Mc
namespace Mc
open PySem L2 PySem.Spec PyProof.Rows
/-- a statement that is never come to -/
theorem ps_no {X : Cx} {st : Stmt} : PS X st (fun _ _ _ => False) := ⟨fun _ _ _ _ _ _ h => h.elim⟩
theorem dc_it {J : It} {n : Nat} {G : Hp → Prop} {Y : Nat → Hp → V → Hp → Prop} (w : Walk J n G Y) {g : TG} {tt : TT} {tk tv : TE} {vs : List Nat} {σ : L2.St} {H1 : Hp} {D : Addr} {Qd : Hp → Prop} (Pv : Nat → Hp → Prop) (h0 : Pv 0 (upd H1 D (.dK [])))
    (hG : ∀ i H, i ≤ n → Pv i H → G H)
    (hs : ∀ i x H H', i < n → Pv i H → Y i H x H' → g x (wipe σ vs) H' fun σ2 H2 => wipe σ2 vs = wipe σ vs ∧ tt σ2 H2 fun b H3 =>
      if b = true then tk σ2 H3 fun y H4 => tv σ2 H4 fun z H5 => ∃ kvs k, y = kV k ∧ H5 D = some (.dK kvs) ∧ kvs.length < sizeLine ∧ Pv (i + 1) (upd H5 D (.dK (putK kvs k z))) else Pv (i + 1) H3) (hd : ∀ H, Pv n H → Qd H) :
    ∃ W : Nat → Nat → Hp → Prop, (∃ m, W 0 m (upd H1 D (.dK []))) ∧ ∀ i m H, W i m H →
      (J.stop i H ∧ Qd H) ∨ (J.go i H ∧ ∃ Nx : Hp → Prop, (∀ H', Nx H' → ∃ m', m' < m ∧ W (i + 1) m' H') ∧ ∀ x H', J.yld i H x H' → g x (wipe σ vs) H' fun σ2 H2 => wipe σ2 vs = wipe σ vs ∧ tt σ2 H2 fun b H3 =>
        if b = true then tk σ2 H3 fun y H4 => tv σ2 H4 fun z H5 => ∃ kvs k, y = kV k ∧ H5 D = some (.dK kvs) ∧ kvs.length < sizeLine ∧ Nx (upd H5 D (.dK (putK kvs k z))) else Nx H3) := by
  refine ⟨fun i m H => i + m = n ∧ Pv i H, ⟨n, by omega, h0⟩, fun i m H ⟨e, p⟩ => ?_⟩
  cases m with
  | zero =>
    cases (Nat.add_zero i).symm.trans e
    exact .inl ⟨w.stops H (hG _ H (Nat.le_refl _) p), hd H p⟩
  | succ m =>
    have lt : i < n := by omega
    have q := hG i H (Nat.le_of_lt lt) p
    exact .inr ⟨w.goes i H lt q, fun H' => Pv (i + 1) H', fun H' p' => ⟨m, Nat.lt_succ_self m, by omega, p'⟩, fun x H' y => hs i x H H' lt p (w.yields i H x H' lt q y)⟩
/-! dicts whose keys are texts -/
section
variable {β : Type} {f : β → V} {l : List (PySem.Str × β)} {k : PySem.Str} {v : β}
def kvT (f : β → V) (l : List (PySem.Str × β)) : List (L2.Key × V) := l.map fun x => (Sum.inr x.1, f x.2)
def getT (l : List (PySem.Str × β)) (k : PySem.Str) : Option β := (l.find? fun x => decide (x.1 = k)).map (·.2)
def keysT (l : List (PySem.Str × β)) : List PySem.Str := l.map (·.1)
theorem kvT_app (l' : List (PySem.Str × β)) : kvT f (l ++ l') = kvT f l ++ kvT f l' := List.map_append
theorem getT_nil : getT ([] : List (PySem.Str × β)) k = none := rfl
theorem getT_cons (x : PySem.Str × β) : getT (x :: l) k = if x.1 = k then some x.2 else getT l k := by
  unfold getT
  rw [List.find?_cons]
  by_cases e : x.1 = k
  · rw [decide_eq_true e, if_pos e]; rfl
  · rw [decide_eq_false e, if_neg e]
theorem val_T : valV (kvT f l) (Sum.inr k : L2.Key) = (getT l k).map f := by
  induction l with
  | nil => rfl
  | cons x l ih =>
    rw [getT_cons]
    by_cases e : x.1 = k
    · rw [if_pos e]
      exact valV_pos (p := ((Sum.inr x.1 : L2.Key), f x.2)) (congrArg Sum.inr e)
    · rw [if_neg e, ← ih]
      exact valV_neg (p := ((Sum.inr x.1 : L2.Key), f x.2)) fun z => e (Sum.inr.inj z)
theorem getT_in (h : getT l k = some v) : (k, v) ∈ l := by
  induction l with
  | nil => cases h
  | cons x l ih =>
    rw [getT_cons] at h
    by_cases e : x.1 = k
    · rw [if_pos e] at h
      cases Option.some.inj h
      rw [← e]; exact .head _
    · rw [if_neg e] at h
      exact .tail _ (ih h)
theorem getT_mem (nd : (keysT l).Nodup) (h : (k, v) ∈ l) : getT l k = some v := by
  induction l with
  | nil => cases h
  | cons x l ih =>
    have nd' := List.nodup_cons.mp nd
    rw [getT_cons]
    rcases List.mem_cons.mp h with e | e
    · rw [← e, if_pos rfl]
    · rw [if_neg fun z => nd'.1 (by show x.1 ∈ _; rw [z]; exact List.mem_map.mpr ⟨_, e, rfl⟩)]
      exact ih nd'.2 e
theorem getT_none : getT l k = none ↔ k ∉ keysT l := by
  induction l with
  | nil => exact ⟨fun _ h => (nomatch h), fun _ => rfl⟩
  | cons x l ih =>
    rw [getT_cons]
    by_cases e : x.1 = k
    · rw [if_pos e]
      exact ⟨fun h => (nomatch h), fun h => absurd (by rw [← e]; exact .head _) h⟩
    · rw [if_neg e, ih]
      exact ⟨fun h z => (List.mem_cons.mp z).elim (fun q => e q.symm) h, fun h z => h (.tail _ z)⟩
theorem getT_key (h : k ∈ keysT l) : ∃ v, getT l k = some v := by
  cases e : getT l k with
  | none => exact absurd h (getT_none.mp e)
  | some v => exact ⟨v, rfl⟩
theorem put_new (h : k ∉ keysT l) : putK (kvT f l) (Sum.inr k : L2.Key) (f v) = kvT f (l ++ [(k, v)]) := by
  rw [putK_new _ (by rw [val_T, getT_none.mpr h]; rfl), kvT_app]; rfl
theorem put_old (h : k ∈ keysT l) : putK (kvT f l) (Sum.inr k : L2.Key) (f v) = kvT f (l.map fun x => if x.1 = k then (x.1, v) else x) := by
  unfold putK
  rw [if_pos (by
    obtain ⟨v', hv⟩ := getT_key h
    rw [valV_any, val_T, hv]; rfl)]
  unfold kvT
  rw [List.map_map, List.map_map]
  refine List.map_congr_left fun x _ => ?_
  show (if (Sum.inr x.1 : L2.Key) = Sum.inr k then _ else _) = _
  by_cases e : x.1 = k
  · rw [if_pos (congrArg Sum.inr e)]
    show _ = ((Sum.inr (if x.1 = k then (x.1, v) else x).1 : L2.Key), f (if x.1 = k then (x.1, v) else x).2)
    rw [if_pos e]
  · rw [if_neg fun z => e (Sum.inr.inj z)]
    show _ = ((Sum.inr (if x.1 = k then (x.1, v) else x).1 : L2.Key), f (if x.1 = k then (x.1, v) else x).2)
    rw [if_neg e]
theorem drop_T : dropK (kvT f l) (Sum.inr k : L2.Key) = kvT f (l.filter fun x => decide (x.1 ≠ k)) := by
  unfold dropK kvT
  rw [List.filter_map]
  congr 1
  refine List.filter_congr fun x _ => ?_
  show decide ((Sum.inr x.1 : L2.Key) ≠ Sum.inr k) = decide (x.1 ≠ k)
  simp
/-- the items in another turn of the keys -/
theorem perm_T [Inhabited β] (nd : (keysT l).Nodup) {ys : List PySem.Str} (h : ys.Perm (keysT l)) : (ys.map fun y => (y, (getT l y).getD default)).Perm l := by
  refine (h.map _).trans ?_
  have e : (keysT l).map (fun y => (y, (getT l y).getD default)) = l := by
    unfold keysT
    rw [List.map_map]
    refine (List.map_congr_left fun x hx => ?_).trans (List.map_id l)
    show (x.1, (getT l x.1).getD default) = x
    rw [getT_mem nd (v := x.2) hx]; rfl
  rw [e]
end
theorem kvT_get {β : Type} {f : β → V} {l : List (PySem.Str × β)} {i : Nat} {k : L2.Key} {v : V} (h : (kvT f l)[i]? = some (k, v)) : ∃ x, l[i]? = some x ∧ k = Sum.inr x.1 ∧ v = f x.2 := by
  unfold kvT at h
  rw [List.getElem?_map] at h
  cases e : l[i]? with
  | none => rw [e] at h; cases h
  | some x => rw [e] at h; cases Option.some.inj h; exact ⟨x, rfl, rfl, rfl⟩
theorem un_same {H H' : Hp} {d : Addr} {od : Obj} {u : HO} (s : Same (upd H d (.frz od u)) H') (h : H d = some u) : Same H (upd H' d u) := fun b o z => by
  by_cases e : b = d
  · subst e; rw [h] at z; cases z; exact upd_same
  · rw [upd_ne e]; exact s b o (by rw [upd_ne e]; exact z)
theorem keysT_kv {β : Type} {f : β → V} (l : List (PySem.Str × β)) : (kvT f l).map (·.1) = (keysT l).map Sum.inr := by
  unfold kvT keysT; rw [List.map_map, List.map_map]; rfl
theorem dgetT {β : Type} {f : β → V} {l : List (PySem.Str × β)} {k : PySem.Str} {v : β} {H : Hp} {a : Addr} (h : Rd H a (.dK (kvT f l))) (e : getT l k = some v) : DGet H a (.str k) (some (f v)) := .inl ⟨_, Sum.inr k, h, rfl, by rw [val_T, e]; rfl⟩
theorem dgetN {β : Type} {f : β → V} {l : List (PySem.Str × β)} {k : PySem.Str} {H : Hp} {a : Addr} (h : Rd H a (.dK (kvT f l))) : DGet H a (.str k) ((getT l k).map f) := .inl ⟨_, Sum.inr k, h, rfl, val_T.symm⟩
theorem nd_take {α : Type} {ys : List α} {i : Nat} {m : α} (nd : ys.Nodup) (hi : ys[i]? = some m) : m ∉ ys.take i := by
  have h2 : (ys.take (i + 1)).Nodup := nd.sublist (List.take_sublist _ _)
  rw [List.take_add_one, hi] at h2
  exact fun z => (List.nodup_append.mp h2).2.2 m z m (by simp) rfl
theorem keysT_mk {β : Type} {g : PySem.Str → β} (ys : List PySem.Str) : keysT (ys.map fun y => (y, g y)) = ys := by
  unfold keysT; rw [List.map_map]; exact List.map_id ys
theorem put_mk {β : Type} {f : β → V} {g : PySem.Str → β} {ys : List PySem.Str} {i : Nat} {m : PySem.Str} (nd : ys.Nodup) (hi : ys[i]? = some m) :
    putK (kvT f ((ys.take i).map fun y => (y, g y))) (Sum.inr m : L2.Key) (f (g m)) = kvT f ((ys.take (i + 1)).map fun y => (y, g y)) := by
  rw [put_new (by rw [keysT_mk]; exact nd_take nd hi), List.take_add_one, hi, List.map_append]; rfl
theorem len_mk {β : Type} {f : β → V} {g : PySem.Str → β} {ys : List PySem.Str} {i : Nat} (h : ys.length < 64) : (kvT f ((ys.take i).map fun y => (y, g y))).length < sizeLine := by
  unfold kvT; rw [List.length_map, List.length_map, List.length_take]
  exact Nat.lt_of_le_of_lt (Nat.min_le_right _ _) (Nat.lt_of_lt_of_le h (by decide))
theorem via {α : Type} {R G : α → Prop} {g : Prop} (h : (∀ x, R x → G x) → g) (t : ∀ x, R x → G x) : g := h t
end Mc
namespace Mc
open PySem L2 PySem.Spec PyProof.Rows
def top (i : Nat) : Stmt := PySem.Challenge.pw_mastcalls_k41_whole_takes_over.main.body.getD i (.Pass ⟨0, 0, 0, 0⟩)
/-! ### the draws -/
abbrev sNum : Stmt := top 21
abbrev sTake : Stmt := top 22
def spNum (K : PySem.W.Frag) : Sp := fun vs H Q _ => ∃ (a : Addr) (ns : List Int) (k : Int), vs = [.ref a, .int k] ∧ SqL K H a (ns.map V.int) ∧ ns.length ≤ 63 ∧
  ∀ (v : Int) (H' : Hp), 0 ≤ v → Same H H' → Q (.int v) H'
def spTake (K : PySem.W.Frag) : Sp := fun vs H Q _ => ∃ (M : List Addr) (d a : Addr) (m : Int), vs = [.ref d, .int m] ∧ Dr K M d a H ∧ 0 < m ∧
  ∀ (v : Int) (H' : Hp), 0 ≤ v → v < m → Dr K M d a H' → Kp [d] H H' → Q (.int v) H'
/-- what the draws ask of the module -/
structure TxD (K : PySem.W.Frag) (mg : Str → Option Value) (fN fT : Addr) : Prop where
  len : mg "len" = none
  int : mg "int" = none
  abs : mg "abs" = none
  num : mg "_law_number" = some (.ref fN)
  take : mg "_law_take" = some (.ref fT)
section
variable {P : Program} {w : World} {K : PySem.W.Frag} {mg : Str → Option Value} {base : Heap}
theorem scNum : FnScope ["script", "index", "cell", "blend"] ["script", "index"] (defScope sNum) := ⟨rfl, rfl, rfl, by decide +kernel, rfl, by decide +kernel, by decide +kernel⟩
theorem ok_num {f fN fT : Addr} {fd : FuncData} (F : Fun K "_law_number" "_law_number" sNum f fd) (T : TxD K mg fN fT) : FnOk P w K mg base CX0 1 f fd ["script", "index"] (spNum K) := by
  refine F.ok scNum (fun vs H Q E h => ?_) (fun cdv A outer s H vs Q E hr h => ?_)
  · obtain ⟨a, ns, k, rfl, _⟩ := h
    rfl
  · obtain ⟨a, ns, k, rfl, hS, hl, q⟩ := h
    refine ⟨_, pss_cons (ps_if (pt_cmpR (op_eqD hr.units) (pv 0) (pe_lst pa_nil) (nomark _)) (pss_one (ps_ret (pe_callTy call_int1 (by rfl) T.int boot_int (pa_cons (pe_op op_mod (pe_op op_add (pe_op op_mul (pv 1) pe_int) pe_int) pe_int) pa_nil)))) pss_nil)
      (pss_cons (ps_set (i := 2) scNum.nd rfl (Or.inl rfl) (pe_ix ix_list (pv 0) (pe_op op_mod (pv 1) (pe_callB call_len_seq (by rfl) T.len PySem.boot_len (pa_cons (pv 0) pa_nil))) (fun _ _ => rfl)))
      (pss_cons (ps_if (pt_cmpR op_ge (pe_callB call_abs (by rfl) T.abs boot_abs (pa_cons (pv 2) pa_nil)) (pe_op op_pow pe_int pe_int) (nomark _)) (pss_one (ps_set (i := 2) scNum.nd rfl (Or.inl rfl) (pe_op op_mod (pv 2) (pe_op op_pow pe_int pe_int)))) pss_nil)
      (pss_cons (ps_set (i := 3) scNum.nd rfl (Or.inl rfl) (pe_op op_mod (pe_op op_add (pe_op op_mul (pe_op op_add (pv 2) (pe_op op_mul pe_int (pv 1))) pe_int) (pe_op op_mul pe_int (pe_callB call_len_seq (by rfl) T.len PySem.boot_len (pa_cons (pv 0) pa_nil)))) pe_int))
      (pss_one (ps_ret (pe_callTy call_int1 (by rfl) T.int boot_int (pa_cons (pe_op op_mod (pe_op op_add (pe_op op_mul (pe_op op_mod (pe_op op_mul (pv 3) pe_int) pe_int) pe_int) (pv 1)) pe_int) pa_nil))))))), ?_⟩
    refine ⟨_, rfl, Nat.zero_le _, fun p hp => ?_⟩
    have s1 : Same H (upd H p (.lst [])) := fun b o e => by rw [upd_ne (ne_of_none e hp)]; exact e
    have hS1 := s1.seq hS
    refine ⟨pdI ns, pdI [], dp_ints hS1, dp_ints (SqL.of upd_same), shaped_ints _, shaped_ints _, _, rfl, ?_⟩
    refine ite2 (fun _ => ?_) (fun e => ?_)
    · refine ⟨_, rfl, _, _, rfl, rfl, .inr (by decide), _, _, rfl, rfl, _, _, rfl, rfl, (by show (0 : Int) < _; decide), .inl ⟨_, rfl, ?_⟩⟩
      exact q _ _ (Int.emod_nonneg _ (by decide)) s1
    · have hn : 0 < ns.length := by
        rw [eqv_ints] at e
        cases ns with
        | nil => exact absurd (decide_eq_true rfl) e
        | cons x r => exact Nat.succ_pos _
      have hlen : ((ns.map V.int).length : Int) = (ns.length : Int) := by rw [List.length_map]
      have hlt : (k % (((ns.map V.int).length : Nat) : Int)).toNat < ns.length := by
        have h1 := Int.emod_nonneg k (b := (((ns.map V.int).length : Nat) : Int)) (by omega)
        have h2 := Int.emod_lt_of_pos k (b := (((ns.map V.int).length : Nat) : Int)) (by omega)
        omega
      refine ⟨_, rfl, _, rfl, _, rfl, a, _, rfl, .inl hS1, _, _, rfl, rfl, (by show (0 : Int) < _; omega), a, _, _, V.int ns[(k % (((ns.map V.int).length : Nat) : Int)).toNat], rfl, rfl, hS1, at_of (j := (k % (((ns.map V.int).length : Nat) : Int)).toNat) (by
        have h1 := Int.emod_nonneg k (b := (((ns.map V.int).length : Nat) : Int)) (by omega)
        omega) (by rw [List.getElem?_map, List.getElem?_eq_getElem hlt]; rfl), ?_⟩
      generalize ns[(k % (((ns.map V.int).length : Nat) : Int)).toNat] = c
      refine ⟨_, rfl, _, rfl, _, _, rfl, rfl, ⟨by decide, by decide, by decide⟩, _, _, rfl, rfl, _, rfl, ?_⟩
      refine ite2 (fun _ => ?_) (fun _ => ?_)
      refine ⟨_, rfl, _, _, rfl, rfl, ⟨by decide, by decide, by decide⟩, _, _, rfl, rfl, (by show (0 : Int) < _; decide), ?_⟩
      all_goals
        refine ⟨_, rfl, _, rfl, _, _, rfl, rfl, .inl ⟨by decide, by decide⟩, _, _, rfl, rfl, _, _, rfl, rfl, .inr (by decide), _, rfl, a, _, rfl, .inl hS1, _, _, rfl, rfl, .inl ⟨by decide, by decide⟩, _, _, rfl, rfl, _, _, rfl, rfl, (by show (0 : Int) < _; decide), ?_⟩
        refine ⟨_, rfl, _, _, rfl, rfl, .inr (by decide), _, _, rfl, rfl, (by show (0 : Int) < _; decide), _, _, rfl, rfl, .inr (by decide), _, rfl, _, _, rfl, rfl, _, _, rfl, rfl, (by show (0 : Int) < _; decide), .inl ⟨_, rfl, ?_⟩⟩
        exact q _ _ (Int.emod_nonneg _ (by decide)) s1
theorem scTake : FnScope ["draw", "many"] ["draw", "many"] (defScope sTake) := ⟨rfl, rfl, rfl, by decide +kernel, rfl, by decide +kernel, by decide +kernel⟩
theorem ok_take {f fN fT : Addr} {fd fdN : FuncData} (F : Fun K "_law_take" "_law_take" sTake f fd) (T : TxD K mg fN fT) (FN : Fun K "_law_number" "_law_number" sNum fN fdN) (bN : Binds K fdN ["script", "index"] []) :
    FnOk P w K mg base CX0 2 f fd ["draw", "many"] (spTake K) := by
  have GN : FnOk P w K mg base CX0 1 fN fdN ["script", "index"] (spNum K) := ok_num FN T
  refine F.ok scTake (fun vs H Q E h => ?_) (fun cdv A outer s H vs Q E hr h => ?_)
  · obtain ⟨M, d, a, m, rfl, _⟩ := h
    rfl
  · obtain ⟨M, d, a, m, rfl, D, hm, q⟩ := h
    obtain ⟨⟨k, hd⟩, hM, ns, hl, hs⟩ := id D
    refine ⟨_, pss_cons (ps_augS (pv 0) pe_int get_list pe_int ip_add set_list)
      (pss_one (ps_ret (pe_op op_mod (pe_callTy call_int1 (by rfl) T.int boot_int (pa_cons (pe_call GN hr rfl T.num FN.kp bN .nil pass0 (pa_cons (pe_ix ix_list (pv 0) pe_int (fun _ _ => rfl)) (pa_cons (pe_callTy call_int1 (by rfl) T.int boot_int (pa_cons (pe_ix ix_list (pv 0) pe_int (fun _ _ => rfl)) pa_nil)) pa_nil))) pa_nil)) (pv 1)))), ?_⟩
    refine ⟨_, rfl, d, _, _, .int k, rfl, rfl, SqL.of hd, rfl, _, _, rfl, rfl, d, _, _, 1, rfl, rfl, hd, rfl, ?_⟩
    have hd1 : (upd H d (HO.lst ([V.ref a, V.int k].set 1 (V.int (k + 1))))) d = some (.lst [.ref a, .int (k + 1)]) := upd_same
    have k1 : Kp [d] H (upd H d (HO.lst ([V.ref a, V.int k].set 1 (V.int (k + 1))))) := Kp.at (List.mem_singleton.mpr rfl)
    have up : ∀ b ∈ [d], b ∈ M := fun b z => by rw [List.mem_singleton.mp z]; exact hM
    refine ⟨_, rfl, d, _, _, .ref a, rfl, rfl, SqL.of hd1, rfl, _, rfl, d, _, _, .int (k + 1), rfl, rfl, SqL.of hd1, rfl, .inl ⟨_, rfl, ?_⟩⟩
    refine ⟨a, ns, k + 1, rfl, hs _ (k1.mono up), hl, fun v H' hv s1 => .inl ⟨_, rfl, ?_⟩⟩
    refine ⟨_, rfl, _, _, rfl, rfl, hm, ?_⟩
    have k2 := k1.trans (Kp.same s1)
    exact q _ H' (Int.emod_nonneg _ (by omega)) (Int.emod_lt_of_pos _ hm) (D.next (k2.mono up) (s1 _ _ hd1)) k2
end
end Mc
namespace Mc
open PySem L2 PySem.Spec PyProof.Rows
/-! ### data that can be compared, equal to itself -/
structure DOk (n : Nat) (d : PyData) : Prop where
  lay : d.canLay0 = true
  dep : d.depth ≤ n
  eq : PyData.eqv d d = true
theorem DOk.mono {n m : Nat} {d : PyData} (h : DOk n d) (k : n ≤ m) : DOk m d := ⟨h.lay, Nat.le_trans h.dep k, h.eq⟩
theorem DOk.non {n : Nat} : DOk n .none := ⟨rfl, by rw [PyData.depth]; exact Nat.zero_le _, by rw [PyData.eqv]⟩
theorem DOk.int {n : Nat} {i : Int} : DOk n (.int i) := ⟨rfl, by rw [PyData.depth]; exact Nat.zero_le _, by rw [PyData.eqv]; exact beq_self_eq_true i⟩
theorem DOk.str {n : Nat} {x : PySem.Str} (h : PyData.canLay0 (.str x) = true) : DOk n (.str x) := ⟨h, by rw [PyData.depth]; exact Nat.zero_le _, by rw [PyData.eqv]; exact beq_self_eq_true x⟩
theorem lays {n : Nat} : ∀ {ds : List PyData}, (∀ d ∈ ds, DOk n d) → PyData.canLayAll0 ds = true
  | [], _ => rfl
  | d :: ds, h => by
    show (PyData.canLay0 d && PyData.canLayAll0 ds) = true
    rw [(h d (by simp)).lay, lays fun x hx => h x (by simp [hx])]
    rfl
theorem deps {n : Nat} : ∀ {ds : List PyData}, (∀ d ∈ ds, DOk n d) → PyData.depthAll ds ≤ n
  | [], _ => Nat.zero_le _
  | d :: ds, h => by
    show max (PyData.depth d) (PyData.depthAll ds) ≤ n
    exact Nat.max_le.mpr ⟨(h d (by simp)).dep, deps fun x hx => h x (by simp [hx])⟩
theorem eqs {n : Nat} : ∀ {ds : List PyData}, (∀ d ∈ ds, DOk n d) → PyData.eqvAll ds ds = true
  | [], _ => rfl
  | d :: ds, h => by
    show (PyData.eqv d d && PyData.eqvAll ds ds) = true
    rw [(h d (by simp)).eq, eqs fun x hx => h x (by simp [hx])]
    rfl
theorem DOk.tup {n : Nat} {ds : List PyData} (h : ∀ d ∈ ds, DOk n d) : DOk (n + 1) (.tuple ds) :=
  ⟨by rw [PyData.canLay0]; exact lays h, by rw [PyData.depth]; exact Nat.succ_le_succ (deps h), by rw [PyData.eqv]; exact eqs h⟩
theorem DOk.lst {n : Nat} {ds : List PyData} (h : ∀ d ∈ ds, DOk n d) : DOk (n + 1) (.list ds) :=
  ⟨by rw [PyData.canLay0]; exact lays h, by rw [PyData.depth]; exact Nat.succ_le_succ (deps h), by rw [PyData.eqv]; exact eqs h⟩
theorem DOk.shaped {n : Nat} {d : PyData} (h : DOk n d) (k : n ≤ 64 := by decide) : SeqAt.shaped d = true := by
  unfold SeqAt.shaped
  rw [h.lay, decide_eq_true (Nat.le_trans h.dep k)]
  rfl
/-- two data of one form that are equal -/
theorem eqv_tup2 (a b c d : Int) : PyData.eqv (.tuple [.int a, .int b]) (.tuple [.int c, .int d]) = decide ((a, b) = (c, d)) := by
  rw [PyData.eqv]
  show (PyData.eqv (.int a) (.int c) && (PyData.eqv (.int b) (.int d) && true)) = _
  rw [PyData.eqv, PyData.eqv, Bool.and_true]
  by_cases h1 : a = c <;> by_cases h2 : b = d <;> simp [h1, h2]
theorem dpA1 {K : PySem.W.Frag} {H : Hp} {v : V} {d : PyData} (h : Dp K H v d) : DpAll K H [v] [d] := .cons h .nil
theorem dpA2 {K : PySem.W.Frag} {H : Hp} {v u : V} {d e : PyData} (h : Dp K H v d) (k : Dp K H u e) : DpAll K H [v, u] [d, e] := .cons h (.cons k .nil)
theorem neD_same {K : PySem.W.Frag} {H : Hp} {n : Nat} {x y : V} {d : PyData} {Q : VK} (ok : DOk n d) (hn : n ≤ 64) (h1 : Dp K H x d) (h2 : Dp K H y d) (q : Q (.bl false) H) : rNeD K x y H Q :=
  ⟨d, d, h1, h2, ok.shaped hn, ok.shaped hn, by rw [ok.eq]; exact q⟩
theorem eqD_same {K : PySem.W.Frag} {H : Hp} {n : Nat} {x y : V} {d : PyData} {Q : VK} (ok : DOk n d) (hn : n ≤ 64) (h1 : Dp K H x d) (h2 : Dp K H y d) (q : Q (.bl true) H) : rEqD K x y H Q :=
  ⟨d, d, h1, h2, ok.shaped hn, ok.shaped hn, by rw [ok.eq]; exact q⟩
theorem okInts (ns : List Int) : DOk 1 (pdI ns) := DOk.lst fun d hd => by
  obtain ⟨i, _, rfl⟩ := List.mem_map.mp hd
  exact DOk.int
end Mc
namespace Mc
open PySem L2 PySem.Spec PyProof.Rows
/-! a list comprehension with two fors, by two walks -/
theorem yes_ite {σ : L2.St} {H : Hp} {A B : Hp → Prop} (h : A H) : tYes σ H (fun b H3 => if b = true then A H3 else B H3) := by
  show (if true = true then A H else B H)
  rw [if_pos rfl]
  exact h
theorem pi_listK {X : Cx} {K : PySem.W.Frag} {tg l : Expr} {tl : TE} (h : X.K = K) (hl : PE X l tl) : PI X tg l (iList K tl) := by
  subst h
  exact pi_list hl
section
variable {J J1 : It} {n n1 : Nat} {G G1 : Hp → Prop} {Y Y1 : Nat → Hp → V → Hp → Prop} {g g1 : TG} {tt tt1 : TT} {te : TE} {wi1 : TI} {vs vs1 : List Nat} {σ σ2 : L2.St} {H1 H4 : Hp} {D : Addr} {Qd Nx : Hp → Prop}
theorem lc2_out (w : Walk J n G Y) (Pv : Nat → Hp → Prop) (h0 : Pv 0 (upd H1 D (.lst []))) (hG : ∀ i H, i ≤ n → Pv i H → G H)
    (hs : ∀ i x H H', i < n → Pv i H → Y i H x H' → g x (wipe σ vs) H' fun σ2 H2 => wipe σ2 vs = wipe σ vs ∧ tt σ2 H2 fun b H3 => if b = true then wi1 σ2 H3 fun J1 H4 => ∃ W1 : Nat → Nat → Hp → Prop, (∃ m, W1 0 m H4) ∧ ∀ j k H, W1 j k H →
      (J1.stop j H ∧ Pv (i + 1) H) ∨ (J1.go j H ∧ ∃ Nx1 : Hp → Prop, (∀ H', Nx1 H' → ∃ k', k' < k ∧ W1 (j + 1) k' H') ∧ ∀ x H', J1.yld j H x H' → g1 x (wipe σ2 vs1) H' fun σ3 H5 => wipe σ3 vs1 = wipe σ2 vs1 ∧ tt1 σ3 H5 fun b H6 =>
        if b = true then te σ3 H6 fun y H7 => ∃ acc, H7 D = some (.lst acc) ∧ acc.length < sizeLine ∧ Nx1 (upd H7 D (.lst (acc ++ [y]))) else Nx1 H6) else Pv (i + 1) H3) (hd : ∀ H, Pv n H → Qd H) :
    ∃ W : Nat → Nat → Hp → Prop, (∃ m, W 0 m (upd H1 D (.lst []))) ∧ ∀ i m H, W i m H →
  (J.stop i H ∧ Qd H) ∨ (J.go i H ∧ ∃ Nx : Hp → Prop, (∀ H', Nx H' → ∃ m', m' < m ∧ W (i + 1) m' H') ∧ ∀ x H', J.yld i H x H' → g x (wipe σ vs) H' fun σ2 H2 => wipe σ2 vs = wipe σ vs ∧ tt σ2 H2 fun b H3 =>
    if b = true then wi1 σ2 H3 fun J1 H4 => ∃ W1 : Nat → Nat → Hp → Prop, (∃ m, W1 0 m H4) ∧ ∀ j k H, W1 j k H →
      (J1.stop j H ∧ Nx H) ∨ (J1.go j H ∧ ∃ Nx1 : Hp → Prop, (∀ H', Nx1 H' → ∃ k', k' < k ∧ W1 (j + 1) k' H') ∧ ∀ x H', J1.yld j H x H' → g1 x (wipe σ2 vs1) H' fun σ3 H5 => wipe σ3 vs1 = wipe σ2 vs1 ∧ tt1 σ3 H5 fun b H6 =>
        if b = true then te σ3 H6 fun y H7 => ∃ acc, H7 D = some (.lst acc) ∧ acc.length < sizeLine ∧ Nx1 (upd H7 D (.lst (acc ++ [y]))) else Nx1 H6)
    else Nx H3) := by
  refine ⟨fun i m H => m = n - i ∧ i ≤ n ∧ Pv i H, ⟨n, by simp, Nat.zero_le _, h0⟩, ?_⟩
  rintro i m H ⟨rfl, hi, p⟩
  by_cases hlt : i < n
  · exact .inr ⟨w.goes i H hlt (hG i H hi p), Pv (i + 1), fun H' p' => ⟨n - (i + 1), by omega, rfl, hlt, p'⟩, fun x H' y => hs i x H H' hlt p (w.yields i H x H' hlt (hG i H hi p) y)⟩
  · obtain rfl : i = n := by omega
    exact .inl ⟨w.stops H (hG _ H hi p), hd H p⟩
theorem lc2_in (w : Walk J1 n1 G1 Y1) (Pj : Nat → Hp → Prop) (h0 : Pj 0 H4) (hG : ∀ i H, i ≤ n1 → Pj i H → G1 H)
    (hs : ∀ j x H H', j < n1 → Pj j H → Y1 j H x H' → g1 x (wipe σ2 vs1) H' fun σ3 H5 => wipe σ3 vs1 = wipe σ2 vs1 ∧ tt1 σ3 H5 fun b H6 => if b = true then te σ3 H6 fun y H7 => ∃ acc, H7 D = some (.lst acc) ∧ acc.length < sizeLine ∧ Pj (j + 1) (upd H7 D (.lst (acc ++ [y]))) else Pj (j + 1) H6)
    (hd : ∀ H, Pj n1 H → Nx H) :
    ∃ W1 : Nat → Nat → Hp → Prop, (∃ m, W1 0 m H4) ∧ ∀ j k H, W1 j k H →
      (J1.stop j H ∧ Nx H) ∨ (J1.go j H ∧ ∃ Nx1 : Hp → Prop, (∀ H', Nx1 H' → ∃ k', k' < k ∧ W1 (j + 1) k' H') ∧ ∀ x H', J1.yld j H x H' → g1 x (wipe σ2 vs1) H' fun σ3 H5 => wipe σ3 vs1 = wipe σ2 vs1 ∧ tt1 σ3 H5 fun b H6 =>
        if b = true then te σ3 H6 fun y H7 => ∃ acc, H7 D = some (.lst acc) ∧ acc.length < sizeLine ∧ Nx1 (upd H7 D (.lst (acc ++ [y]))) else Nx1 H6) := by
  refine ⟨fun i m H => m = n1 - i ∧ i ≤ n1 ∧ Pj i H, ⟨n1, by simp, Nat.zero_le _, h0⟩, ?_⟩
  rintro i m H ⟨rfl, hi, p⟩
  by_cases hlt : i < n1
  · exact .inr ⟨w.goes i H hlt (hG i H hi p), Pj (i + 1), fun H' p' => ⟨n1 - (i + 1), by omega, rfl, hlt, p'⟩, fun x H' y => hs i x H H' hlt p (w.yields i H x H' hlt (hG i H hi p) y)⟩
  · obtain rfl : i = n1 := by omega
    exact .inl ⟨w.stops H (hG _ H hi p), hd H p⟩
end
end Mc
namespace Mc
open PySem L2 PySem.Spec PyProof.Rows
theorem lt_tri : ∀ a b : List Nat, ¬ a < b → a ≠ b → b < a
  | [], [], _, h => absurd rfl h
  | [], y :: b, h, _ => absurd (List.nil_lt_cons y b) h
  | x :: a, [], _, _ => List.nil_lt_cons x a
  | x :: a, y :: b, h, n => by
    rw [List.cons_lt_cons_iff] at h ⊢
    by_cases e : x = y
    · subst e
      exact .inr ⟨rfl, lt_tri a b (fun z => h (.inr ⟨rfl, z⟩)) fun z => n (by rw [z])⟩
    · exact .inl (by
        have : ¬ x < y := fun z => h (.inl z)
        omega)
def ltN (a b : PySem.Str) : Prop := a.cps.toList < b.cps.toList
instance (a b : PySem.Str) : Decidable (ltN a b) := inferInstanceAs (Decidable (_ < _))
theorem ltN_irr (a : PySem.Str) : ¬ ltN a a := List.lt_irrefl _
theorem ltN_trans {a b c : PySem.Str} (h : ltN a b) (k : ltN b c) : ltN a c := List.lt_trans h k
theorem ltN_tri {a b : PySem.Str} (h : ¬ ltN a b) (n : a ≠ b) : ltN b a := lt_tri _ _ h fun z => n (str_ext z)
section
variable {β : Type} {l : List (PySem.Str × β)} {k : PySem.Str} {v : β}
def AscT (l : List (PySem.Str × β)) : Prop := l.Pairwise fun x y => ltN x.1 y.1
def hiT (l : List (PySem.Str × β)) (k : PySem.Str) : List (PySem.Str × β) := l.filter fun x => decide (ltN k x.1)
def loT (l : List (PySem.Str × β)) (k : PySem.Str) : List (PySem.Str × β) := l.filter fun x => !decide (ltN k x.1)
theorem AscT.nodup (h : AscT l) : (keysT l).Nodup := by
  unfold keysT
  rw [List.Nodup, List.pairwise_map]
  exact List.Pairwise.imp (fun {a b} z e => by rw [e] at z; exact ltN_irr _ z) h
theorem AscT.split (h : AscT l) (k : PySem.Str) : l = loT l k ++ hiT l k := by
  induction l with
  | nil => rfl
  | cons x l ih =>
    have h' := List.pairwise_cons.mp h
    unfold loT hiT
    rw [List.filter_cons, List.filter_cons]
    by_cases e : ltN k x.1
    · have all : ∀ y ∈ l, ltN k y.1 := fun y hy => ltN_trans e (h'.1 y hy)
      rw [decide_eq_true e]
      have e1 : l.filter (fun x => !decide (ltN k x.1)) = [] := List.filter_eq_nil_iff.mpr fun y hy => by simp [all y hy]
      have e2 : l.filter (fun x => decide (ltN k x.1)) = l := List.filter_eq_self.mpr fun y hy => decide_eq_true (all y hy)
      simp [e1, e2]
    · rw [decide_eq_false e]
      have := ih h'.2
      unfold loT hiT at this
      simp only [Bool.not_false, if_true, Bool.false_eq_true, if_false, List.cons_append]
      rw [← this]
open Classical in
noncomputable def insT (l : List (PySem.Str × β)) (k : PySem.Str) (v : β) : List (PySem.Str × β) := if k ∈ keysT l then l.map (fun x => if x.1 = k then (x.1, v) else x) else loT l k ++ [(k, v)] ++ hiT l k
theorem getT_app (l' : List (PySem.Str × β)) : getT (l ++ l') k = (getT l k).or (getT l' k) := by
  induction l with
  | nil => rfl
  | cons x l ih =>
    rw [List.cons_append, getT_cons, getT_cons, ih]
    split <;> rfl
theorem getT_rep (c : PySem.Str) : getT (l.map fun x => if x.1 = k then (x.1, v) else x) c = if c = k then (getT l c).map (fun _ => v) else getT l c := by
  induction l with
  | nil => split <;> rfl
  | cons x l ih =>
    rw [List.map_cons, getT_cons, getT_cons, ih]
    by_cases e : x.1 = k
    · rw [if_pos e]
      show (if x.1 = c then some v else _) = _
      by_cases e2 : x.1 = c
      · rw [if_pos e2, if_pos e2, if_pos (e2.symm.trans e)]; rfl
      · rw [if_neg e2, if_neg e2]
    · rw [if_neg e]
      by_cases e2 : x.1 = c
      · rw [if_pos e2, if_pos e2, if_neg fun z => e (e2.trans z)]
      · rw [if_neg e2, if_neg e2]
theorem getT_ins (h : AscT l) (c : PySem.Str) : getT (insT l k v) c = if c = k then some v else getT l c := by
  unfold insT
  split
  case isTrue hk =>
    rw [getT_rep]
    split
    case isTrue e => subst e; obtain ⟨w, hw⟩ := getT_key hk; rw [hw]; rfl
    case isFalse e => rfl
  case isFalse hk =>
    have n : getT l k = none := getT_none.mpr hk
    rw [h.split k, getT_app] at n
    have n1 : getT (loT l k) k = none := by cases e : getT (loT l k) k with
      | none => rfl
      | some v => rw [e] at n; cases n
    rw [getT_app, getT_app, getT_cons]
    by_cases e : c = k
    · subst e; rw [if_pos rfl, if_pos rfl, n1]; rfl
    · rw [if_neg fun z => e z.symm, if_neg e]
      conv => rhs; rw [h.split k, getT_app]
      cases getT (loT l k) c <;> rfl
theorem AscT.ins (h : AscT l) : AscT (insT l k v) := by
  unfold insT
  split
  case isTrue hk =>
    unfold AscT
    rw [List.pairwise_map]
    refine List.Pairwise.imp (fun {a b} z => ?_) h
    have e : ∀ x : PySem.Str × β, (if x.1 = k then (x.1, v) else x).1 = x.1 := fun x => by split <;> rfl
    rw [e, e]; exact z
  case isFalse hk =>
    have hi : ∀ x ∈ hiT l k, ltN k x.1 := fun x hx => of_decide_eq_true (List.mem_filter.mp hx).2
    have lo : ∀ x ∈ loT l k, ltN x.1 k := fun x hx => by
      have h2 := List.mem_filter.mp hx
      refine ltN_tri (fun z => by simp [z] at h2) fun z => hk ?_
      rw [z]; exact List.mem_map.mpr ⟨x, h2.1, rfl⟩
    refine List.pairwise_append.mpr ⟨List.pairwise_append.mpr ⟨h.filter _, List.pairwise_singleton _ _, fun x hx y hy => ?_⟩, h.filter _, fun x hx y hy => ?_⟩
    · cases List.mem_singleton.mp hy; exact lo x hx
    · rcases List.mem_append.mp hx with hx | hx
      · exact ltN_trans (lo x hx) (hi y hy)
      · cases List.mem_singleton.mp hx; exact hi y hy
theorem ins_len : (insT l k v).length ≤ l.length + 1 := by
  unfold insT
  split
  · rw [List.length_map]; exact Nat.le_succ _
  · have h1 : (loT l k).length + (hiT l k).length ≤ l.length := by
      unfold loT hiT
      have : ∀ l : List (PySem.Str × β), (l.filter fun x => !decide (ltN k x.1)).length + (l.filter fun x => decide (ltN k x.1)).length = l.length := by
        intro l
        induction l with
        | nil => rfl
        | cons x l ih =>
          rw [List.filter_cons, List.filter_cons]
          cases decide (ltN k x.1) <;> simp <;> omega
      exact Nat.le_of_eq (this l)
    simp; omega
theorem keys_ins (h : AscT l) (c : PySem.Str) : c ∈ keysT (insT l k v) ↔ c = k ∨ c ∈ keysT l := by
  have key : ∀ l : List (PySem.Str × β), c ∈ keysT l ↔ getT l c ≠ none := fun l => by
    rw [Ne, getT_none]; exact ⟨fun h z => z h, fun h => Classical.byContradiction h⟩
  rw [key, key, getT_ins h]
  by_cases e : c = k
  · simp [e]
  · simp [e]
end
section
variable {β : Type} {l : List (PySem.Str × β)} {k : PySem.Str} {v : β}
theorem getT_not {A : List (PySem.Str × β)} {c : PySem.Str} (h : ∀ x ∈ A, x.1 ≠ c) : getT A c = none := getT_none.mpr fun z => by
  obtain ⟨x, hx, e⟩ := List.mem_map.mp z
  exact h x hx e
theorem keep_T {A : List (PySem.Str × β)} {c : PySem.Str} (h : ∀ x ∈ A, x.1 ≠ c) : A.filter (fun x => decide (x.1 ≠ c)) = A := List.filter_eq_self.mpr fun x hx => decide_eq_true (h x hx)
/-- one turn: y is taken out and put at the end -/
theorem turn_T {lo A B : List (PySem.Str × β)} {y z : PySem.Str × β} (h1 : ∀ x ∈ lo, x.1 ≠ y.1) (h2 : ∀ x ∈ A, x.1 ≠ y.1) (h3 : ∀ x ∈ B, x.1 ≠ y.1) (h4 : z.1 ≠ y.1) :
    getT (lo ++ (y :: B) ++ [z] ++ A) y.1 = some y.2 ∧ (lo ++ (y :: B) ++ [z] ++ A).filter (fun x => decide (x.1 ≠ y.1)) = lo ++ B ++ [z] ++ A ∧ y.1 ∉ keysT (lo ++ B ++ [z] ++ A) := by
  refine ⟨?_, ?_, ?_⟩
  · rw [getT_app, getT_app, getT_app, getT_not h1, getT_cons, if_pos rfl]; rfl
  · rw [List.filter_append, List.filter_append, List.filter_append, keep_T h1, keep_T h2, List.filter_cons, if_neg (by simp), keep_T h3, keep_T (A := [z]) (by intro x hx; cases List.mem_singleton.mp hx; exact h4)]
  · refine getT_none.mp (getT_not fun x hx => ?_)
    simp only [List.mem_append, List.mem_singleton] at hx
    rcases hx with ((hx | hx) | hx) | hx
    · exact h1 x hx
    · exact h3 x hx
    · rw [hx]; exact h4
    · exact h2 x hx
theorem hi_turn (h : AscT l) {i : Nat} {y : PySem.Str × β} (hy : (hiT l k)[i]? = some y) : (hiT l k).drop i = y :: (hiT l k).drop (i + 1) ∧ (hiT l k).take (i + 1) = (hiT l k).take i ++ [y] ∧
    (∀ x ∈ loT l k, x.1 ≠ y.1) ∧ (∀ x ∈ (hiT l k).take i, x.1 ≠ y.1) ∧ (∀ x ∈ (hiT l k).drop (i + 1), x.1 ≠ y.1) ∧ k ≠ y.1 := by
  obtain ⟨hl, e⟩ := List.getElem?_eq_some_iff.mp hy
  have ky : ltN k y.1 := of_decide_eq_true (List.mem_filter.mp (List.mem_of_getElem? hy)).2
  have d : (hiT l k).drop i = y :: (hiT l k).drop (i + 1) := by rw [List.drop_eq_getElem_cons hl, e]
  have asc : AscT (hiT l k) := h.filter _
  refine ⟨d, by rw [List.take_add_one, hy]; rfl, fun x hx z => ?_, fun x hx z => ?_, fun x hx z => ?_, fun z => ltN_irr _ (z ▸ ky)⟩
  · have := (List.mem_filter.mp hx).2
    rw [z] at this
    simp [ky] at this
  · have a := asc
    rw [← List.take_append_drop i (hiT l k), d] at a
    exact ltN_irr _ (z ▸ (List.pairwise_append.mp a).2.2 x hx y (by simp))
  · have a := asc
    rw [← List.take_append_drop i (hiT l k), d] at a
    exact ltN_irr _ (z ▸ (List.pairwise_cons.mp (List.pairwise_append.mp a).2.1).1 x hx)
end
theorem ins_map {β γ : Type} (g : β → γ) (l : List (PySem.Str × β)) (k : PySem.Str) (v : β) : insT (l.map fun x => (x.1, g x.2)) k (g v) = (insT l k v).map fun x => (x.1, g x.2) := by
  have ek : keysT (l.map fun x => (x.1, g x.2)) = keysT l := by unfold keysT; rw [List.map_map]; rfl
  unfold insT
  rw [ek]
  split
  · rw [List.map_map, List.map_map]
    refine List.map_congr_left fun x _ => ?_
    show (if x.1 = k then (x.1, g v) else (x.1, g x.2)) = _
    by_cases e : x.1 = k
    · rw [if_pos e]; show _ = ((if x.1 = k then (x.1, v) else x).1, g (if x.1 = k then (x.1, v) else x).2); rw [if_pos e]
    · rw [if_neg e]; show _ = ((if x.1 = k then (x.1, v) else x).1, g (if x.1 = k then (x.1, v) else x).2); rw [if_neg e]
  · rw [List.map_append, List.map_append]
    unfold loT hiT
    rw [List.filter_map, List.filter_map]
    rfl
end Mc
namespace Mc
open PySem L2 PySem.Spec PyProof.Rows
/-! ### comprehensions whose turns change nothing that stood -/
theorem itP {c A B : Prop} [Decidable c] (h : c) (a : A) : if c then A else B := by rw [if_pos h]; exact a
theorem itN {c A B : Prop} [Decidable c] (h : ¬ c) (b : B) : if c then A else B := by rw [if_neg h]; exact b
theorem Same.new {p : Addr} {H : Hp} {o : HO} (h : H p = none) : Same H (upd H p o) := fun b u z => by rw [upd_ne (ne_of_none z h)]; exact z
theorem Same.rfl' {H : Hp} : Same H H := fun _ _ z => z
theorem Same.two {p q : Addr} {H : Hp} {o u : HO} (h : H p = none) (k : upd H p o q = none) : Same H (upd (upd H p o) q u) := (Same.new h).trans (Same.new k)
section
variable {α : Type} {c f : α → V} {ys : List α} {J : It} {n : Nat} {G : Hp → Prop} {te : TE} {vs : List Nat} {σ : L2.St} {H1 : Hp} {D : Addr} {Qd : Hp → Prop} {j : Nat}
/-- [e for x in xs], as a map -/
theorem lc_m (w : Walk J n G (YAt (ys.map c))) (f : α → V) (hn : n = ys.length) (hD : H1 D = none) (hG : ∀ H', Same H1 H' → G H') (hz : ys.length ≤ sizeLine)
    (turn : ∀ (i : Nat) (y : α) (H' : Hp) (k : VK), ys[i]? = some y → Same H1 H' → (∀ H4, Same H' H4 → k (f y) H4) → te ((wipe σ vs).set j (some (c y))) H' k)
    (hd : ∀ H', Same H1 H' → H' D = some (.lst (ys.map f)) → Qd H') (hw : ∀ v, wipe ((wipe σ vs).set j (some v)) vs = wipe σ vs := by intro _; rfl) :
    ∃ W : Nat → Nat → Hp → Prop, (∃ m, W 0 m (upd H1 D (.lst []))) ∧ ∀ i m H, W i m H →
      (J.stop i H ∧ Qd H) ∨ (J.go i H ∧ ∃ Nx : Hp → Prop, (∀ H', Nx H' → ∃ m', m' < m ∧ W (i + 1) m' H') ∧ ∀ x H', J.yld i H x H' → gName j x (wipe σ vs) H' fun σ2 H2 => wipe σ2 vs = wipe σ vs ∧ tYes σ2 H2 fun b H3 =>
        if b = true then te σ2 H3 fun y H4 => ∃ acc, H4 D = some (.lst acc) ∧ acc.length < sizeLine ∧ Nx (upd H4 D (.lst (acc ++ [y]))) else Nx H3) := by
  refine lc_it w (fun i H' => Same H1 H' ∧ H' D = some (.lst ((ys.take i).map f))) ⟨Same.new hD, upd_same⟩ (fun i H' _ z => hG H' z.1) ?_ ?_
  · rintro i x H H' hi ⟨s1, d1⟩ ⟨rfl, hx⟩
    rw [List.getElem?_map] at hx
    cases e : ys[i]? with
    | none => rw [e] at hx; cases hx
    | some y =>
      rw [e] at hx
      obtain rfl := Option.some.inj hx
      refine ⟨hw _, yes_ite (turn i y _ _ e s1 fun H4 s4 => ⟨_, s4 _ _ d1, ?_, ?_, ?_⟩)⟩
      · rw [List.length_map, List.length_take]; omega
      · exact fun b o z => by
          have nb : b ≠ D := ne_of_none z hD
          rw [upd_ne nb]
          exact s4 _ _ (s1 _ _ z)
      · rw [upd_same, List.take_add_one, e, List.map_append]
        rfl
  · rintro H ⟨s1, d1⟩
    subst hn
    rw [List.take_length] at d1
    exact hd H s1 d1
/-- [x for x in xs if t] and the like, as a filter and a map -/
theorem lc_f {tt : TT} (w : Walk J n G (YAt (ys.map c))) (p : α → Bool) (f : α → V) (hn : n = ys.length) (hD : H1 D = none) (hG : ∀ H', Same H1 H' → G H') (hz : ys.length ≤ sizeLine)
    (test : ∀ (i : Nat) (y : α) (H' : Hp) (k : Bool → Hp → Prop), ys[i]? = some y → Same H1 H' → (∀ H4, Same H' H4 → k (p y) H4) → tt ((wipe σ vs).set j (some (c y))) H' k)
    (turn : ∀ (i : Nat) (y : α) (H' : Hp) (k : VK), ys[i]? = some y → p y = true → Same H1 H' → (∀ H4, Same H' H4 → k (f y) H4) → te ((wipe σ vs).set j (some (c y))) H' k)
    (hd : ∀ H', Same H1 H' → H' D = some (.lst ((ys.filter p).map f)) → Qd H') (hw : ∀ v, wipe ((wipe σ vs).set j (some v)) vs = wipe σ vs := by intro _; rfl) :
    ∃ W : Nat → Nat → Hp → Prop, (∃ m, W 0 m (upd H1 D (.lst []))) ∧ ∀ i m H, W i m H →
      (J.stop i H ∧ Qd H) ∨ (J.go i H ∧ ∃ Nx : Hp → Prop, (∀ H', Nx H' → ∃ m', m' < m ∧ W (i + 1) m' H') ∧ ∀ x H', J.yld i H x H' → gName j x (wipe σ vs) H' fun σ2 H2 => wipe σ2 vs = wipe σ vs ∧ tt σ2 H2 fun b H3 =>
        if b = true then te σ2 H3 fun y H4 => ∃ acc, H4 D = some (.lst acc) ∧ acc.length < sizeLine ∧ Nx (upd H4 D (.lst (acc ++ [y]))) else Nx H3) := by
  refine lc_it w (fun i H' => Same H1 H' ∧ H' D = some (.lst (((ys.take i).filter p).map f))) ⟨Same.new hD, upd_same⟩ (fun i H' _ z => hG H' z.1) ?_ ?_
  · rintro i x H H' hi ⟨s1, d1⟩ ⟨rfl, hx⟩
    rw [List.getElem?_map] at hx
    cases e : ys[i]? with
    | none => rw [e] at hx; cases hx
    | some y =>
      rw [e] at hx
      obtain rfl := Option.some.inj hx
      have et : (ys.take (i + 1)).filter p = (ys.take i).filter p ++ (if p y = true then [y] else []) := by
        rw [List.take_add_one, e, List.filter_append]
        show _ ++ [y].filter p = _
        rw [List.filter_cons]
        split <;> rfl
      refine ⟨hw _, test i y _ _ e s1 fun H3 s3 => ?_⟩
      by_cases hp : p y = true
      · rw [if_pos hp]
        refine turn i y _ _ e hp (s1.trans s3) fun H4 s4 => ⟨_, s4 _ _ (s3 _ _ d1), ?_, ?_, ?_⟩
        · have h1 := List.length_filter_le p (ys.take i)
          have h2 := List.length_take_le i ys
          rw [List.length_map]
          have h3 : (ys.take i).length < ys.length := by
            have := (List.getElem?_eq_some_iff.mp e).1
            rw [List.length_take]; omega
          omega
        · exact fun b o z => by
            have nb : b ≠ D := ne_of_none z hD
            rw [upd_ne nb]
            exact s4 _ _ (s3 _ _ (s1 _ _ z))
        · rw [upd_same, et, if_pos hp, List.map_append]
          rfl
      · rw [if_neg hp]
        refine ⟨s1.trans s3, ?_⟩
        rw [et, if_neg hp, List.append_nil]
        exact s3 _ _ d1
  · rintro H ⟨s1, d1⟩
    subst hn
    rw [List.take_length] at d1
    exact hd H s1 d1
/-- [e for x in xs], each item a new object -/
theorem lc_n {R : Hp → α → Addr → Prop} (w : Walk J n G (YAt (ys.map c))) (hn : n = ys.length) (hD : H1 D = none) (hG : ∀ H', Same H1 H' → G H') (hz : ys.length ≤ sizeLine)
    (hR : ∀ H H' y a, R H y a → a ≠ D → (∀ b o, b ≠ D → H b = some o → H' b = some o) → R H' y a)
    (turn : ∀ (i : Nat) (y : α) (H' : Hp) (k : VK), ys[i]? = some y → Same H1 H' → (∀ H4 a, Same H' H4 → H' a = none → R H4 y a → k (.ref a) H4) → te ((wipe σ vs).set j (some (c y))) H' k)
    (hd : ∀ (H' : Hp) (as : List Addr), Same H1 H' → H' D = some (.lst (as.map V.ref)) → as.length = ys.length → (∀ (i : Nat) a y, as[i]? = some a → ys[i]? = some y → R H' y a ∧ a ≠ D ∧ H1 a = none) → Qd H') (hw : ∀ v, wipe ((wipe σ vs).set j (some v)) vs = wipe σ vs := by intro _; rfl) :
    ∃ W : Nat → Nat → Hp → Prop, (∃ m, W 0 m (upd H1 D (.lst []))) ∧ ∀ i m H, W i m H →
      (J.stop i H ∧ Qd H) ∨ (J.go i H ∧ ∃ Nx : Hp → Prop, (∀ H', Nx H' → ∃ m', m' < m ∧ W (i + 1) m' H') ∧ ∀ x H', J.yld i H x H' → gName j x (wipe σ vs) H' fun σ2 H2 => wipe σ2 vs = wipe σ vs ∧ tYes σ2 H2 fun b H3 =>
        if b = true then te σ2 H3 fun y H4 => ∃ acc, H4 D = some (.lst acc) ∧ acc.length < sizeLine ∧ Nx (upd H4 D (.lst (acc ++ [y]))) else Nx H3) := by
  refine lc_it w (fun i H' => ∃ as : List Addr, Same H1 H' ∧ H' D = some (.lst (as.map V.ref)) ∧ as.length = (ys.take i).length ∧ ∀ (l : Nat) a y, as[l]? = some a → (ys.take i)[l]? = some y → R H' y a ∧ a ≠ D ∧ H1 a = none) ⟨[], Same.new hD, upd_same, rfl, fun l a y z => (nomatch z)⟩ (fun i H' _ ⟨_, z, _⟩ => hG H' z) ?_ ?_
  · rintro i x H H' hi ⟨as, s1, d1, l1, r1⟩ ⟨rfl, hx⟩
    rw [List.getElem?_map] at hx
    cases e : ys[i]? with
    | none => rw [e] at hx; cases hx
    | some y =>
      rw [e] at hx
      obtain rfl := Option.some.inj hx
      have hil := (List.getElem?_eq_some_iff.mp e).1
      have ti : (ys.take i).length = i := by rw [List.length_take]; omega
      refine ⟨hw _, yes_ite (turn i y _ _ e s1 fun H4 a s4 na ra => ⟨_, s4 _ _ d1, ?_, as ++ [a], ?_, ?_, ?_, ?_⟩)⟩
      · rw [List.length_map, l1, ti]; omega
      · exact fun b o z => by
          have nb : b ≠ D := ne_of_none z hD
          rw [upd_ne nb]
          exact s4 _ _ (s1 _ _ z)
      · rw [upd_same, List.map_append]
        rfl
      · rw [List.length_append, l1, ti, List.length_take]; simp; omega
      · have naD : a ≠ D := fun e => by rw [e, d1] at na; cases na
        have k4 : ∀ b o, b ≠ D → H4 b = some o → upd H4 D (.lst (as.map V.ref ++ [V.ref a])) b = some o := fun b o nb z => by rw [upd_ne nb]; exact z
        intro l b z hb hz
        have et : ys.take (i + 1) = ys.take i ++ [y] := by rw [List.take_add_one, e]; rfl
        rw [et] at hz
        rcases Nat.lt_trichotomy l i with hl | hl | hl
        · rw [List.getElem?_append_left (by omega)] at hb hz
          obtain ⟨q1, q2, q3⟩ := r1 l b z hb hz
          refine ⟨hR _ _ _ _ q1 q2 fun c o nc h => k4 _ _ nc (s4 _ _ h), q2, q3⟩
        · subst hl
          rw [List.getElem?_append_right (by omega), l1, ti, Nat.sub_self] at hb
          rw [List.getElem?_append_right (by omega), ti, Nat.sub_self] at hz
          cases Option.some.inj hb
          cases Option.some.inj hz
          refine ⟨hR _ _ _ _ ra naD k4, naD, ?_⟩
          cases e1 : H1 a with
          | none => rfl
          | some o => rw [s1 _ _ e1] at na; cases na
        · rw [List.getElem?_eq_none (by rw [List.length_append, l1, ti]; simp; omega)] at hb
          cases hb
  · rintro H ⟨as, s1, d1, l1, r1⟩
    subst hn
    rw [List.take_length] at l1 r1
    exact hd H as s1 d1 l1 r1
end
/-- over a dict's keys, by their texts -/
theorem walk_kT {β : Type} {g : β → V} {l : List (PySem.Str × β)} {d : Addr} {o : Obj} : Walk (Itk d o (kvT g l)) (keysT l).length (fun H => H d = some (.frz o (.dK (kvT g l)))) (YAt ((keysT l).map V.str)) := by
  have e : (kvT g l).length = (keysT l).length := by unfold kvT keysT; rw [List.length_map, List.length_map]
  rw [← e]
  refine walk_keys.mono (fun _ h => h) ?_
  rintro i H x H' hi _ ⟨rfl, k, v, hk, rfl⟩
  refine ⟨rfl, ?_⟩
  unfold kvT at hk
  rw [List.getElem?_map] at hk
  unfold keysT
  rw [List.getElem?_map, List.getElem?_map]
  cases e2 : l[i]? with
  | none => rw [e2] at hk; cases hk
  | some z =>
    rw [e2] at hk
    cases Option.some.inj hk
    rfl
theorem walk_rng {lo : Int} {n : Nat} : Walk (Itr lo n) n (fun _ => True) (YAt ((List.range n).map fun i => V.int (lo + (i : Nat)))) := by
  refine walk_range.mono (fun _ h => h) ?_
  rintro i H x H' hi _ ⟨rfl, rfl⟩
  refine ⟨rfl, ?_⟩
  rw [List.getElem?_map, List.getElem?_range hi]
  rfl
theorem map_bl (p : α → Bool) (l : List α) : l.map (fun x => V.bl (p x)) = (l.map p).map V.bl := by rw [List.map_map]; rfl
theorem all_map_id {α : Type} (p : α → Bool) (l : List α) : (l.map p).all id = l.all p := by rw [List.all_map]; rfl
theorem any_map_id {α : Type} (p : α → Bool) (l : List α) : (l.map p).any id = l.any p := by rw [List.any_map]; rfl
end Mc
namespace Mc
open PySem L2 PySem.Spec PyProof.Rows FbM
/-! ### sorted(d, key=o.m), d a dict with text keys, m a method that gives an int and the key -/
/-- a method that is taken as a value -/
def CalB (P : Program) (w : World) (K : PySem.W.Frag) (mg : PySem.Str → Option Value) (base : Heap) (C : Addr) (k : Nat) (m : PySem.Str) (ps : List PySem.Str) (sp : Sp) : Prop :=
  ∃ (f : Addr) (fd : FuncData), BMeth K C m f ∧ Binds K fd ps [] ∧ FnOk P w K mg base CX0 k f fd ps sp
def kdM (kf : PySem.Str → Int) (x : PySem.Str) : PyData := .tuple [.int (kf x), .str x]
/-- what is asked of the method at each key -/
def RankOk (sp : Sp) (o : Addr) (kf : PySem.Str → Int) (ks : List PySem.Str) (H : Hp) : Prop :=
  ∀ x ∈ ks, ∀ H', Same H H' → sp [.ref o, .str x] H' (fun v H2 => ∃ p, v = .ref p ∧ H' p = none ∧ H2 = upd H' p (.tup [.int (kf x), .str x])) E0
/-- the heap with the object at k thrown away: the records behind a call of ours -/
def rid (h : Heap) (k : Addr) : Heap := h.update k fun _ => { cls := .none, data := .freed }
theorem rid_none {h : Heap} {k : Addr} : (rid h k).get? k = none := by
  by_cases hk : k < h.objs.size
  · unfold rid Heap.get?
    rw [Heap.objs_update_self, Array.getElem?_eq_getElem hk]
    rfl
  · refine Heap.get?_none_of_le ?_
    unfold rid
    rw [Heap.size_update]
    exact Nat.le_of_not_lt hk
theorem rid_ne {h : Heap} {k b : Addr} (n : b ≠ k) : (rid h k).get? b = h.get? b := Heap.get?_update_ne _ _ _ _ n
section
variable {X : Cx} {pins : List (Addr × Obj)} {σ : L2.St} {H : Hp} {s : Shared} {k : Nat} {g o q a kS : Addr} {fd : FuncData} {ps : List PySem.Str} {sp : Sp} {kf : PySem.Str → Int} {ks : List PySem.Str} {vs : List Value} {A : Around} {E : Value → Shared → Prop} {e1 : Nat} {P : PySem.Fin → Shared → Prop}
theorem tup_reads {h : Heap} {p : Addr} {H : Hp} {n : Int} {x : PySem.Str} (hok : HOk X.prog X.w H h) (e : H p = some (.tup [.int n, .str x])) : Reads h (.ref p) (.tuple [.int n, .str x]) [] := by
  obtain ⟨_, its, rv, ob, ho, hc, nn, hd⟩ := hok p _ e
  obtain ⟨v1, v2, rfl, r1, r2⟩ := vals2 rv
  obtain ⟨t1, rfl⟩ := r1
  obtain ⟨t2, rfl⟩ := r2
  exact .tuple ho hc hd (.cons (.int _ _) (.cons (.str _ _) .nil))
theorem km_rest (hr : Room k A) (hA : A.frames = some X.stack) (hb : Binds X.K fd ps []) (F : FnOk X.prog X.w X.K X.mg X.base CX0 k g fd ps sp) (I : Inv X pins σ H s) (hq : H q = some (.met g o)) (ra : Rec X pins a) (rk : Rec X pins kS) (na : H a = none) (nk : H kS = none)
    (hka : kS ≠ a) (ek : s.heap.get? kS = some (seqObj "list" #[] 0)) (ea : s.heap.get? a = some (seqObj "list" #[] e1)) (hv : StrsAre vs ks) (h64 : ks.length < 64) (turn : RankOk sp o kf ks H)
    (done : ∀ s' H' out c, Inv X pins σ H' s' → Same H H' → H' a = none → s'.heap.get? a = some (seqObj "list" (List.toArray out) c) → PySem.W.KeyedOut false (ks.map (kdM kf)) vs out → P (.done (.ret .none)) s') :
    wpAny (model X.prog X.w) A (ksk_rest a (.ref q) false vs.toArray e1 (.ref kS)) P E s := by
  have hlen : vs.length = ks.length := hv.len_eq
  have h16 : vs.length ≤ sizeLine := by rw [hlen, sizeLine_eq]; omega
  unfold ksk_rest
  refine wpAny_bind (wpAny_rule ?_)
  rw [List.forIn_toArray]
  refine wpAny_bind (ksk_fold (fun i s' => ∃ H' kA e, Inv X pins σ H' s' ∧ Same H H' ∧ H' a = none ∧ H' kS = none ∧ s'.heap.get? kS = some (seqObj "list" kA e) ∧ s'.heap.get? a = some (seqObj "list" #[] e1) ∧
    PySem.W.EachIs (fun v x => ∃ p, v = Value.ref p ∧ H' p = some (.tup [.int (kf x), .str x])) kA.toList (ks.take i)) vs 0 s ⟨H, #[], 0, I, fun _ _ h => h, na, nk, ek, ea, by rw [List.take_zero]; exact PySem.W.EachIs.nil⟩ ?step ?done)
  case step =>
    rintro j x s' hx ⟨H', kA, e, I', sm, na', nk', ek', ea', hk⟩
    rw [Nat.zero_add] at hk ⊢
    obtain ⟨y, t, rfl, hy⟩ := hv.item j x hx
    have hz : kA.size ≤ ks.length := by
      have h1 := hk.length
      rw [Array.length_toList, List.length_take] at h1
      omega
    have h64' : kA.size < 64 := by omega
    have em := sm q _ hq
    have e0 := I'.env0
    have e1' : Env0 X.prog X.w X.K X.mg X.base A X.stack s' H' := ⟨hA, e0.mod, e0.bs, e0.bsz, e0.funs, e0.frf, e0.hok, e0.bare⟩
    have D := turn y (List.mem_of_getElem? hy) H' sm
    have hl2 : ([Value.ref o, .str y t] ++ []).length = ps.length := F.len _ _ _ _ D
    have bt := hb s' [Value.ref o, .str y t] I'.kIn hl2
    rw [List.append_nil] at bt
    refine wpAny_bind (wpAny_attempt ?_)
    refine wpAny_call (PySem.W.method_call (I'.hok q _ em) (codeAny_mono (F.run A X.stack s' H' ⟨[.ref o, .str y t], []⟩ _ [.ref o, .str y] _ E0 hr e1' bt (.cons rfl (.cons ⟨t, rfl⟩ .nil)) D) fun rr s2 hrr => ?_))
    cases rr with
    | error er => exact False.elim hrr
    | ok fl =>
      cases fl with
      | next => exact False.elim hrr
      | brk => exact False.elim hrr
      | cont => exact False.elim hrr
      | ret v =>
        obtain ⟨v', H2, os, bare, un, hok, rv', p, ev, hp, eH⟩ := (show CE X.stack X.prog X.w H' s' _ v s2 from hrr)
        subst ev
        cases rv'
        have I2 : Inv X pins σ H2 s2 := I'.call' os un hok bare (fun b z => absurd z List.not_mem_nil)
        have sm2 : Same H' H2 := fun b u e => by
          rw [eH, upd_ne (ne_of_none e hp)]
          exact e
        have keep : ∀ {b : Addr} {ob : Obj}, Rec X pins b → H' b = none → s'.heap.get? b = some ob → s2.heap.get? b = some ob := fun rb ub eb => un.keep _ _ eb ub rb.fr List.not_mem_nil
        have fr2 : ∀ {b : Addr} {ob : Obj}, H' b = none → s'.heap.get? b = some ob → H2 b = none := fun ub eb => un.free _ _ eb ub List.not_mem_nil
        have nk2 := keep rk nk' ek'
        have na2 := keep ra na' ea'
        have uk2 := fr2 nk' ek'
        have ua2 := fr2 na' ea'
        try dsimp only
        obtain ⟨h2, g2, d2, t2, o2⟩ := s2
        obtain ⟨c2, hc2⟩ : ∃ c2, (h2.update kS (Obj.mapSeq (·.push (.ref p)))).get? kS = some (seqObj "list" (kA.push (.ref p)) c2) := ⟨_, get?_update_seq nk2 (·.push (.ref p))⟩
        have sb : Heap.SameBut kS h2 (h2.update kS (Obj.mapSeq (·.push (.ref p)))) := Heap.SameBut.update ..
        refine wpAny_bind (listUpdate_at nk2 rfl ?_ (by rw [sizeLine_eq]; omega) (by rw [Array.size_push, sizeLine_eq]; omega))
        refine wpAny_pure ⟨rfl, H2, kA.push (.ref p), c2, rk.turn (t' := t2) I2 uk2 fun c ob hc e => sb.extBut c ob hc e, fun b u e => sm2 b u (sm b u e), ua2, uk2, hc2, sb.extBut _ _ hka.symm na2, ?_⟩
        have ek3 : ks.take (j + 1) = ks.take j ++ [y] := by rw [List.take_add_one, hy]; rfl
        have ea3 : (kA.push (Value.ref p)).toList = kA.toList ++ [.ref p] := by simp
        rw [ek3, ea3]
        refine PySem.W.each_snoc ⟨p, rfl, by rw [eH, upd_same]⟩ (hk.mono fun u d z => ?_)
        obtain ⟨p', ep, z⟩ := z
        exact ⟨p', ep, sm2 _ _ z⟩
  case done =>
    rintro s' ⟨H', kA, e, I', sm, na', nk', ek', ea', hk⟩
    have hk' : PySem.W.EachIs (fun v k => ∃ as, Reads s'.heap v k as) kA.toList (ks.map (kdM kf)) := by
      have e3 : ks.take (0 + vs.length) = ks := List.take_of_length_le (by omega)
      rw [e3] at hk
      refine PySem.W.each_map (kdM kf) (hk.mono fun v x z => ?_)
      obtain ⟨p, rfl, z⟩ := z
      exact ⟨[], tup_reads I'.hok z⟩
    have hsz : kA.size = vs.length := by
      have h1 := hk'.length
      rw [Array.length_toList, List.length_map] at h1
      omega
    refine wpAny_bind (listItems_at ek' rfl ?_)
    have hal : PySem.W.AllAlike (ks.map (kdM kf)) := PySem.W.AllAlike.of fun _ _ => by simp [kdM, PySem.W.alike, PySem.W.alikeAll]
    refine PySem.W.keyH_end (κ := PySem.W.dataKind s'.heap (ks.map (kdM kf))) (h₁ := rid s'.heap kS) (b := false) (fun b ob hb z => ?_) rid_none ek' ea' hka (PySem.W.SortsAt.data hk' hal (PySem.W.Sortable.tuples fun _ => ⟨_, _, rfl⟩) ?_) hsz h16 fun h' tk c kp hD => ?_
    · by_cases hbk : b = kS
      · subst hbk
        rw [rid_none] at z
        cases z
      · exact (rid_ne hbk).symm.trans z
    · intro d hd
      obtain ⟨x, _, rfl⟩ := List.mem_map.mp hd
      have h2 : (kdM kf x).depth = 1 := by simp [kdM, PyData.depth, PyData.depthAll]
      have := hr.units
      omega
    · have keep : ∀ b ob, b ≠ a → b ≠ kS → s'.heap.get? b = some ob → h'.get? b = some ob := fun b ob ha hk z => kp b ob ha ((rid_ne hk).trans z)
      have nb : ∀ {b u}, H' b = some u → b ≠ a ∧ b ≠ kS := fun {b u} z => ⟨fun e => (by rw [e, na'] at z; cases z), fun e => (by rw [e, nk'] at z; cases z)⟩
      refine done _ H' (PySem.W.sortVals (PySem.W.dataKind s'.heap (ks.map (kdM kf))) false kA.toList vs) c ?_ sm na' hD ⟨s'.heap, kA.toList, hal, rfl, hk'⟩
      obtain ⟨h1, g1, d1, t1, o1⟩ := s'
      refine I'.call' (ch := [a, kS]) rfl ⟨fun b ob z n _ hx => ?_, fun b ob z n _ hx => ⟨ob.slots, ?_⟩, fun b ob z n hx => n, fun b ob z hx => ⟨ob, ?_⟩, fun b xs z => z, fun b ob u z => z, fun b pz z => ⟨#[], by rw [z]; simp⟩⟩ (fun b u z => ?_) I'.bare fun b hb => ?_
      · exact keep b ob (fun e => hx (by simp [e])) (fun e => hx (by simp [e])) z
      · exact keep b ob (fun e => hx (by simp [e])) (fun e => hx (by simp [e])) z
      · exact keep b ob (fun e => hx (by simp [e])) (fun e => hx (by simp [e])) z
      · refine (I'.hok b u z).stay (fun cc v hc q => ?_) (fun _ q => q) fun _ _ q => q
        rcases hc with e | e
        · rw [e] at q ⊢
          exact keep b v (nb z).1 (nb z).2 q
        · exact keep cc v (nb e).1 (nb e).2 q
      · rcases List.mem_cons.mp hb with e | e
        · subst e
          exact ⟨.inr ra.ge, ra.nl, ra.ce, ra.pn⟩
        · obtain rfl := List.mem_singleton.mp e
          exact ⟨.inr rk.ge, rk.nl, rk.ce, rk.pn⟩
/-- what lies raw is named -/
theorem adopt {ob : HO} (I : Inv X pins σ H s) (ra : Rec X pins a) (na : H a = none) (new : ObjOk X.prog X.w (upd H a ob) s.heap a ob) : Inv X pins σ (upd H a ob) s := by
  have ne : ∀ {b u}, H b = some u → b ≠ a := fun {b u} z e => by rw [e, na] at z; cases z
  refine I.call' (ch := [a]) rfl ⟨fun b u z _ _ _ => z, fun b u z _ _ _ => ⟨u.slots, z⟩, fun b u z n hx => ?_, fun b u z _ => ⟨u, z⟩, fun b xs z => ?_, fun b u v z => ?_, fun b pz z => ⟨#[], ?_⟩⟩ (fun b u z => ?_) I.bare fun b hb => ?_
  · rw [upd_ne fun e => hx (by simp [e])]
    exact n
  · rw [upd_ne (ne z)]
    exact z
  · rw [upd_ne (ne z)]
    exact z
  · rw [upd_ne (ne z), z]
    simp
  · by_cases e : b = a
    · subst e
      rw [upd_same] at z
      cases z
      exact new
    · rw [upd_ne e] at z
      exact (I.hok b u z).stay (fun _ _ _ q => q) (fun c q => by rw [upd_ne (ne q)]; exact q) fun c xs q => by rw [upd_ne (ne q)]; exact q
  · obtain rfl := List.mem_singleton.mp hb
    exact ⟨.inr ra.ge, ra.nl, ra.ce, ra.pn⟩
theorem each_vals : ∀ {vs : List Value} {ys : List PySem.Str}, PySem.W.EachIs (fun v x => ∃ t, v = Value.str x t) vs ys → Vals (ys.map V.str) vs
  | _, _, .nil => .nil
  | _, _, .cons ⟨t, e⟩ r => .cons ⟨t, e⟩ (each_vals r)
theorem each_strs : ∀ {vs : List Value} {ys : List PySem.Str}, StrsAre vs ys → PySem.W.EachIs (fun v x => ∃ t, v = Value.str x t) vs ys
  | _, _, .nil => .nil
  | _, _, .cons y t r => .cons ⟨t, rfl⟩ (each_strs r)
/-- the order of the keys: the less number first, of one number by name -/
def rkLe (kf : PySem.Str → Int) (x y : PySem.Str) : Prop := kf x < kf y ∨ (kf x = kf y ∧ ¬ ltN y x)
theorem kdM_le {x y : PySem.Str} : PySem.W.dataLe false (kdM kf) x y = true ↔ rkLe kf x y := by
  show (!PySem.W.dataLt (kdM kf y) (kdM kf x)) = true ↔ _
  unfold kdM
  rw [PySem.W.dataLt_pair (by simp [PySem.W.alike]) (by simp [PySem.W.alike]), PySem.W.dataLt_int, PySem.W.dataLt_str]
  unfold rkLe ltN
  simp only [PyData.eqv, beq_iff_eq]
  by_cases h1 : kf y = kf x
  · rw [if_pos h1]
    by_cases h2 : y = x
    · subst h2
      simp
    · simp [h2, h1]
  · rw [if_neg h1]
    have : ¬ kf x = kf y := fun z => h1 z.symm
    simp only [Bool.not_eq_true', decide_eq_false_iff_not, this, false_and, or_false]
    omega
theorem kdM_sorted (ks : List PySem.Str) : (ks.mergeSort (PySem.W.dataLe false (kdM kf))).Pairwise (rkLe kf) := by
  refine List.Pairwise.imp (fun {a b} z => kdM_le.mp z) (List.pairwise_mergeSort (fun a b c h1 h2 => ?_) (fun a b => ?_) ks)
  · rw [kdM_le] at *
    unfold rkLe ltN at *
    rcases h1 with h1 | ⟨h1, h1'⟩ <;> rcases h2 with h2 | ⟨h2, h2'⟩
    · exact .inl (by omega)
    · exact .inl (by omega)
    · exact .inl (by omega)
    · exact .inr ⟨by omega, List.not_lt.mpr (List.le_trans (List.not_lt.mp h1') (List.not_lt.mp h2'))⟩
  · rw [Bool.or_eq_true, kdM_le, kdM_le]
    unfold rkLe ltN
    by_cases e : kf a = kf b
    · rcases List.le_total a.cps.toList b.cps.toList with h | h
      · exact .inl (.inr ⟨e, List.not_lt.mpr h⟩)
      · exact .inr (.inr ⟨e.symm, List.not_lt.mpr h⟩)
    · omega
theorem sortedKM (hcalm : X.calm = true) (hr : Room k X.A.in1.in1) (hb : Binds X.K fd ps []) (F : FnOk X.prog X.w X.K X.mg X.base CX0 k g fd ps sp) {d : Addr} {kvs : List (Key × V)} {Q : VK} (I : Inv X pins σ H s) (hd : Rd H d (.dK kvs)) (hks : kvs.map (·.1) = ks.map Sum.inr) (h64 : ks.length < 64)
    (hq : H q = some (.met g o)) (turn : RankOk sp o kf ks H) (fin : ∀ (ys : List PySem.Str) p H', Same H H' → ys.Perm ks → ys.Pairwise (rkLe kf) → H' p = none → Q (.ref p) (upd H' p (.lst (ys.map V.str)))) :
    wpAny (model X.prog X.w) X.A (call (.builtin "sorted") [.ref d] [(PySem.Str.ofString "key", .ref q)]) (EP X pins σ Q) X.xe s := by
  obtain ⟨z, lo, vs, rel, dd⟩ := dk_rd I.hok hd
  obtain ⟨ep, hat⟩ := dd.dictAt
  have hkeys : vs.map (·.1) = ks.map Sum.inr := rel.keys.symm.trans hks
  have hl : vs.length = ks.length := by
    have e := congrArg List.length hkeys
    rw [List.length_map, List.length_map] at e
    exact e
  have h16 : vs.length ≤ sizeLine := by rw [hl, sizeLine_eq]; omega
  refine call_function_entry_kw kind_sorted plain_sorted entry_sorted (ksk_s1 _ _) ?_
  unfold Builtin.«sorted»
  refine wpAny_bind (m := checkCount "sorted" 1 1 _) (wpAny_pure ?_)
  refine wpAny_bind (PySem.W.kdu_collect (A := X.A.in1) (PySem.W.kdl_dict (knd := mixKind X.prog X.w) (kvs := vs) (ep := ep) lo) (I.ok.hd hcalm) hat h16 fun h1 tk acc hk hacc => ?_)
  have hal : acc.toList.length = ks.length := by rw [Array.length_toList, hacc.1, hl]
  have hS : StrsAre acc.toList ks := strs_at hal fun j v e => by
    obtain ⟨kx, x, w1, w2⟩ := hacc.2 j v (by rw [← Array.getElem?_toList]; exact e)
    have w3 : (vs.map (·.1))[j]? = some kx := by rw [List.getElem?_map, w1]; all_goals rfl
    rw [hkeys, List.getElem?_map] at w3
    cases w4 : ks[j]? with
    | none => rw [w4] at w3; cases w3
    | some y =>
      rw [w4] at w3
      obtain rfl : Sum.inr y = kx := Option.some.inj w3
      obtain ⟨t, ev⟩ := Value.isStrOf_shape (x := y) (v := v) w2
      exact ⟨y, t, rfl, ev⟩
  have I1 : Inv X pins σ H { s with heap := h1, toks := tk } := I.kept hk
  refine wpAny_bind (wpAny_newList ?_ (by rw [hal, sizeLine_eq]; omega))
  have hoL : (h1.push (seqObj "list" acc.toList.toArray 0)).get? h1.objs.size = some (seqObj "list" acc.toList.toArray 0) := Heap.get?_push_size _ rfl
  have I2 : Inv X pins σ H { s with heap := h1.push (seqObj "list" acc.toList.toArray 0), toks := tk } := I1.kept (t' := tk) fun b u e => Heap.get?_push_of_some _ e
  have ra : Rec X pins h1.objs.size := rec_new I1 (Nat.le_refl _)
  have na : H h1.objs.size = none := I1.hok.fresh (Nat.le_refl _)
  show wpAny _ _ _ _ _ { s with heap := h1.push (seqObj "list" acc.toList.toArray 0), toks := tk }
  refine wpAny_bind (wpAny_holding (wpAny_call_entry_kw slot_list_sort ⟨_, hoL, rfl⟩ entry_list_sort ?body (ksk_l1 _ _)))
  case body =>
    rw [ksk_t1]
    unfold ksk_tree
    refine wpAny_bind (listItems_at hoL rfl ?_)
    have hz : acc.toList.toArray.size ≤ sizeLine := by rw [List.size_toArray, hal, sizeLine_eq]; omega
    refine wpAny_bind (listUpdate_at hoL rfl ?_ hz (Nat.zero_le _))
    obtain ⟨e1, ho1⟩ : ∃ e1, ((h1.push (seqObj "list" acc.toList.toArray 0)).update h1.objs.size (Obj.mapSeq fun _ => (#[] : Array Value))).get? h1.objs.size = some (seqObj "list" #[] e1) := ⟨_, get?_update_seq hoL fun _ => #[]⟩
    refine wpAny_bind (seqEpoch_at ho1 rfl ?_)
    refine wpAny_bind (wpAny_newTuple ?_ (by show acc.toList.length ≤ _; rw [hal, sizeLine_eq]; omega))
    refine wpAny_bind (wpAny_newList ?_ (Nat.zero_le _))
    refine wpAny_holding ?_
    have sb : Heap.SameBut h1.objs.size (h1.push (seqObj "list" acc.toList.toArray 0)) ((h1.push (seqObj "list" acc.toList.toArray 0)).update h1.objs.size (Obj.mapSeq fun _ => (#[] : Array Value))) := Heap.SameBut.update ..
    have I3 := ra.turn (t' := tk) I2 na fun c ob hc e => sb.extBut c ob hc e
    have I4 := I3.kept (t' := tk) fun b u e => Heap.get?_push_of_some (seqObj "tuple" acc.toList.toArray 0) e
    have I5 := I4.kept (t' := tk) fun b u e => Heap.get?_push_of_some (seqObj "list" #[] 0) e
    have lt1 : h1.objs.size < (((h1.push (seqObj "list" acc.toList.toArray 0)).update h1.objs.size (Obj.mapSeq fun _ => (#[] : Array Value))).push (seqObj "tuple" acc.toList.toArray 0)).objs.size := by
      rw [size_push', Heap.size_update, size_push']
      omega
    refine km_rest (fd := fd) (ps := ps) (sp := sp) (k := k) (g := g) (o := o) (kf := kf) (ks := ks) hr I.ok.frames hb F I5 hq ra (rec_new I4 (Nat.le_refl _)) na (I4.hok.fresh (Nat.le_refl _)) (Nat.ne_of_gt lt1) (Heap.get?_push_size _ rfl)
      (Heap.get?_push_of_some _ (Heap.get?_push_of_some _ ho1)) hS h64 turn fun s' H' out c J sm na' hD ko => ?_
    have eo := PySem.W.keyedOut_each (kdM kf) ko (each_strs hS)
    have pm := List.mergeSort_perm ks (PySem.W.dataLe false (kdM kf))
    have hlo : (ks.mergeSort (PySem.W.dataLe false (kdM kf))).length ≤ sizeLine := by rw [pm.length_eq, sizeLine_eq]; omega
    refine ⟨_, rfl, wpAny_pure ⟨_, rfl, .ref h1.objs.size, upd H' h1.objs.size (.lst ((ks.mergeSort (PySem.W.dataLe false (kdM kf))).map V.str)), adopt J ra na' ⟨?_, out, c, each_vals eo, hD⟩, rfl, fin _ _ H' sm pm (kdM_sorted ks) na'⟩⟩
    rw [List.length_map]
    exact hlo
end
/-- sorted(e, key=o.m) -/
def tSrtM (C : Addr) (m : PySem.Str) (sp : Sp) (ta to : TE) : TE := fun σ H Q => ta σ H fun x H1 => to σ H1 fun y H2 => ∃ (d a dx : Addr) (kvs : List (Key × V)) (fs : List (PySem.Str × V)) (ks : List PySem.Str) (kf : PySem.Str → Int), x = .ref d ∧ y = .ref a ∧ H2 a = some (.ins C dx fs) ∧ fs.lookup m = none ∧
  Rd H2 d (.dK kvs) ∧ kvs.map (·.1) = ks.map Sum.inr ∧ ks.length < 64 ∧ RankOk sp a kf ks H2 ∧ ∀ (ys : List PySem.Str) p H', Same H2 H' → ys.Perm ks → ys.Pairwise (rkLe kf) → H' p = none → Q (.ref p) (upd H' p (.lst (ys.map V.str)))
section
variable {X : Cx} {k : Nat} {C : Addr} {m : PySem.Str} {ps : List PySem.Str} {sp : Sp} {e o : Expr} {ta to : TE} {p pos apos kpos : Pos}
theorem pe_srtM (hcalm : X.calm = true) (cl : Cls X.K C) (c : CalB X.prog X.w X.K X.mg X.base C k m ps sp) (hr : Room (k + 2) X.A) (hg : Gl X "sorted") (hm : X.mg "sorted" = none) (he : PE X e ta) (ho : PE X o to)
    (hs1 : starEach [e] X.env = (false, eval e X.env) :: starEach [] X.env := by rfl) (hb : attributeBase o m X.env (eval o X.env) = eval o X.env := by rfl)
    (hst : backTo pos (starEach [e] X.env) = (false, eval e X.env) :: backTo pos (starEach [] X.env) := by rfl) (hpl : (backTo pos (starEach [e] X.env)).any (·.1) = false := by rfl)
    (hall : (backToKw pos (keywordEach [⟨some "key", .Attribute o m apos, kpos⟩] X.env)).all (·.1.isSome) = true := by rfl) (hno : (backToKw pos (keywordEach [⟨some "key", .Attribute o m apos, kpos⟩] X.env)).any (·.1.isNone) = false := by rfl)
    (hks : (backToKw pos (keywordEach [⟨some "key", .Attribute o m apos, kpos⟩] X.env)).filterMap (·.1) = [PySem.Str.ofString "key"] := by rfl) :
    PE X (.Call (.Name "sorted" p) [e] [⟨some "key", .Attribute o m apos, kpos⟩] pos) (tSrtM C m sp ta to) := by
  obtain ⟨g, fd, B, hbd, F⟩ := c
  have rule : CallRK X (.builtin "sorted") [PySem.Str.ofString "key"] (fun vs zs H Q => ∃ (d q a : Addr) (kvs : List (Key × V)) (ks : List PySem.Str) (kf : PySem.Str → Int), vs = [.ref d] ∧ zs = [.ref q] ∧ H q = some (.met g a) ∧
      Rd H d (.dK kvs) ∧ kvs.map (·.1) = ks.map Sum.inr ∧ ks.length < 64 ∧ RankOk sp a kf ks H ∧ ∀ (ys : List PySem.Str) p H', Same H H' → ys.Perm ks → ys.Pairwise (rkLe kf) → H' p = none → Q (.ref p) (upd H' p (.lst (ys.map V.str)))) := by
    intro pins s σ H vs zs us ws Q I r rz h
    obtain ⟨d, q, a, kvs, ks, kf, rfl, rfl, hq, hd, hk, h64, tu, fin⟩ := h
    obtain rfl := Vals.ref1 r
    obtain rfl := Vals.ref1 rz
    exact sortedKM hcalm hr.in1.in1 hbd F I hd hk h64 hq tu fin
  refine ⟨fun pins s σ H Q I h => ?_⟩
  refine wpAny_Call_Name_kw (ld_blt I hg hm rfl ?_ (by decide) (by decide))
  show wpAny _ _ (callWith pos (.builtin "sorted") [] _ _) _ _ _
  refine callWith_kw (thn ((pa_cons he pa_nil hs1).run pos pins s σ H (fun vs H1 => match vs with
    | [x] => to σ H1 fun y H2 => ∃ (d a dx : Addr) (kvs : List (Key × V)) (fs : List (PySem.Str × V)) (ks : List PySem.Str) (kf : PySem.Str → Int), x = .ref d ∧ y = .ref a ∧ H2 a = some (.ins C dx fs) ∧ fs.lookup m = none ∧ Rd H2 d (.dK kvs) ∧ kvs.map (·.1) = ks.map Sum.inr ∧
        ks.length < 64 ∧ RankOk sp a kf ks H2 ∧ ∀ (ys : List PySem.Str) p H', Same H2 H' → ys.Perm ks → ys.Pairwise (rkLe kf) → H' p = none → Q (.ref p) (upd H' p (.lst (ys.map V.str)))
    | _ => False) I h) fun us s1 hu => ?_) hst hpl hall hno
  obtain ⟨vs, H1, I1, r1, q1⟩ := hu
  match vs, q1 with
  | [x], q1 =>
    refine wpAny_evalAll_cons (wpAny_bind (attr_of hb (thn (ho.run pins s1 σ H1 _ I1 q1) fun u s2 hu => ?_)))
    obtain ⟨y, H2, I2, r2, d, a, dx, kvs, fs, ks, kf, rfl, rfl, ea, l, hd, hk, h64, tu, fin⟩ := hu
    cases r2
    refine getbound_ok I2 ea cl B l fun q s3 hq I3 => wpAny_bind (wpAny_standAt (wpAny_pure ?_))
    refine wpAny_evalAll_nil ?_
    rw [hks]
    obtain rfl := Vals.ref1 r1
    have sm : Same H2 (upd H2 q (.met g a)) := fun b u e => by rw [upd_ne (ne_of_none e hq)]; exact e
    exact sortedKM hcalm hr.in1.in1 hbd F I3 (hd.elim (fun z => .inl (sm _ _ z)) fun ⟨ob, z⟩ => .inr ⟨ob, sm _ _ z⟩) hk h64 upd_same (fun x hx H' k => tu x hx H' fun b u e => k b u (sm b u e)) fun ys p H' k => fin ys p H' fun b u e => k b u (sm b u e)
end
end Mc
namespace Mc
open PySem L2 PySem.Spec PyProof.Rows
/-! < and <= of pairs (a number, a text) -/
section
variable {X : Cx}
def rPair (R : (PySem.Str → Int) → PySem.Str → PySem.Str → Prop) : R2 := fun x y H Q => ∃ (a b : Addr) (kf : PySem.Str → Int) (s t : PySem.Str), x = .ref a ∧ y = .ref b ∧ H a = some (.tup [.int (kf s), .str s]) ∧ H b = some (.tup [.int (kf t), .str t]) ∧ ∀ v : Bool, (v = true ↔ R kf s t) → Q (.bl v) H
theorem kdM_alike (kf : PySem.Str → Int) (s t : PySem.Str) : PySem.W.alike (kdM kf s) (kdM kf t) = true := by simp [kdM, PySem.W.alike, PySem.W.alikeAll]
theorem kdM_depth (kf : PySem.Str → Int) (s : PySem.Str) : (kdM kf s).depth = 1 := by simp [kdM, PyData.depth, PyData.depthAll]
theorem op_leP (hu : X.A.units + 1 < cLine) : OpR X (compareOp .LtE) (rPair rkLe) := by
  intro pins s σ H x y v u Q I rx ry h
  obtain ⟨a, b, kf, p, q, rfl, rfl, ha, hb, k⟩ := h
  cases rx
  cases ry
  refine PySem.W.le_data (tup_reads I.hok ha) (tup_reads I.hok hb) (kdM_alike kf p q) (by intro e; cases e) (by rw [show PyData.depth (.tuple [.int (kf p), .str p]) = 1 from kdM_depth kf p, show PyData.depth (.tuple [.int (kf q), .str q]) = 1 from kdM_depth kf q]; exact hu) ?_
  exact ⟨.bl _, H, I, rfl, k _ kdM_le⟩
theorem op_ltP (hu : X.A.units + 1 < cLine) : OpR X (compareOp .Lt) (rPair fun kf s t => ¬ rkLe kf t s) := by
  intro pins s σ H x y v u Q I rx ry h
  obtain ⟨a, b, kf, p, q, rfl, rfl, ha, hb, k⟩ := h
  cases rx
  cases ry
  refine PySem.W.lt_data (tup_reads I.hok ha) (tup_reads I.hok hb) (kdM_alike kf p q) (by intro e; cases e) (by rw [show PyData.depth (.tuple [.int (kf p), .str p]) = 1 from kdM_depth kf p, show PyData.depth (.tuple [.int (kf q), .str q]) = 1 from kdM_depth kf q]; exact hu) ?_
  refine ⟨.bl _, H, I, rfl, k _ ?_⟩
  have e : (!PySem.W.dataLt (kdM kf p) (kdM kf q)) = true ↔ rkLe kf q p := kdM_le
  show PySem.W.dataLt (kdM kf p) (kdM kf q) = true ↔ ¬ rkLe kf q p
  rw [← e]
  cases PySem.W.dataLt (kdM kf p) (kdM kf q) <;> simp
end
end Mc
namespace Mc
open PySem L2 PySem.Spec PyProof.Rows Evl
/-! ### what evaluates to what, further: fields, dicts, calls, comprehensions -/
theorem has_T {β : Type} {f : β → V} {l : List (PySem.Str × β)} {k : PySem.Str} : (valV (kvT f l) (Sum.inr k)).isSome = decide (k ∈ keysT l) := by
  cases e : getT l k with
  | none =>
    have h1 := getT_none.mp e
    have h2 : valV (kvT f l) (Sum.inr k) = none := by rw [val_T, e]; rfl
    rw [h2, decide_eq_false h1]
    rfl
  | some v =>
    have h1 : k ∈ keysT l := List.mem_map.mpr ⟨_, getT_in e, rfl⟩
    have h2 : valV (kvT f l) (Sum.inr k) = some (f v) := by rw [val_T, e]; rfl
    rw [h2, decide_eq_true h1]
    rfl
theorem dgetK {H : Hp} {a : Addr} {kvs : List (L2.Key × V)} {x : PySem.Str} (e : Rd H a (.dK kvs)) : DGet H a (.str x) (valV kvs (Sum.inr x)) := .inl ⟨kvs, Sum.inr x, e, rfl, rfl⟩
instance (f : PySem.Str → Int) (x y : PySem.Str) : Decidable (rkLe f x y) := by unfold rkLe ltN; exact inferInstance
theorem inV_str {x : PySem.Str} {xs : List PySem.Str} : inV (.str x) (xs.map V.str) = decide (x ∈ xs) := by
  unfold inV
  induction xs with
  | nil => rfl
  | cons y ys ih =>
    rw [List.map_cons, List.any_cons, ih]
    by_cases e : x = y
    · subst e
      have : eqV (V.str x) (V.str x) = true := by simp [eqV]
      simp [this]
    · have : eqV (V.str y) (V.str x) = false := by
        simp [eqV]
        exact fun z => e z.symm
      simp [this, e]
theorem flat_strs (xs : List PySem.Str) : (xs.map V.str).all flatV = true := by
  rw [List.all_map, List.all_eq_true]
  exact fun x _ => rfl
section
variable {K : PySem.W.Frag} {σ : L2.St} {H H' : Hp} {ta tb te tx to td ty tl : TE} {t u : TT} {x y z v : V} {r : R2}
theorem EvU.mono {xs : List V} (e : Ex H H') (h : EvU te σ H xs) : EvU te σ H' xs := fun H1 a Q q => h H1 (e.trans a) Q q
theorem ev_fld {p C dx : Addr} {fs : List (PySem.Str × V)} {f : PySem.Str} (h : Ev to σ H (.ref p)) (hp : H p = some (.ins C dx fs)) (c : Cls K C) (n : NoAttr K C f) (l : fs.lookup f = some v) : Ev (tFld K to f) σ H v := fun H1 e Q q =>
  h H1 e _ fun H2 e2 => ⟨p, C, dx, fs, v, rfl, e2 _ _ (e _ _ hp), c, n, l, q H2 e2⟩
theorem ev_dget {β : Type} {f : β → V} {l : List (PySem.Str × β)} {b : β} {d : Addr} {k : PySem.Str} (hd : Ev td σ H (.ref d)) (hk : Ev ty σ H (.str k)) (h : Rd H d (.dK (kvT f l))) (e : getT l k = some b) : Ev (tDGet td ty) σ H (f b) := fun H1 e1 Q q =>
  hd H1 e1 _ fun H2 e2 => hk H2 (e1.trans e2) _ fun H3 e3 => ⟨d, f b, rfl, dgetT (ex_rd ((e1.trans e2).trans e3) h) e, q H3 (e2.trans e3)⟩
theorem ev_din {β : Type} {f : β → V} {l : List (PySem.Str × β)} {d : Addr} {k : PySem.Str} (hk : Ev ty σ H (.str k)) (hd : Ev td σ H (.ref d)) (h : Rd H d (.dK (kvT f l))) : Ev (tDIn ty td) σ H (.bl (decide (k ∈ keysT l))) := fun H1 e1 Q q =>
  hk H1 e1 _ fun H2 e2 => hd H2 (e1.trans e2) _ fun H3 e3 => ⟨d, _, rfl, dgetK (ex_rd ((e1.trans e2).trans e3) h), by rw [has_T]; exact q H3 (e2.trans e3)⟩
theorem ev_dnotin {β : Type} {f : β → V} {l : List (PySem.Str × β)} {d : Addr} {k : PySem.Str} (hk : Ev ty σ H (.str k)) (hd : Ev td σ H (.ref d)) (h : Rd H d (.dK (kvT f l))) : Ev (tDNotIn ty td) σ H (.bl (!decide (k ∈ keysT l))) := fun H1 e1 Q q =>
  hk H1 e1 _ fun H2 e2 => hd H2 (e1.trans e2) _ fun H3 e3 => ⟨d, _, rfl, dgetK (ex_rd ((e1.trans e2).trans e3) h), by rw [has_T]; exact q H3 (e2.trans e3)⟩
theorem isD_rd {d : Addr} {kvs : List (L2.Key × V)} (h : Rd H d (.dK kvs)) : IsD H d := by
  rcases h with h | ⟨o, h⟩
  · first | exact .inl ⟨_, .inl h⟩ | exact ⟨_, .inl h⟩ | exact .inl ⟨kvs, h⟩ | (unfold IsD; exact .inl ⟨_, Rd.of h⟩)
  · first | exact .inl ⟨_, .inr ⟨o, h⟩⟩ | exact ⟨_, .inr ⟨o, h⟩⟩ | (unfold IsD; exact .inl ⟨_, .inr ⟨o, h⟩⟩)
/-- d.get(k, x) -/
theorem ev_get2 {β : Type} {f : β → V} {l : List (PySem.Str × β)} {d : Addr} {k : PySem.Str} (hd : Ev td σ H (.ref d)) (hk : Ev ty σ H (.str k)) (hx : Ev tx σ H z) (h : Rd H d (.dK (kvT f l))) : Ev (tDGet2 td ty tx) σ H (((getT l k).map f).getD z) := fun H1 e1 Q q =>
  hd H1 e1 _ fun H2 e2 => ⟨d, rfl, isD_rd (ex_rd (e1.trans e2) h), hk H2 (e1.trans e2) _ fun H3 e3 => hx H3 ((e1.trans e2).trans e3) _ fun H4 e4 => ⟨_, dgetN (ex_rd (((e1.trans e2).trans e3).trans e4) h), q H4 ((e2.trans e3).trans e4)⟩⟩
theorem ev_all {bs : List Bool} (h : EvL te σ H (bs.map V.bl)) : Ev (tCB (rAll K) (tCons te tNil)) σ H (.bl (bs.all id)) := fun H1 e Q q =>
  h H1 e _ fun p H2 _ e2 h2 => ⟨p, bs, rfl, sq_of h2, q H2 e2⟩
theorem ev_any {bs : List Bool} (h : EvL te σ H (bs.map V.bl)) : Ev (tCB (rAny K) (tCons te tNil)) σ H (.bl (bs.any id)) := fun H1 e Q q =>
  h H1 e _ fun p H2 _ e2 h2 => ⟨p, bs, rfl, sq_of h2, q H2 e2⟩
theorem ev_sum {ns : List Int} (h : EvL te σ H (ns.map V.int)) : Ev (tCB (rSum K) (tCons te tNil)) σ H (.int ns.sum) := fun H1 e Q q =>
  h H1 e _ fun p H2 _ e2 h2 => ⟨p, ns, rfl, sq_of h2, q H2 e2⟩
theorem ev_lenT {p : Addr} {xs : List V} (ha : Ev ta σ H (.ref p)) (h : SqT K H p xs) : Ev (tCB (rLenS K) (tCons ta tNil)) σ H (.int (xs.length : Int)) := fun H1 e Q q =>
  ha H1 e _ fun H2 e2 => ⟨p, xs, rfl, Or.inr (ex_t (e.trans e2) h), q H2 e2⟩
theorem rv_inSL {neg : Bool} {p : Addr} {s : PySem.Str} {xs : List PySem.Str} (h : SqL K H p (xs.map V.str)) : RV (rIn K neg) (.str s) (.ref p) H (.bl (if neg then !decide (s ∈ xs) else decide (s ∈ xs))) := by
  rw [← inV_str]
  exact rv_inL h rfl (flat_strs _)
theorem rv_inST {neg : Bool} {p : Addr} {s : PySem.Str} {xs : List PySem.Str} (h : SqT K H p (xs.map V.str)) : RV (rIn K neg) (.str s) (.ref p) H (.bl (if neg then !decide (s ∈ xs) else decide (s ∈ xs))) := by
  rw [← inV_str]
  exact rv_inT h rfl (flat_strs _)
theorem ev_inSL {p : Addr} {s : PySem.Str} {xs : List PySem.Str} (ha : Ev ta σ H (.str s)) (hb : Ev tb σ H (.ref p)) (h : SqL K H p (xs.map V.str)) : Ev (tOp (rIn K false) ta tb) σ H (.bl (decide (s ∈ xs))) := ev_op ha hb (rv_inSL (neg := false) h)
theorem ev_niSL {p : Addr} {s : PySem.Str} {xs : List PySem.Str} (ha : Ev ta σ H (.str s)) (hb : Ev tb σ H (.ref p)) (h : SqL K H p (xs.map V.str)) : Ev (tOp (rIn K true) ta tb) σ H (.bl (!decide (s ∈ xs))) := ev_op ha hb (rv_inSL (neg := true) h)
theorem ev_inST {p : Addr} {s : PySem.Str} {xs : List PySem.Str} (ha : Ev ta σ H (.str s)) (hb : Ev tb σ H (.ref p)) (h : SqT K H p (xs.map V.str)) : Ev (tOp (rIn K false) ta tb) σ H (.bl (decide (s ∈ xs))) := ev_op ha hb (rv_inST (neg := false) h)
theorem ev_niST {p : Addr} {s : PySem.Str} {xs : List PySem.Str} (ha : Ev ta σ H (.str s)) (hb : Ev tb σ H (.ref p)) (h : SqT K H p (xs.map V.str)) : Ev (tOp (rIn K true) ta tb) σ H (.bl (!decide (s ∈ xs))) := ev_op ha hb (rv_inST (neg := true) h)
theorem ev_eqS {a b : PySem.Str} (ha : Ev ta σ H (.str a)) (hb : Ev tb σ H (.str b)) : Ev (tOp rEq ta tb) σ H (.bl (decide (a = b))) := ev_is (ev_op ha hb (rv_eq rfl)) (by simp)
theorem ev_neS {a b : PySem.Str} (ha : Ev ta σ H (.str a)) (hb : Ev tb σ H (.str b)) : Ev (tOp rNe ta tb) σ H (.bl (!decide (a = b))) := ev_is (ev_op ha hb (rv_ne rfl)) (by simp)
theorem ev_eqB {a b : Bool} (ha : Ev ta σ H (.bl a)) (hb : Ev tb σ H (.bl b)) : Ev (tOp rEq ta tb) σ H (.bl (decide (a = b))) := ev_is (ev_op ha hb (rv_eq rfl)) (by simp)
theorem ev_neB {a b : Bool} (ha : Ev ta σ H (.bl a)) (hb : Ev tb σ H (.bl b)) : Ev (tOp rNe ta tb) σ H (.bl (!decide (a = b))) := ev_is (ev_op ha hb (rv_ne rfl)) (by simp)
theorem ev_eqI {a b : Int} (ha : Ev ta σ H (.int a)) (hb : Ev tb σ H (.int b)) : Ev (tOp rEq ta tb) σ H (.bl (decide (a = b))) := ev_is (ev_op ha hb (rv_eq rfl)) (by simp)
theorem ev_neI {a b : Int} (ha : Ev ta σ H (.int a)) (hb : Ev tb σ H (.int b)) : Ev (tOp rNe ta tb) σ H (.bl (!decide (a = b))) := ev_is (ev_op ha hb (rv_ne rfl)) (by simp)
/-- a method that gives a value and changes nothing that stood -/
theorem ev_meth {p C dx : Addr} {fs : List (PySem.Str × V)} {m : PySem.Str} {sp : Sp} {dvs vs : List V} {E : XK} {tr : TA} (h : Ev to σ H (.ref p)) (hp : H p = some (.ins C dx fs)) (l : fs.lookup m = none) (ha : EvA tr σ H vs) (hs : SpV sp (.ref p :: (vs ++ dvs)) H z) : Ev (tMeth C m sp dvs E to tr) σ H z := fun H1 e Q q =>
  h H1 e _ fun H2 e2 => ⟨p, dx, fs, rfl, e2 _ _ (e _ _ hp), l, ha H2 (e.trans e2) _ fun H3 e3 => hs H3 ((e.trans e2).trans e3) Q (fun H4 e4 => q H4 ((e2.trans e3).trans e4)) E⟩
theorem ev_anyM {α : Type} {ys : List α} {p : α → Bool} (h : EvL te σ H (ys.map fun y => V.bl (p y))) : Ev (tCB (rAny K) (tCons te tNil)) σ H (.bl (ys.any p)) := by
  rw [map_bl] at h
  have := ev_any (K := K) h
  rw [any_map_id] at this
  exact this
theorem ev_allM {α : Type} {ys : List α} {p : α → Bool} (h : EvL te σ H (ys.map fun y => V.bl (p y))) : Ev (tCB (rAll K) (tCons te tNil)) σ H (.bl (ys.all p)) := by
  rw [map_bl] at h
  have := ev_all (K := K) h
  rw [all_map_id] at this
  exact this
theorem ev_sumM {α : Type} {ys : List α} {p : α → Int} (h : EvL te σ H (ys.map fun y => V.int (p y))) : Ev (tCB (rSum K) (tCons te tNil)) σ H (.int (ys.map p).sum) := by
  have e : (ys.map fun y => V.int (p y)) = (ys.map p).map V.int := by rw [List.map_map]; rfl
  rw [e] at h
  exact ev_sum h
/-- the first operand a new tuple -/
theorem ev_op1U {xs : List V} (ha : EvU ta σ H xs) (hb : Ev tb σ H y) (hr : ∀ p H1, H1 p = some (.tup xs) → Ex H H1 → RV r (.ref p) y H1 z) : Ev (tOp r ta tb) σ H z := fun H1 e Q q =>
  ha H1 e _ fun p H2 _ e2 hp => hb H2 (e.trans e2) _ fun H3 e3 => hr p H3 (e3 p _ hp) ((e.trans e2).trans e3) H3 (Ex.refl H3) Q fun H4 e4 => q H4 ((e2.trans e3).trans e4)
theorem rv_leP {p q : Addr} {kf : PySem.Str → Int} {s t : PySem.Str} (hp : H p = some (.tup [.int (kf s), .str s])) (hq : H q = some (.tup [.int (kf t), .str t])) : RV (rPair rkLe) (.ref p) (.ref q) H (.bl (decide (rkLe kf s t))) := fun H1 e Q k =>
  ⟨p, q, kf, s, t, rfl, rfl, e _ _ hp, e _ _ hq, fun v hv => by
    have : v = decide (rkLe kf s t) := by
      cases v with
      | true => exact (decide_eq_true (hv.mp rfl)).symm
      | false => exact (decide_eq_false fun z => by have := hv.mpr z; cases this).symm
    rw [this]
    exact k H1 (Ex.refl _)⟩
theorem rv_gt {i j : Int} : RV (rI0 fun a b => .bl (decide (a > b))) (.int i) (.int j) H (.bl (decide (i > j))) := rv_I0
/-! comprehensions as maps and filters -/
section
variable {α : Type} {ys : List α} {j : Nat} {vs : List Nat} {a : Addr}
theorem el_mL {c : α → V} (f : α → V) (hl : Ev tl σ H (.ref a)) (h : SqL K H a (ys.map c)) (hz : ys.length ≤ 100000) (turn : ∀ (i : Nat) y, ys[i]? = some y → ∀ H', Ex H H' → Ev te ((wipe σ vs).set j (some (c y))) H' (f y)) (hw : ∀ v, wipe ((wipe σ vs).set j (some v)) vs = wipe σ vs := by intro _; rfl) :
    EvL (tLc (iList K tl) (gName j) tYes te vs) σ H (ys.map f) := fun H1 e Q q => hl H1 e _ fun H2 e2 => ⟨a, rfl, ⟨_, ex_l (e.trans e2) h⟩, fun D hD =>
  lc_m (j := j) (c := c) (ys := ys) walk_list f (by rw [List.length_map]) hD (fun H' s => ex_l ((e.trans e2).trans s) h) (sz_of hz) (fun i y H' k hy s hk => turn i y hy H' ((e.trans e2).trans s) H' (Ex.refl _) k hk) (fun H' s hD' => q D H' (fresh_back e2 hD) (e2.trans s) hD') hw⟩
theorem el_mT {c : α → V} (f : α → V) (hl : Ev tl σ H (.ref a)) (h : SqT K H a (ys.map c)) (hz : ys.length ≤ 100000) (turn : ∀ (i : Nat) y, ys[i]? = some y → ∀ H', Ex H H' → Ev te ((wipe σ vs).set j (some (c y))) H' (f y)) (hw : ∀ v, wipe ((wipe σ vs).set j (some v)) vs = wipe σ vs := by intro _; rfl) :
    EvL (tLc (iTup K tl) (gName j) tYes te vs) σ H (ys.map f) := fun H1 e Q q => hl H1 e _ fun H2 e2 => ⟨a, rfl, ⟨_, ex_t (e.trans e2) h⟩, fun D hD =>
  lc_m (j := j) (c := c) (ys := ys) walk_tup f (by rw [List.length_map]) hD (fun H' s => ex_t ((e.trans e2).trans s) h) (sz_of hz) (fun i y H' k hy s hk => turn i y hy H' ((e.trans e2).trans s) H' (Ex.refl _) k hk) (fun H' s hD' => q D H' (fresh_back e2 hD) (e2.trans s) hD') hw⟩
/-- over a new list -/
theorem el_mN {c : α → V} (f : α → V) (hl : EvL tl σ H (ys.map c)) (hz : ys.length ≤ 100000) (turn : ∀ (i : Nat) y, ys[i]? = some y → ∀ H', Ex H H' → Ev te ((wipe σ vs).set j (some (c y))) H' (f y)) (hw : ∀ v, wipe ((wipe σ vs).set j (some v)) vs = wipe σ vs := by intro _; rfl) :
    EvL (tLc (iList K tl) (gName j) tYes te vs) σ H (ys.map f) := fun H1 e Q q => hl H1 e _ fun a H2 ha e2 h2 => ⟨a, rfl, ⟨_, sq_of h2⟩, fun D hD =>
  lc_m (j := j) (c := c) (ys := ys) walk_list f (by rw [List.length_map]) hD (fun H' s => sq_of (s _ _ h2)) (sz_of hz) (fun i y H' k hy s hk => turn i y hy H' ((e.trans e2).trans s) H' (Ex.refl _) k hk) (fun H' s hD' => q D H' (fresh_back e2 hD) (e2.trans s) hD') hw⟩
theorem el_fL {c : α → V} (p : α → Bool) (f : α → V) (hl : Ev tl σ H (.ref a)) (h : SqL K H a (ys.map c)) (hz : ys.length ≤ 100000) (test : ∀ (i : Nat) y, ys[i]? = some y → ∀ H', Ex H H' → EvT t ((wipe σ vs).set j (some (c y))) H' (p y))
    (turn : ∀ (i : Nat) y, ys[i]? = some y → p y = true → ∀ H', Ex H H' → Ev te ((wipe σ vs).set j (some (c y))) H' (f y)) (hw : ∀ v, wipe ((wipe σ vs).set j (some v)) vs = wipe σ vs := by intro _; rfl) :
    EvL (tLc (iList K tl) (gName j) t te vs) σ H ((ys.filter p).map f) := fun H1 e Q q => hl H1 e _ fun H2 e2 => ⟨a, rfl, ⟨_, ex_l (e.trans e2) h⟩, fun D hD =>
  lc_f (j := j) (c := c) (ys := ys) walk_list p f (by rw [List.length_map]) hD (fun H' s => ex_l ((e.trans e2).trans s) h) (sz_of hz) (fun i y H' k hy s hk => test i y hy H' ((e.trans e2).trans s) H' (Ex.refl _) k hk) (fun i y H' k hy hp s hk => turn i y hy hp H' ((e.trans e2).trans s) H' (Ex.refl _) k hk) (fun H' s hD' => q D H' (fresh_back e2 hD) (e2.trans s) hD') hw⟩
theorem el_fT {c : α → V} (p : α → Bool) (f : α → V) (hl : Ev tl σ H (.ref a)) (h : SqT K H a (ys.map c)) (hz : ys.length ≤ 100000) (test : ∀ (i : Nat) y, ys[i]? = some y → ∀ H', Ex H H' → EvT t ((wipe σ vs).set j (some (c y))) H' (p y))
    (turn : ∀ (i : Nat) y, ys[i]? = some y → p y = true → ∀ H', Ex H H' → Ev te ((wipe σ vs).set j (some (c y))) H' (f y)) (hw : ∀ v, wipe ((wipe σ vs).set j (some v)) vs = wipe σ vs := by intro _; rfl) :
    EvL (tLc (iTup K tl) (gName j) t te vs) σ H ((ys.filter p).map f) := fun H1 e Q q => hl H1 e _ fun H2 e2 => ⟨a, rfl, ⟨_, ex_t (e.trans e2) h⟩, fun D hD =>
  lc_f (j := j) (c := c) (ys := ys) walk_tup p f (by rw [List.length_map]) hD (fun H' s => ex_t ((e.trans e2).trans s) h) (sz_of hz) (fun i y H' k hy s hk => test i y hy H' ((e.trans e2).trans s) H' (Ex.refl _) k hk) (fun i y H' k hy hp s hk => turn i y hy hp H' ((e.trans e2).trans s) H' (Ex.refl _) k hk) (fun H' s hD' => q D H' (fresh_back e2 hD) (e2.trans s) hD') hw⟩
theorem el_fN {c : α → V} (p : α → Bool) (f : α → V) (hl : EvL tl σ H (ys.map c)) (hz : ys.length ≤ 100000) (test : ∀ (i : Nat) y, ys[i]? = some y → ∀ H', Ex H H' → EvT t ((wipe σ vs).set j (some (c y))) H' (p y))
    (turn : ∀ (i : Nat) y, ys[i]? = some y → p y = true → ∀ H', Ex H H' → Ev te ((wipe σ vs).set j (some (c y))) H' (f y)) (hw : ∀ v, wipe ((wipe σ vs).set j (some v)) vs = wipe σ vs := by intro _; rfl) :
    EvL (tLc (iList K tl) (gName j) t te vs) σ H ((ys.filter p).map f) := fun H1 e Q q => hl H1 e _ fun a H2 ha e2 h2 => ⟨a, rfl, ⟨_, sq_of h2⟩, fun D hD =>
  lc_f (j := j) (c := c) (ys := ys) walk_list p f (by rw [List.length_map]) hD (fun H' s => sq_of (s _ _ h2)) (sz_of hz) (fun i y H' k hy s hk => test i y hy H' ((e.trans e2).trans s) H' (Ex.refl _) k hk) (fun i y H' k hy hp s hk => turn i y hy hp H' ((e.trans e2).trans s) H' (Ex.refl _) k hk) (fun H' s hD' => q D H' (fresh_back e2 hD) (e2.trans s) hD') hw⟩
/-- over the keys of a dict that is locked already -/
theorem el_mK {β : Type} {g : β → V} {l : List (PySem.Str × β)} {o : Obj} (f : PySem.Str → V) (hl : Ev tl σ H (.ref a)) (h : H a = some (.frz o (.dK (kvT g l)))) (hz : l.length ≤ 100000) (turn : ∀ (i : Nat) y, (keysT l)[i]? = some y → ∀ H', Ex H H' → Ev te ((wipe σ vs).set j (some (.str y))) H' (f y)) (hw : ∀ v, wipe ((wipe σ vs).set j (some v)) vs = wipe σ vs := by intro _; rfl) :
    EvL (tLc (iKeys tl) (gName j) tYes te vs) σ H ((keysT l).map f) := fun H1 e Q q => hl H1 e _ fun H2 e2 => ⟨a, o, rfl, .inl ⟨_, e2 _ _ (e _ _ h), fun D hD =>
  lc_m (j := j) (c := V.str) (ys := keysT l) walk_kT f rfl hD (fun H' s => s _ _ (e2 _ _ (e _ _ h))) (by unfold keysT; rw [List.length_map]; exact sz_of hz) (fun i y H' k hy s hk => turn i y hy H' ((e.trans e2).trans s) H' (Ex.refl _) k hk) (fun H' s hD' => q D H' (fresh_back e2 hD) (e2.trans s) hD') hw⟩⟩
theorem el_fK {β : Type} {g : β → V} {l : List (PySem.Str × β)} {o : Obj} (p : PySem.Str → Bool) (f : PySem.Str → V) (hl : Ev tl σ H (.ref a)) (h : H a = some (.frz o (.dK (kvT g l)))) (hz : l.length ≤ 100000) (test : ∀ (i : Nat) y, (keysT l)[i]? = some y → ∀ H', Ex H H' → EvT t ((wipe σ vs).set j (some (.str y))) H' (p y))
    (turn : ∀ (i : Nat) y, (keysT l)[i]? = some y → p y = true → ∀ H', Ex H H' → Ev te ((wipe σ vs).set j (some (.str y))) H' (f y)) (hw : ∀ v, wipe ((wipe σ vs).set j (some v)) vs = wipe σ vs := by intro _; rfl) :
    EvL (tLc (iKeys tl) (gName j) t te vs) σ H (((keysT l).filter p).map f) := fun H1 e Q q => hl H1 e _ fun H2 e2 => ⟨a, o, rfl, .inl ⟨_, e2 _ _ (e _ _ h), fun D hD =>
  lc_f (j := j) (c := V.str) (ys := keysT l) walk_kT p f rfl hD (fun H' s => s _ _ (e2 _ _ (e _ _ h))) (by unfold keysT; rw [List.length_map]; exact sz_of hz) (fun i y H' k hy s hk => test i y hy H' ((e.trans e2).trans s) H' (Ex.refl _) k hk) (fun i y H' k hy hp s hk => turn i y hy hp H' ((e.trans e2).trans s) H' (Ex.refl _) k hk) (fun H' s hD' => q D H' (fresh_back e2 hD) (e2.trans s) hD') hw⟩⟩
/-- a list made while the dict d is locked, from the state within the lock -/
theorem el_lock {kvs : List (L2.Key × V)} {xs : List V} (h : H a = some (.dK kvs)) (k : ∀ od, EvL te σ (upd H a (.frz od (.dK kvs))) xs) : EvL (tLockE te) σ H xs := fun H1 e Q q => by
  have h1 := e _ _ h
  refine ⟨a, _, h1, trivial, fun od => ?_⟩
  have e1 : Ex (upd H a (.frz od (.dK kvs))) (upd H1 a (.frz od (.dK kvs))) := fun b o z => by
    by_cases nb : b = a
    · rw [nb, upd_same] at z ⊢; exact z
    · rw [upd_ne nb] at z ⊢; exact e _ _ z
  refine k od _ e1 _ fun p H2 hp e2 h2 => ?_
  have na : p ≠ a := fun z => by rw [z, upd_same] at hp; cases hp
  have fa : H2 a = some (.frz od (.dK kvs)) := e2 _ _ upd_same
  refine ⟨fa, q p _ (by rw [upd_ne na] at hp; exact hp) (fun b o z => ?_) (by rw [upd_ne na]; exact h2)⟩
  by_cases nb : b = a
  · rw [nb, h1] at z; rw [nb, upd_same]; exact z
  · rw [upd_ne nb]; exact e2 _ _ (by rw [upd_ne nb]; exact z)
end
end
/-! ### statements under a dict's lock -/
section
variable {K : PySem.W.Frag} {σ : L2.St} {H H' : Hp} {te td : TE} {D : Ends} {tb tz : TS} {a : Addr} {u : HO}
theorem ex_lock {H1 : Hp} {f : HO} (e : Ex H H1) : Ex (upd H a f) (upd H1 a f) := fun b o z => by
  by_cases nb : b = a
  · rw [nb, upd_same] at z ⊢; exact z
  · rw [upd_ne nb] at z ⊢; exact e _ _ z
theorem ex_unlock {f : HO} (h : H a = some u) (e : Ex (upd H a f) H') : Ex H (upd H' a u) := fun b o z => by
  by_cases nb : b = a
  · rw [nb, h] at z; rw [nb, upd_same]; exact z
  · rw [upd_ne nb]; exact e _ _ (by rw [upd_ne nb]; exact z)
/-- y = [.. for k in d ..], d locked meanwhile -/
theorem s_lockL {kvs : List (L2.Key × V)} {xs : List V} {i : Nat} (h : H a = some (.dK kvs)) (k : ∀ od, EvL te σ (upd H a (.frz od (.dK kvs))) xs) (q : ∀ p H1, H p = none → Ex H H1 → H1 p = some (.lst xs) → D.nx (σ.set i (some (.ref p))) H1) : tLock (tAsg te (gName i)) D σ H := by
  refine ⟨a, _, h, trivial, fun od => k od _ (Ex.refl _) _ fun p H2 hp e2 h2 => ?_⟩
  have na : p ≠ a := fun z => by rw [z, upd_same] at hp; cases hp
  refine ⟨e2 _ _ upd_same, q p _ (by rw [upd_ne na] at hp; exact hp) (ex_unlock h e2) (by rw [upd_ne na]; exact h2)⟩
theorem q_lockL {kvs : List (L2.Key × V)} {xs : List V} {i : Nat} (h : H a = some (.dK kvs)) (k : ∀ od, EvL te σ (upd H a (.frz od (.dK kvs))) xs) (q : ∀ p H1, H p = none → Ex H H1 → H1 p = some (.lst xs) → tz D (σ.set i (some (.ref p))) H1) : tSeq (tLock (tAsg te (gName i))) tz D σ H :=
  s_lockL (D := { D with nx := tz D }) h k q
/-- for k in d: ..; the turns within the lock -/
theorem s_lockFor {β : Type} {g : β → V} {l : List (PySem.Str × β)} {j : Nat} (h : H a = some (.dK (kvT g l))) (hd : ∀ od, Ev td σ (upd H a (.frz od (.dK (kvT g l)))) (.ref a)) (Pv : Obj → Nat → L2.St → Hp → Prop) (h0 : ∀ od H1, Ex (upd H a (.frz od (.dK (kvT g l)))) H1 → Pv od 0 σ H1)
    (hl : ∀ od i σ' H', Pv od i σ' H' → H' a = some (.frz od (.dK (kvT g l))))
    (hs : ∀ od (i : Nat) y σ' H', (keysT l)[i]? = some y → Pv od i σ' H' → tb ⟨Pv od (i + 1), fun v H' => H' a = some (.frz od (.dK (kvT g l))) ∧ D.rt v (upd H' a (.dK (kvT g l))), fun σ' H' => H' a = some (.frz od (.dK (kvT g l))) ∧ D.nx σ' (upd H' a (.dK (kvT g l))), Pv od (i + 1)⟩ (σ'.set j (some (.str y))) H')
    (he : ∀ od σ' H', Pv od (keysT l).length σ' H' → D.nx σ' (upd H' a (.dK (kvT g l)))) : tLock (tFor (iKeys td) (gName j) tb) D σ H := by
  refine ⟨a, _, h, trivial, fun od => hd od _ (Ex.refl _) _ fun H1 e1 => ⟨a, od, rfl, .inl ⟨_, e1 _ _ upd_same, for_it walk_kT (Pv od) (h0 od H1 e1) (fun i σ' H' _ p => hl od i σ' H' p) ?_ ?_⟩⟩⟩
  · rintro i x σ' H' H'' hi p ⟨rfl, hx⟩
    rw [List.getElem?_map] at hx
    cases e : (keysT l)[i]? with
    | none => rw [e] at hx; cases hx
    | some y =>
      rw [e] at hx
      obtain rfl := Option.some.inj hx
      exact hs od i y σ' _ e p
  · exact fun σ' H' p => ⟨hl od _ σ' H' p, he od σ' H' p⟩
theorem q_lockFor {β : Type} {g : β → V} {l : List (PySem.Str × β)} {j : Nat} (h : H a = some (.dK (kvT g l))) (hd : ∀ od, Ev td σ (upd H a (.frz od (.dK (kvT g l)))) (.ref a)) (Pv : Obj → Nat → L2.St → Hp → Prop) (h0 : ∀ od H1, Ex (upd H a (.frz od (.dK (kvT g l)))) H1 → Pv od 0 σ H1)
    (hl : ∀ od i σ' H', Pv od i σ' H' → H' a = some (.frz od (.dK (kvT g l))))
    (hs : ∀ od (i : Nat) y σ' H', (keysT l)[i]? = some y → Pv od i σ' H' → tb ⟨Pv od (i + 1), fun v H' => H' a = some (.frz od (.dK (kvT g l))) ∧ D.rt v (upd H' a (.dK (kvT g l))), fun σ' H' => H' a = some (.frz od (.dK (kvT g l))) ∧ tz D σ' (upd H' a (.dK (kvT g l))), Pv od (i + 1)⟩ (σ'.set j (some (.str y))) H')
    (he : ∀ od σ' H', Pv od (keysT l).length σ' H' → tz D σ' (upd H' a (.dK (kvT g l)))) : tSeq (tLock (tFor (iKeys td) (gName j) tb)) tz D σ H :=
  s_lockFor (D := { D with nx := tz D }) h hd Pv h0 hl hs he
end
section
variable {X : Cx} {K : PySem.W.Frag}
theorem cr_anyK (h : X.K = K) (hc : X.calm = true) : CallR X (.builtin "any") (rAny K) := by subst h; exact cr_any hc
theorem cr_allK (h : X.K = K) (hc : X.calm = true) : CallR X (.builtin "all") (rAll K) := by subst h; exact cr_all hc
theorem cr_sumK (h : X.K = K) (hc : X.calm = true) : CallR X (.builtin "sum") (rSum K) := by subst h; exact cr_sum hc
end
end Mc
namespace Mc
open PySem L2 PySem.Spec PyProof.Rows Evl
/-! == and != of plain data: it tells whether they are the same -/
mutual
def sdD : PyData → Bool
  | .none => true
  | .bool _ => false
  | .int _ => true
  | .str x => PyData.strOk x
  | .list xs => sdA xs
  | .tuple xs => sdA xs
  | .dict _ => false
def sdA : List PyData → Bool
  | [] => true
  | x :: xs => sdD x && sdA xs
end
mutual
theorem sdD_lay : ∀ d : PyData, sdD d = true → d.canLay0 = true
  | .none, _ => rfl
  | .bool _, _ => rfl
  | .int _, _ => rfl
  | .str x, h => by rw [sdD] at h; rw [PyData.canLay0]; exact h
  | .list xs, h => by rw [sdD] at h; rw [PyData.canLay0]; exact sdA_lay xs h
  | .tuple xs, h => by rw [sdD] at h; rw [PyData.canLay0]; exact sdA_lay xs h
  | .dict _, h => by rw [sdD] at h; cases h
theorem sdA_lay : ∀ ds : List PyData, sdA ds = true → PyData.canLayAll0 ds = true
  | [], _ => by rw [PyData.canLayAll0]
  | x :: xs, h => by
    rw [sdA, Bool.and_eq_true] at h
    rw [PyData.canLayAll0, sdD_lay x h.1, sdA_lay xs h.2]; rfl
end
mutual
theorem eqv_sd : ∀ d e : PyData, sdD d = true → sdD e = true → (PyData.eqv d e = true ↔ d = e)
  | .bool _, _, h, _ => by rw [sdD] at h; cases h
  | .dict _, _, h, _ => by rw [sdD] at h; cases h
  | .none, e, _, k => by
    cases e <;> simp [PyData.eqv]
  | .int i, e, _, k => by
    cases e <;> simp [PyData.eqv]
    rw [sdD] at k; cases k
  | .str x, e, _, k => by
    cases e <;> simp [PyData.eqv]
  | .list xs, e, h, k => by
    cases e <;> simp [PyData.eqv]
    rw [sdD] at h k
    exact eqvA_sd xs _ h k
  | .tuple xs, e, h, k => by
    cases e <;> simp [PyData.eqv]
    rw [sdD] at h k
    exact eqvA_sd xs _ h k
theorem eqvA_sd : ∀ d e : List PyData, sdA d = true → sdA e = true → (PyData.eqvAll d e = true ↔ d = e)
  | [], e, _, _ => by
    cases e <;> simp [PyData.eqvAll]
  | x :: xs, [], _, _ => by simp [PyData.eqvAll]
  | x :: xs, y :: ys, h, k => by
    rw [sdA, Bool.and_eq_true] at h k
    rw [PyData.eqvAll, Bool.and_eq_true, eqv_sd x y h.1 k.1, eqvA_sd xs ys h.2 k.2]
    simp
end
mutual
theorem dp_ex {K : PySem.W.Frag} {H H' : Hp} (e : Ex H H') : ∀ (d : PyData) (v : V), Dp K H v d → Dp K H' v d
  | .none, _, h => by cases h; exact .non
  | .bool b, _, h => by cases h; exact .bl b
  | .int i, _, h => by cases h; exact .int i
  | .str x, _, h => by cases h; exact .str x
  | .list xs, _, h => by
    cases h with
    | lst a b => exact .lst (ex_l e a) (dpA_ex e xs _ b)
  | .tuple xs, _, h => by
    cases h with
    | tup a b => exact .tup (ex_t e a) (dpA_ex e xs _ b)
  | .dict _, _, h => by cases h
theorem dpA_ex {K : PySem.W.Frag} {H H' : Hp} (e : Ex H H') : ∀ (ds : List PyData) (vs : List V), DpAll K H vs ds → DpAll K H' vs ds
  | [], _, h => by cases h; exact .nil
  | d :: ds, _, h => by
    cases h with
    | cons a b => exact .cons (dp_ex e d _ a) (dpA_ex e ds _ b)
end
theorem eqv_is {d e : PyData} {b : Bool} (sd : sdD d = true) (se : sdD e = true) (hb : b = true ↔ d = e) : PyData.eqv d e = b := by
  cases w : PyData.eqv d e with
  | true => exact (hb.mpr ((eqv_sd d e sd se).mp w)).symm
  | false =>
    cases b with
    | false => rfl
    | true => rw [(eqv_sd d e sd se).mpr (hb.mp rfl)] at w; cases w
theorem shp_sd {d : PyData} (sd : sdD d = true) (nd : d.depth ≤ 64) : SeqAt.shaped d = true := by
  unfold SeqAt.shaped; rw [sdD_lay d sd, decide_eq_true nd]; rfl
theorem rv_eqDD {K : PySem.W.Frag} {H : Hp} {x y : V} {d e : PyData} {b : Bool} (hx : Dp K H x d) (hy : Dp K H y e) (sd : sdD d = true) (se : sdD e = true) (nd : d.depth ≤ 64) (ne : e.depth ≤ 64) (hb : b = true ↔ d = e) : RV (rEqD K) x y H (.bl b) := fun H1 e1 Q q =>
  ⟨d, e, dp_ex e1 d x hx, dp_ex e1 e y hy, shp_sd sd nd, shp_sd se ne, by rw [eqv_is sd se hb]; exact q H1 (Ex.refl _)⟩
theorem rv_neDD {K : PySem.W.Frag} {H : Hp} {x y : V} {d e : PyData} {b : Bool} (hx : Dp K H x d) (hy : Dp K H y e) (sd : sdD d = true) (se : sdD e = true) (nd : d.depth ≤ 64) (ne : e.depth ≤ 64) (hb : b = true ↔ d = e) : RV (rNeD K) x y H (.bl (!b)) := fun H1 e1 Q q =>
  ⟨d, e, dp_ex e1 d x hx, dp_ex e1 e y hy, shp_sd sd nd, shp_sd se ne, by rw [eqv_is sd se hb]; exact q H1 (Ex.refl _)⟩
/-! forms of data -/
theorem sdA_map {α : Type} {f : α → PyData} {xs : List α} (h : ∀ x ∈ xs, sdD (f x) = true) : sdA (xs.map f) = true := by
  induction xs with
  | nil => rfl
  | cons x xs ih =>
    rw [List.map_cons, sdA, h x (by simp), ih fun y hy => h y (by simp [hy])]; rfl
theorem depA_map {α : Type} {f : α → PyData} {xs : List α} {n : Nat} (h : ∀ x ∈ xs, (f x).depth ≤ n) : PyData.depthAll (xs.map f) ≤ n := by
  induction xs with
  | nil => rw [List.map_nil, PyData.depthAll]; exact Nat.zero_le _
  | cons x xs ih =>
    rw [List.map_cons, PyData.depthAll]
    exact Nat.max_le.mpr ⟨h x (by simp), ih fun y hy => h y (by simp [hy])⟩
theorem dpA_paired {α : Type} {K : PySem.W.Frag} {H : Hp} {f : α → PyData} {R : α → V → Prop} (hR : ∀ x v, R x v → Dp K H v (f x)) : ∀ {xs : List α} {vs : List V}, Paired R xs vs → DpAll K H vs (xs.map f)
  | _, _, .nil => .nil
  | _, _, .cons r t => .cons (hR _ _ r) (dpA_paired hR t)
theorem dpA_map {α : Type} {K : PySem.W.Frag} {H : Hp} {f : α → PyData} {g : α → V} (xs : List α) (h : ∀ x ∈ xs, Dp K H (g x) (f x)) : DpAll K H (xs.map g) (xs.map f) := by
  induction xs with
  | nil => exact .nil
  | cons x xs ih => exact .cons (h x (by simp)) (ih fun y hy => h y (by simp [hy]))
theorem pdI_inj {xs ys : List Int} : pdI xs = pdI ys ↔ xs = ys := by
  unfold pdI
  constructor
  · intro h
    injection h with h
    exact (List.map_inj_right (fun a b e => by injection e)).mp h
  · intro h; rw [h]
theorem sd_pdI (xs : List Int) : sdD (pdI xs) = true := by
  unfold pdI
  rw [sdD]; exact sdA_map fun _ _ => by rw [sdD]
theorem dep_pdI (xs : List Int) : (pdI xs).depth ≤ 1 := by
  unfold pdI
  rw [PyData.depth]
  exact Nat.succ_le_succ (depA_map fun _ _ => by rw [PyData.depth]; exact Nat.le_refl _)
/-- lists of ints -/
theorem rv_eqIL {K : PySem.W.Frag} {H : Hp} {a b : Addr} {xs ys : List Int} (ha : SqL K H a (xs.map V.int)) (hb : SqL K H b (ys.map V.int)) : RV (rEqD K) (.ref a) (.ref b) H (.bl (decide (xs = ys))) :=
  rv_eqDD (dp_ints ha) (dp_ints hb) (sd_pdI _) (sd_pdI _) (Nat.le_trans (dep_pdI _) (by decide)) (Nat.le_trans (dep_pdI _) (by decide)) (by rw [decide_eq_true_eq]; exact pdI_inj.symm)
theorem rv_neIL {K : PySem.W.Frag} {H : Hp} {a b : Addr} {xs ys : List Int} (ha : SqL K H a (xs.map V.int)) (hb : SqL K H b (ys.map V.int)) : RV (rNeD K) (.ref a) (.ref b) H (.bl (!decide (xs = ys))) :=
  rv_neDD (dp_ints ha) (dp_ints hb) (sd_pdI _) (sd_pdI _) (Nat.le_trans (dep_pdI _) (by decide)) (Nat.le_trans (dep_pdI _) (by decide)) (by rw [decide_eq_true_eq]; exact pdI_inj.symm)
end Mc
namespace Mc.Cn
open PySem L2 PySem.Spec PyProof.Rows
/-! ### the council as plain data: entries, records, letters, keepers, sequencers -/
inductive En where
  | int (n : Int)
  | str (x : PySem.Str)
  | tag (x : PySem.Str) (n : Int)
deriving DecidableEq
def En.d : En → PyData
  | .int n => .int n
  | .str x => .str x
  | .tag x n => .tuple [.str x, .int n]
def En.ok : En → Prop
  | .int _ => True
  | .str x => sdD (.str x) = true
  | .tag x _ => sdD (.str x) = true
theorem En.inj : ∀ {a b : En}, a.d = b.d ↔ a = b := by
  intro a b
  constructor
  · intro h
    cases a <;> cases b <;> simp_all [En.d]
  · rintro rfl; rfl
theorem En.sd {x : En} (h : x.ok) : sdD x.d = true := by
  cases x with
  | int n => rfl
  | str s => exact h
  | tag s n => show sdA [.str s, .int n] = true; have h : sdD (.str s) = true := h; unfold sdA; rw [h]; rfl
theorem En.dep (x : En) : x.d.depth ≤ 1 := by
  cases x with
  | int n => exact Nat.zero_le _
  | str s => exact Nat.zero_le _
  | tag s n => exact Nat.le_refl _
abbrev Row := List (Int × En)
def pairD (q : Int × En) : PyData := .tuple [.int q.1, q.2.d]
theorem pairD_inj {p q : Int × En} : pairD p = pairD q ↔ p = q := by
  constructor
  · intro h
    unfold pairD at h
    simp only [PyData.tuple.injEq, List.cons.injEq, PyData.int.injEq, and_true] at h
    exact Prod.ext h.1 (En.inj.mp h.2)
  · rintro rfl; rfl
def rowD (r : Row) : PyData := .tuple (r.map pairD)
inductive Rec where
  | prom (e : Int)
  | take (e : Int) (p : Nat) (x : En)
deriving DecidableEq
def Rec.d : Rec → PyData
  | .prom e => .tuple [.str "promise", .int e]
  | .take e p x => .tuple [.str "take", .int e, .int p, x.d]
def Rec.ep : Rec → Int | .prom e => e | .take e _ _ => e
def Rec.ok : Rec → Prop | .prom _ => True | .take _ _ x => x.ok
inductive Ltr where
  | ask (e : Int) (n : Nat)
  | write (e : Int) (n p : Nat) (x : En)
  | refused (e : Int) (n : Nat) (k : Int)
  | told (e : Int) (n : Nat) (row : Row)
  | taken (e : Int) (n p : Nat)
deriving DecidableEq
def Ltr.d : Ltr → PyData
  | .ask e n => .tuple [.str "ask", .int e, .int n]
  | .write e n p x => .tuple [.str "write", .int e, .int n, .int p, x.d]
  | .refused e n k => .tuple [.str "refused", .int e, .int n, .int k]
  | .told e n row => .tuple [.str "told", .int e, .int n, rowD row]
  | .taken e n p => .tuple [.str "taken", .int e, .int n, .int p]
def Ltr.ep : Ltr → Int | .ask e _ => e | .write e _ _ _ => e | .refused e _ _ => e | .told e _ _ => e | .taken e _ _ => e
def Ltr.num : Ltr → Nat | .ask _ n => n | .write _ n _ _ => n | .refused _ n _ => n | .told _ n _ => n | .taken _ n _ => n
def Ltr.isAns : Ltr → Bool | .ask .. => false | .write .. => false | _ => true
def Ltr.in_ (B : Nat) : Ltr → Prop | .write _ _ _ x => x.ok | .told _ _ row => row.length ≤ B ∧ ∀ q ∈ row, q.2.ok | _ => True
def Ltr.ok (B many : Nat) (l : Ltr) : Prop := l.num < many ∧ l.in_ B
theorem Ltr.ok.mono {B B' many : Nat} {l : Ltr} (h : l.ok B many) (k : B ≤ B') : l.ok B' many := ⟨h.1, by
  cases l with
  | told e n row => exact ⟨Nat.le_trans h.2.1 k, h.2.2⟩
  | write e n p x => exact h.2
  | _ => trivial⟩
/-! ### what a keeper knows -/
structure Kn where
  ep : Int
  row : Row
def Kn.put (k : Kn) (e : Int) (p : Nat) (x : En) : Row := k.row.take p ++ [(e, x)] ++ k.row.drop (p + 1)
def Kn.step (k : Kn) : Rec → Kn
  | .prom e => ⟨if e > k.ep then e else k.ep, k.row⟩
  | .take e p x => ⟨if e > k.ep then e else k.ep, k.put e p x⟩
def Kn.all (k : Kn) (rs : List Rec) : Kn := rs.foldl Kn.step k
def Kn.new : Kn := ⟨-1, []⟩
def Kn.okR (k : Kn) : Rec → Prop | .prom _ => True | .take _ p _ => p ≤ k.row.length
def Kn.wf : Kn → List Rec → Prop
  | _, [] => True
  | k, r :: rs => k.okR r ∧ Kn.wf (k.step r) rs
theorem Kn.all_app (k : Kn) (a b : List Rec) : k.all (a ++ b) = (k.all a).all b := List.foldl_append ..
theorem Kn.all_one (k : Kn) (r : Rec) : k.all [r] = k.step r := rfl
theorem Kn.wf_app : ∀ {k : Kn} {a b : List Rec}, k.wf (a ++ b) ↔ k.wf a ∧ (k.all a).wf b
  | k, [], b => ⟨fun h => ⟨trivial, h⟩, fun h => h.2⟩
  | k, r :: a, b => by
    show (k.okR r ∧ (k.step r).wf (a ++ b)) ↔ (k.okR r ∧ (k.step r).wf a) ∧ ((k.step r).all a).wf b
    rw [Kn.wf_app (k := k.step r)]
    exact ⟨fun ⟨x, y, z⟩ => ⟨⟨x, y⟩, z⟩, fun ⟨⟨x, y⟩, z⟩ => ⟨x, y, z⟩⟩
theorem Kn.put_len {k : Kn} {e : Int} {x : En} {p : Nat} (h : p ≤ k.row.length) : (k.put e p x).length ≤ k.row.length + 1 := by
  unfold Kn.put
  rw [List.length_append, List.length_append, List.length_take, List.length_drop, List.length_singleton]
  omega
theorem Kn.all_len : ∀ {rs : List Rec} {k : Kn}, k.wf rs → (k.all rs).row.length ≤ k.row.length + rs.length
  | [], k, _ => Nat.le_refl _
  | r :: rs, k, ⟨h1, h2⟩ => by
    have ih := Kn.all_len h2
    have : (k.step r).row.length ≤ k.row.length + 1 := by
      cases r with
      | prom e => exact Nat.le_succ _
      | take e p x => exact Kn.put_len h1
    show ((k.step r).all rs).row.length ≤ _
    rw [List.length_cons]
    omega
theorem Kn.step_in {k : Kn} {r : Rec} {q : Int × En} (h : q ∈ (k.step r).row) (hr : r.ok) (hk : ∀ z ∈ k.row, z.2.ok) : q.2.ok := by
  cases r with
  | prom e => exact hk _ h
  | take e p x =>
    have h : q ∈ k.row.take p ++ [(e, x)] ++ k.row.drop (p + 1) := h
    rcases List.mem_append.mp h with h | h
    · rcases List.mem_append.mp h with h | h
      · exact hk _ (List.mem_of_mem_take h)
      · rw [List.mem_singleton.mp h]; exact hr
    · exact hk _ (List.mem_of_mem_drop h)
theorem Kn.all_in : ∀ {rs : List Rec} {k : Kn}, (∀ r ∈ rs, r.ok) → (∀ z ∈ k.row, z.2.ok) → ∀ q ∈ (k.all rs).row, q.2.ok
  | [], _, _, h => h
  | r :: rs, k, hr, h => Kn.all_in (rs := rs) (k := k.step r) (fun x hx => hr x (by simp [hx])) fun _ hq => Kn.step_in (k := k) (r := r) hq (hr r (by simp)) h
/-- whether an entry may be taken at a place -/
def Kn.bars (k : Kn) (e : Int) (p : Nat) : Bool := decide (k.row.length < p) || (decide (0 < p) && !decide ((k.row[p - 1]?.map (·.1)) = some e))
def Kn.isNew (k : Kn) (e : Int) (p : Nat) (x : En) : Bool := decide (p = k.row.length) || !decide (k.row[p]? = some (e, x))
def Kn.recOf (k : Kn) : Ltr → Option Rec
  | .ask e _ => if e < k.ep then none else if e > k.ep then some (.prom e) else none
  | .write e _ p x => if e < k.ep then none else if k.bars e p then none else if k.isNew e p x then some (.take e p x) else none
  | _ => none
def Kn.ansOf (k : Kn) (n : Nat) : Ltr → Option Ltr
  | .ask e _ => if e < k.ep then some (.refused e n k.ep) else some (.told e n k.row)
  | .write e _ p _ => if e < k.ep then some (.refused e n k.ep) else if k.bars e p then none else some (.taken e n p)
  | _ => none
def oList {α : Type} : Option α → List α | none => [] | some a => [a]
theorem recOf_ok {k : Kn} {l : Ltr} : k.wf (oList (k.recOf l)) := by
  cases l with
  | ask e n =>
    show k.wf (oList (if e < k.ep then none else if e > k.ep then some (.prom e) else none))
    split
    · trivial
    · split
      · exact ⟨trivial, trivial⟩
      · trivial
  | write e n p x =>
    show k.wf (oList (if e < k.ep then none else if k.bars e p then none else if k.isNew e p x then some (.take e p x) else none))
    split
    · trivial
    · split
      · trivial
      · rename_i h
        split
        · refine ⟨?_, trivial⟩
          show p ≤ k.row.length
          unfold Kn.bars at h
          simp only [Bool.or_eq_true, decide_eq_true_eq, not_or] at h
          omega
        · trivial
  | _ => trivial
theorem oList_len {α : Type} (o : Option α) : (oList o).length ≤ 1 := by cases o <;> simp [oList]
/-! ### a keeper -/
structure KeS where
  n : Nat
  rs : List Rec
  lo : List Rec
  wa : List Ltr
def KeS.kn (k : KeS) : Kn := Kn.new.all (k.rs ++ k.lo)
def KeS.new (n : Nat) : KeS := ⟨n, [], [], []⟩
def KeS.handle (k : KeS) (l : Ltr) : KeS := ⟨k.n, k.rs, k.lo ++ oList (k.kn.recOf l), k.wa ++ oList (k.kn.ansOf k.n l)⟩
def KeS.flush (k : KeS) : KeS := ⟨k.n, k.rs ++ k.lo, [], []⟩
def KeS.fall (k : KeS) (m : Nat) : KeS := ⟨k.n, k.rs ++ k.lo.take m, [], []⟩
structure KOk (B many i : Nat) (k : KeS) : Prop where
  num : k.n = i
  wf : Kn.new.wf (k.rs ++ k.lo)
  ok : ∀ r ∈ k.rs ++ k.lo, r.ok
  wa : ∀ l ∈ k.wa, l.ok B many ∧ l.isAns = true
  len : (k.rs ++ k.lo).length ≤ B
  lwa : k.wa.length ≤ B
theorem KOk.new {B many i : Nat} : KOk B many i (KeS.new i) := ⟨rfl, trivial, fun _ h => by simp [KeS.new] at h, fun _ h => by simp [KeS.new] at h, Nat.zero_le _, Nat.zero_le _⟩
theorem KOk.mono {B B' many i : Nat} {k : KeS} (h : KOk B many i k) (b : B ≤ B') : KOk B' many i k :=
  ⟨h.num, h.wf, h.ok, fun l hl => ⟨(h.wa l hl).1.mono b, (h.wa l hl).2⟩, Nat.le_trans h.len b, Nat.le_trans h.lwa b⟩
theorem KOk.row {B many i : Nat} {k : KeS} (h : KOk B many i k) : k.kn.row.length ≤ B ∧ ∀ q ∈ k.kn.row, q.2.ok := by
  refine ⟨Nat.le_trans (Kn.all_len h.wf) ?_, Kn.all_in h.ok fun _ hz => by simp [Kn.new] at hz⟩
  have := h.len
  show 0 + _ ≤ B
  omega
theorem KOk.handle {B many i : Nat} {k : KeS} {l : Ltr} (h : KOk B many i k) (hl : l.ok B many) (hi : i < many) : KOk (B + 1) many i (k.handle l) := by
  refine ⟨h.num, ?_, fun r hr => ?_, fun x hx => ?_, ?_, ?_⟩
  · show Kn.new.wf (k.rs ++ (k.lo ++ oList (k.kn.recOf l)))
    rw [← List.append_assoc]
    exact Kn.wf_app.mpr ⟨h.wf, recOf_ok⟩
  · have hr : r ∈ k.rs ++ (k.lo ++ oList (k.kn.recOf l)) := hr
    rw [← List.append_assoc] at hr
    rcases List.mem_append.mp hr with hr | hr
    · exact h.ok _ hr
    · cases l with
      | ask e n =>
        have hr : r ∈ oList (if e < k.kn.ep then none else if e > k.kn.ep then some (Rec.prom e) else none) := hr
        split at hr
        · simp [oList] at hr
        · split at hr
          · rw [List.mem_singleton.mp hr]; trivial
          · simp [oList] at hr
      | write e n p x =>
        have hr : r ∈ oList (if e < k.kn.ep then none else if k.kn.bars e p then none else if k.kn.isNew e p x then some (Rec.take e p x) else none) := hr
        split at hr
        · simp [oList] at hr
        · split at hr
          · simp [oList] at hr
          · split at hr
            · rw [List.mem_singleton.mp hr]; exact hl.2
            · simp [oList] at hr
      | _ => simp [Kn.recOf, oList] at hr
  · have hx : x ∈ k.wa ++ oList (k.kn.ansOf k.n l) := hx
    rcases List.mem_append.mp hx with hx | hx
    · exact ⟨(h.wa x hx).1.mono (Nat.le_succ _), (h.wa x hx).2⟩
    · have hn : k.n < many := h.num ▸ hi
      have rw_ := h.row
      cases l with
      | ask e n =>
        have hx : x ∈ oList (if e < k.kn.ep then some (Ltr.refused e k.n k.kn.ep) else some (.told e k.n k.kn.row)) := hx
        split at hx
        · rw [List.mem_singleton.mp hx]; exact ⟨⟨hn, trivial⟩, rfl⟩
        · rw [List.mem_singleton.mp hx]; exact ⟨⟨hn, Nat.le_succ_of_le rw_.1, rw_.2⟩, rfl⟩
      | write e n p y =>
        have hx : x ∈ oList (if e < k.kn.ep then some (Ltr.refused e k.n k.kn.ep) else if k.kn.bars e p then none else some (.taken e k.n p)) := hx
        split at hx
        · rw [List.mem_singleton.mp hx]; exact ⟨⟨hn, trivial⟩, rfl⟩
        · split at hx
          · simp [oList] at hx
          · rw [List.mem_singleton.mp hx]; exact ⟨⟨hn, trivial⟩, rfl⟩
      | _ => simp [Kn.ansOf, oList] at hx
  · show (k.rs ++ (k.lo ++ oList (k.kn.recOf l))).length ≤ B + 1
    have := oList_len (k.kn.recOf l)
    have := h.len
    rw [List.length_append] at this
    rw [List.length_append, List.length_append]
    omega
  · show (k.wa ++ oList (k.kn.ansOf k.n l)).length ≤ B + 1
    have := oList_len (k.kn.ansOf k.n l)
    have := h.lwa
    rw [List.length_append]
    omega
theorem KOk.flush {B many i : Nat} {k : KeS} (h : KOk B many i k) : KOk B many i k.flush :=
  ⟨h.num, by show Kn.new.wf ((k.rs ++ k.lo) ++ []); rw [List.append_nil]; exact h.wf, fun r hr => h.ok r (by simpa [KeS.flush] using hr), fun _ hl => by simp [KeS.flush] at hl, by simpa [KeS.flush] using h.len, Nat.zero_le _⟩
theorem KOk.fall {B many i m : Nat} {k : KeS} (h : KOk B many i k) : KOk B many i (k.fall m) := by
  refine ⟨h.num, ?_, fun r hr => ?_, fun _ hl => by simp [KeS.fall] at hl, ?_, Nat.zero_le _⟩
  · show Kn.new.wf ((k.rs ++ k.lo.take m) ++ [])
    rw [List.append_nil]
    have e : k.rs ++ k.lo = (k.rs ++ k.lo.take m) ++ k.lo.drop m := by rw [List.append_assoc, List.take_append_drop]
    exact (Kn.wf_app.mp (e ▸ h.wf)).1
  · have hr : r ∈ (k.rs ++ k.lo.take m) ++ [] := hr
    rw [List.append_nil] at hr
    refine h.ok r ?_
    rcases List.mem_append.mp hr with hr | hr
    · exact List.mem_append.mpr (.inl hr)
    · exact List.mem_append.mpr (.inr (List.mem_of_mem_take hr))
  · show ((k.rs ++ k.lo.take m) ++ []).length ≤ B
    have := h.len
    rw [List.length_append] at this
    rw [List.append_nil, List.length_append, List.length_take]
    omega
/-! ### a sequencer -/
inductive Std where | asking | leading | stopped
deriving DecidableEq
def Std.s : Std → PySem.Str | .asking => "asking" | .leading => "leading" | .stopped => "stopped"
def bst : Int × En → List (Int × En) → Int × En
  | b, [] => b
  | b, q :: qs => bst (if q.1 > b.1 then q else b) qs
def fstMax : List (Int × En) → Int × En
  | [] => (0, .int 0)
  | q :: qs => bst q qs
theorem bst_mem : ∀ {qs : List (Int × En)} {b : Int × En}, bst b qs = b ∨ bst b qs ∈ qs
  | [], b => .inl rfl
  | q :: qs, b => by
    show bst (if q.1 > b.1 then q else b) qs = b ∨ bst (if q.1 > b.1 then q else b) qs ∈ q :: qs
    rcases bst_mem (qs := qs) (b := if q.1 > b.1 then q else b) with h | h
    · rw [h]
      split
      · exact .inr (by simp)
      · exact .inl rfl
    · exact .inr (List.mem_cons_of_mem _ h)
theorem fstMax_mem {l : List (Int × En)} (h : l ≠ []) : fstMax l ∈ l := by
  cases l with
  | nil => exact absurd rfl h
  | cons q qs =>
    show bst q qs ∈ q :: qs
    rcases bst_mem (qs := qs) (b := q) with e | e
    · rw [e]; simp
    · exact List.mem_cons_of_mem _ e
theorem bst_ge : ∀ {qs : List (Int × En)} {b : Int × En}, b.1 ≤ (bst b qs).1 ∧ ∀ q ∈ qs, q.1 ≤ (bst b qs).1
  | [], b => ⟨Int.le_refl _, fun _ h => by simp at h⟩
  | q :: qs, b => by
    have ih := bst_ge (qs := qs) (b := if q.1 > b.1 then q else b)
    show b.1 ≤ (bst (if q.1 > b.1 then q else b) qs).1 ∧ _
    have h1 : b.1 ≤ (if q.1 > b.1 then q else b).1 ∧ q.1 ≤ (if q.1 > b.1 then q else b).1 := by split <;> omega
    refine ⟨Int.le_trans h1.1 ih.1, fun x hx => ?_⟩
    rcases List.mem_cons.mp hx with rfl | hx
    · exact Int.le_trans h1.2 ih.1
    · exact ih.2 x hx
theorem bst_keep : ∀ {qs : List (Int × En)} {b : Int × En}, (∀ q ∈ qs, ¬ q.1 > b.1) → bst b qs = b
  | [], _, _ => rfl
  | q :: qs, b, h => by
    show bst (if q.1 > b.1 then q else b) qs = b
    rw [if_neg (h q (by simp))]
    exact bst_keep fun x hx => h x (by simp [hx])
theorem bst_at : ∀ {qs : List (Int × En)} {b q : Int × En} {i : Nat}, qs[i]? = some q → b.1 < q.1 → (∀ j y, j < i → qs[j]? = some y → y.1 < q.1) → (∀ y ∈ qs, ¬ y.1 > q.1) → bst b qs = q
  | x :: qs, b, q, 0, h, hb, _, hg => by
    cases h
    show bst (if x.1 > b.1 then x else b) qs = x
    rw [if_pos hb]
    exact bst_keep fun y hy => hg y (by simp [hy])
  | x :: qs, b, q, i + 1, h, hb, hl, hg => by
    show bst (if x.1 > b.1 then x else b) qs = q
    have hx : x.1 < q.1 := hl 0 x (by omega) rfl
    exact bst_at (i := i) h (by split <;> assumption) (fun j y hj hy => hl (j + 1) y (by omega) hy) fun y hy => hg y (by simp [hy])
theorem fstMax_at {l : List (Int × En)} {q : Int × En} {i : Nat} (h : l[i]? = some q) (hl : ∀ j y, j < i → l[j]? = some y → y.1 < q.1) (hg : ∀ y ∈ l, ¬ y.1 > q.1) : fstMax l = q := by
  cases l with
  | nil => simp at h
  | cons x xs =>
    cases i with
    | zero => cases h; exact bst_keep fun y hy => hg y (by simp [hy])
    | succ i => exact bst_at (i := i) h (hl 0 x (by omega) rfl) (fun j y hj hy => hl (j + 1) y (by omega) hy) fun y hy => hg y (by simp [hy])
def maxLen : List Row → Nat
  | [] => 0
  | r :: rs => max r.length (maxLen rs)
theorem maxLen_mem : ∀ {rs : List Row}, rs ≠ [] → ∃ r ∈ rs, r.length = maxLen rs
  | [], h => absurd rfl h
  | r :: rs, _ => by
    show ∃ x ∈ r :: rs, x.length = max r.length (maxLen rs)
    by_cases e : rs = []
    · subst e
      exact ⟨r, by simp, by show r.length = max r.length 0; omega⟩
    · obtain ⟨x, hx, ex⟩ := maxLen_mem e
      by_cases c : r.length ≤ maxLen rs
      · exact ⟨x, List.mem_cons_of_mem _ hx, by omega⟩
      · exact ⟨r, by simp, by omega⟩
theorem maxLen_ge : ∀ {rs : List Row} {r : Row}, r ∈ rs → r.length ≤ maxLen rs
  | x :: rs, r, h => by
    show r.length ≤ max x.length (maxLen rs)
    rcases List.mem_cons.mp h with rfl | h
    · omega
    · have := maxLen_ge h; omega
theorem maxLen_le : ∀ {rs : List Row} {B : Nat}, (∀ r ∈ rs, r.length ≤ B) → maxLen rs ≤ B
  | [], _, _ => Nat.zero_le _
  | r :: rs, B, h => by
    show max r.length (maxLen rs) ≤ B
    have := h r (by simp)
    have := maxLen_le (rs := rs) (B := B) fun x hx => h x (by simp [hx])
    omega
def pairsAt (rs : List Row) (p : Nat) : List (Int × En) := rs.filterMap (·[p]?)
def newest (rs : List Row) : List En := (List.range (maxLen rs)).map fun p => (fstMax (pairsAt rs p)).2
theorem newest_len {rs : List Row} : (newest rs).length = maxLen rs := by unfold newest; rw [List.length_map, List.length_range]
theorem pairsAt_ne {rs : List Row} {p : Nat} (h : p < maxLen rs) : pairsAt rs p ≠ [] := by
  have hne : rs ≠ [] := fun e => by subst e; exact absurd h (Nat.not_lt_zero _)
  obtain ⟨r, hr, e⟩ := maxLen_mem hne
  have hp : p < r.length := by omega
  intro z
  have : r[p] ∈ pairsAt rs p := List.mem_filterMap.mpr ⟨r, hr, List.getElem?_eq_getElem hp⟩
  rw [z] at this
  simp at this
theorem newest_ok {rs : List Row} (h : ∀ r ∈ rs, ∀ q ∈ r, q.2.ok) : ∀ x ∈ newest rs, x.ok := by
  intro x hx
  obtain ⟨p, hp, rfl⟩ := List.mem_map.mp hx
  have hm := fstMax_mem (pairsAt_ne (List.mem_range.mp hp))
  obtain ⟨r, hr, e⟩ := List.mem_filterMap.mp hm
  exact h r hr _ (List.mem_of_getElem? e)
def putR {β : Type} (n : Nat) (r : β) : List (Nat × β) → List (Nat × β)
  | [] => [(n, r)]
  | q :: qs => if q.1 = n then (n, r) :: qs else q :: putR n r qs
theorem putR_mem {β : Type} : ∀ {qs : List (Nat × β)} {n : Nat} {r : β} {q : Nat × β}, q ∈ putR n r qs → q = (n, r) ∨ q ∈ qs
  | [], n, r, q, h => .inl (List.mem_singleton.mp h)
  | x :: qs, n, r, q, h => by
    unfold putR at h
    split at h
    · rcases List.mem_cons.mp h with h | h
      · exact .inl h
      · exact .inr (List.mem_cons_of_mem _ h)
    · rcases List.mem_cons.mp h with h | h
      · exact .inr (by rw [h]; simp)
      · exact (putR_mem h).imp id fun z => List.mem_cons_of_mem _ z
theorem putR_keys {β : Type} : ∀ {qs : List (Nat × β)} {n : Nat} {r : β}, (putR n r qs).map (·.1) = if n ∈ qs.map (·.1) then qs.map (·.1) else qs.map (·.1) ++ [n]
  | [], n, r => rfl
  | x :: qs, n, r => by
    unfold putR
    by_cases e : x.1 = n
    · rw [if_pos e, if_pos (by rw [List.map_cons, e]; simp)]
      simp [e]
    · rw [if_neg e, List.map_cons, putR_keys, List.map_cons]
      by_cases m : n ∈ qs.map (·.1)
      · rw [if_pos m, if_pos (List.mem_cons_of_mem _ m)]
      · rw [if_neg m, if_neg (fun z => (List.mem_cons.mp z).elim (fun z => e z.symm) m)]
        rfl
structure SqS where
  ep : Int
  many : Nat
  st : Std
  row : List En
  rows : List (Nat × Row)
  tk : List Nat
def SqS.new (e : Int) (many : Nat) : SqS := ⟨e, many, .asking, [], [], List.replicate many 0⟩
def most (n : Nat) : Nat := n / 2 + 1
def SqS.writeTo (s : SqS) (n : Nat) : Ltr := .write s.ep n (s.tk.getD n 0) (s.row.getD (s.tk.getD n 0) (.int 0))
def SqS.toSend (s : SqS) : List Ltr := match s.st with
  | .asking => ((List.range s.many).filter fun n => !decide (n ∈ s.rows.map (·.1))).map (Ltr.ask s.ep)
  | .leading => ((List.range s.many).filter fun n => decide (s.tk.getD n 0 < s.row.length)).map s.writeTo
  | .stopped => []
def SqS.told (s : SqS) (n : Nat) (r : Row) : SqS :=
  let rows := putR n r s.rows
  if most s.many ≤ rows.length then { s with rows := rows, row := newest (rows.map (·.2)), st := .leading } else { s with rows := rows }
def SqS.hear (s : SqS) (l : Ltr) : SqS := if l.ep ≠ s.ep ∨ s.st = .stopped then s else match l with
  | .refused _ _ _ => { s with st := .stopped }
  | .told _ n r => if s.st = .asking then s.told n r else s
  | .taken _ n p => if s.st = .leading ∧ p = s.tk.getD n 0 then { s with tk := s.tk.set n (s.tk.getD n 0 + 1) } else s
  | _ => s
def SqS.add (s : SqS) (x : En) : SqS := { s with row := s.row ++ [x] }
def SqS.stop (s : SqS) : SqS := { s with st := .stopped }
def desc (xs : List Nat) : List Nat := xs.mergeSort fun a b => decide (b ≤ a)
def SqS.cnt (s : SqS) : Nat := (desc s.tk).getD (most s.many - 1) 0
def SqS.settled (s : SqS) : List En := s.row.take s.cnt
structure SOk (B many : Nat) (s : SqS) : Prop where
  mny : s.many = many
  pos : 0 < many
  tk : s.tk.length = many
  nd : (s.rows.map (·.1)).Nodup
  rows : ∀ q ∈ s.rows, q.1 < many ∧ q.2.length ≤ B ∧ ∀ z ∈ q.2, z.2.ok
  len : s.row.length ≤ B
  row : ∀ x ∈ s.row, x.ok
theorem SOk.mono {B B' many : Nat} {s : SqS} (h : SOk B many s) (b : B ≤ B') : SOk B' many s :=
  ⟨h.mny, h.pos, h.tk, h.nd, fun q hq => ⟨(h.rows q hq).1, Nat.le_trans (h.rows q hq).2.1 b, (h.rows q hq).2.2⟩, Nat.le_trans h.len b, h.row⟩
theorem SOk.new {B many : Nat} {e : Int} (h : 0 < many) : SOk B many (SqS.new e many) :=
  ⟨rfl, h, List.length_replicate, List.nodup_nil, fun _ hq => by simp [SqS.new] at hq, Nat.zero_le _, fun _ hx => by simp [SqS.new] at hx⟩
theorem SOk.add {B many : Nat} {s : SqS} {x : En} (h : SOk B many s) (hx : x.ok) : SOk (B + 1) many (s.add x) :=
  let g := h.mono (Nat.le_succ B)
  ⟨g.mny, g.pos, g.tk, g.nd, g.rows, by show (s.row ++ [x]).length ≤ B + 1; rw [List.length_append]; have := h.len; simp; omega, fun y hy => by
    rcases List.mem_append.mp hy with hy | hy
    · exact h.row y hy
    · rw [List.mem_singleton.mp hy]; exact hx⟩
theorem SOk.stop {B many : Nat} {s : SqS} (h : SOk B many s) : SOk B many s.stop := ⟨h.mny, h.pos, h.tk, h.nd, h.rows, h.len, h.row⟩
theorem SOk.hear {B many : Nat} {s : SqS} {l : Ltr} (h : SOk B many s) (hl : l.ok B many) : SOk B many (s.hear l) := by
  unfold SqS.hear
  split
  · exact h
  · cases l with
    | refused e n k => exact ⟨h.mny, h.pos, h.tk, h.nd, h.rows, h.len, h.row⟩
    | told e n r =>
      dsimp only
      split
      · have hrows : ∀ q ∈ putR n r s.rows, q.1 < many ∧ q.2.length ≤ B ∧ ∀ z ∈ q.2, z.2.ok := fun q hq => by
          rcases putR_mem hq with rfl | hq
          · exact ⟨hl.1, hl.2⟩
          · exact h.rows q hq
        have hnd : ((putR n r s.rows).map (·.1)).Nodup := by
          rw [putR_keys]
          split
          · exact h.nd
          · rename_i hm
            exact List.nodup_append.mpr ⟨h.nd, by simp, fun a ha b hb => by rw [List.mem_singleton.mp hb]; exact fun e => hm (e ▸ ha)⟩
        unfold SqS.told
        dsimp only
        split
        · refine ⟨h.mny, h.pos, h.tk, hnd, hrows, ?_, newest_ok fun r hr => ?_⟩
          · rw [newest_len]
            exact maxLen_le fun r hr => by
              obtain ⟨q, hq, rfl⟩ := List.mem_map.mp hr
              exact (hrows q hq).2.1
          · obtain ⟨q, hq, rfl⟩ := List.mem_map.mp hr
            exact (hrows q hq).2.2
        · exact ⟨h.mny, h.pos, h.tk, hnd, hrows, h.len, h.row⟩
      · exact h
    | taken e n p =>
      dsimp only
      split
      · exact ⟨h.mny, h.pos, by show (s.tk.set n _).length = many; rw [List.length_set]; exact h.tk, h.nd, h.rows, h.len, h.row⟩
      · exact h
    | _ => exact h
theorem SOk.sends {B many : Nat} {s : SqS} (h : SOk B many s) : s.toSend.length ≤ many ∧ ∀ l ∈ s.toSend, l.ok B many ∧ l.isAns = false := by
  unfold SqS.toSend
  cases s.st with
  | asking =>
    refine ⟨?_, fun l hl => ?_⟩
    · dsimp only
      rw [List.length_map]
      exact Nat.le_trans (List.length_filter_le ..) (by rw [List.length_range, h.mny]; exact Nat.le_refl _)
    · obtain ⟨n, hn, rfl⟩ := List.mem_map.mp hl
      have := List.mem_range.mp (List.mem_filter.mp hn).1
      rw [h.mny] at this
      exact ⟨⟨this, trivial⟩, rfl⟩
  | leading =>
    refine ⟨?_, fun l hl => ?_⟩
    · dsimp only
      rw [List.length_map]
      exact Nat.le_trans (List.length_filter_le ..) (by rw [List.length_range, h.mny]; exact Nat.le_refl _)
    · obtain ⟨n, hn, rfl⟩ := List.mem_map.mp hl
      have h2 := of_decide_eq_true (List.mem_filter.mp hn).2
      have := List.mem_range.mp (List.mem_filter.mp hn).1
      rw [h.mny] at this
      refine ⟨⟨this, ?_⟩, rfl⟩
      show (s.row.getD (s.tk.getD n 0) (.int 0)).ok
      rw [List.getD_eq_getElem?_getD, List.getElem?_eq_getElem h2]
      exact h.row _ (List.getElem_mem h2)
  | stopped => exact ⟨Nat.zero_le _, fun l hl => by simp at hl⟩
/-! ### keepers and sequencers together -/
structure Cw where
  ks : List KeS
  ss : List SqS
def Cw.onK (w : Cw) (n : Nat) (f : KeS → KeS) : Cw := ⟨w.ks.modify n f, w.ss⟩
def Cw.bring (w : Cw) (l : Ltr) : Cw := if l.isAns then ⟨w.ks, w.ss.map (·.hear l)⟩ else w.onK l.num (·.handle l)
def Cw.brings (w : Cw) (ls : List Ltr) : Cw := ls.foldl Cw.bring w
def Cw.flushed (w : Cw) (n : Nat) : Cw := (w.onK n KeS.flush).brings ((w.ks[n]?.map (·.wa)).getD [])
def Cw.sent (w : Cw) (i : Nat) (up : List Nat) : Cw := w.brings (((w.ss[i]?.map (·.toSend)).getD []).filter fun l => decide (l.num ∈ up))
def Cw.exchange (w : Cw) (i : Nat) (up : List Nat) : Cw := up.foldl Cw.flushed (w.sent i up)
structure CwOk (B many : Nat) (w : Cw) : Prop where
  len : w.ks.length = many
  ks : ∀ i k, w.ks[i]? = some k → KOk B many i k
  ss : ∀ s ∈ w.ss, SOk B many s
theorem CwOk.mono {B B' many : Nat} {w : Cw} (h : CwOk B many w) (b : B ≤ B') : CwOk B' many w := ⟨h.len, fun i k e => (h.ks i k e).mono b, fun s hs => (h.ss s hs).mono b⟩
theorem CwOk.onK {B B' many n : Nat} {w : Cw} {f : KeS → KeS} (h : CwOk B many w) (b : B ≤ B') (hf : ∀ k, w.ks[n]? = some k → KOk B many n k → KOk B' many n (f k)) : CwOk B' many (w.onK n f) := by
  refine ⟨by show (w.ks.modify n f).length = many; rw [List.length_modify]; exact h.len, fun i k e => ?_, fun s hs => (h.ss s hs).mono b⟩
  have e : (w.ks.modify n f)[i]? = some k := e
  rw [List.getElem?_modify] at e
  by_cases c : n = i
  · subst c
    simp only [if_true] at e
    obtain ⟨k0, e0, rfl⟩ := Option.map_eq_some_iff.mp e
    exact hf k0 e0 (h.ks _ _ e0)
  · simp only [if_neg c] at e
    obtain ⟨k0, e0, rfl⟩ := Option.map_eq_some_iff.mp e
    exact (h.ks _ _ e0).mono b
theorem CwOk.handle {B many : Nat} {w : Cw} {l : Ltr} (h : CwOk B many w) (hl : l.ok B many) : CwOk (B + 1) many (w.onK l.num (·.handle l)) := h.onK (Nat.le_succ _) fun k _ hk => hk.handle hl hl.1
theorem CwOk.hear {B many : Nat} {w : Cw} {l : Ltr} (h : CwOk B many w) (hl : l.ok B many) : CwOk B many ⟨w.ks, w.ss.map (·.hear l)⟩ := ⟨h.len, h.ks, fun s hs => by
  obtain ⟨s0, h0, rfl⟩ := List.mem_map.mp hs
  exact (h.ss s0 h0).hear hl⟩
theorem CwOk.bring {B many : Nat} {w : Cw} {l : Ltr} (h : CwOk B many w) (hl : l.ok B many) : CwOk (B + 1) many (w.bring l) := by
  unfold Cw.bring
  split
  · exact (h.hear hl).mono (Nat.le_succ _)
  · exact h.handle hl
theorem CwOk.flush {B many n : Nat} {w : Cw} (h : CwOk B many w) : CwOk B many (w.onK n KeS.flush) := h.onK (Nat.le_refl _) fun _ _ hk => hk.flush
theorem CwOk.brings : ∀ {ls : List Ltr} {B many : Nat} {w : Cw}, CwOk B many w → (∀ l ∈ ls, l.ok B many) → CwOk (B + ls.length) many (w.brings ls)
  | [], _, _, _, h, _ => h
  | l :: ls, B, many, w, h, hl => by
    have := CwOk.brings (ls := ls) (h.bring (hl l (by simp))) fun x hx => (hl x (by simp [hx])).mono (Nat.le_succ _)
    rw [List.length_cons]
    have e : B + (ls.length + 1) = B + 1 + ls.length := by omega
    rw [e]
    exact this
theorem CwOk.hears : ∀ {ls : List Ltr} {B many : Nat} {w : Cw}, CwOk B many w → (∀ l ∈ ls, l.ok B many ∧ l.isAns = true) → CwOk B many (w.brings ls)
  | [], _, _, _, h, _ => h
  | l :: ls, B, many, w, h, hl => by
    have h1 : CwOk B many (w.bring l) := by
      unfold Cw.bring
      rw [if_pos (hl l (by simp)).2]
      exact h.hear (hl l (by simp)).1
    exact CwOk.hears (ls := ls) h1 fun x hx => hl x (by simp [hx])
theorem CwOk.flushed {B many n : Nat} {w : Cw} (h : CwOk B many w) : CwOk B many (w.flushed n) := by
  refine CwOk.hears h.flush fun l hl => ?_
  cases e : w.ks[n]? with
  | none => rw [e] at hl; simp at hl
  | some k => rw [e] at hl; exact (h.ks n k e).wa l hl
theorem CwOk.sent {B many i : Nat} {w : Cw} {up : List Nat} (h : CwOk B many w) : CwOk (B + many) many (w.sent i up) := by
  cases e : w.ss[i]? with
  | none =>
    have : w.sent i up = w := by unfold Cw.sent; rw [e]; rfl
    rw [this]
    exact h.mono (Nat.le_add_right _ _)
  | some s =>
    have hs := (h.ss s (List.mem_of_getElem? e)).sends
    have hb := CwOk.brings (ls := (s.toSend.filter fun l => decide (l.num ∈ up))) h fun l hl => (hs.2 l (List.mem_filter.mp hl).1).1
    have : w.sent i up = w.brings (s.toSend.filter fun l => decide (l.num ∈ up)) := by unfold Cw.sent; rw [e]; rfl
    rw [this]
    exact hb.mono (Nat.add_le_add_left (Nat.le_trans (List.length_filter_le ..) hs.1) _)
theorem CwOk.exchange {B many i : Nat} {w : Cw} {up : List Nat} (h : CwOk B many w) : CwOk (B + many) many (w.exchange i up) := by
  unfold Cw.exchange
  have h1 := h.sent (i := i) (up := up)
  generalize w.sent i up = w1 at h1
  have : ∀ (xs : List Nat) (v : Cw), CwOk (B + many) many v → CwOk (B + many) many (xs.foldl Cw.flushed v) := by
    intro xs
    induction xs with
    | nil => exact fun v hv => hv
    | cons x xs ih => exact fun v hv => ih _ hv.flushed
  exact this up w1 h1
end Mc.Cn
namespace Mc.Cn
open PySem L2 PySem.Spec PyProof.Rows
/-! ### data of tuples in the heap -/
mutual
def tpD : PyData → Bool
  | .none => true
  | .bool _ => true
  | .int _ => true
  | .str _ => true
  | .list _ => false
  | .tuple xs => tpA xs
  | .dict _ => false
def tpA : List PyData → Bool
  | [] => true
  | x :: xs => tpD x && tpA xs
end
def Tp (H H' : Hp) : Prop := ∀ b xs, Rd H b (.tup xs) → Rd H' b (.tup xs)
mutual
theorem dp_tp {K : PySem.W.Frag} {H H' : Hp} (e : Tp H H') : ∀ (d : PyData) (v : V), tpD d = true → Dp K H v d → Dp K H' v d
  | .none, _, _, h => by cases h; exact .non
  | .bool b, _, _, h => by cases h; exact .bl b
  | .int i, _, _, h => by cases h; exact .int i
  | .str x, _, _, h => by cases h; exact .str x
  | .list xs, _, t, h => by rw [tpD] at t; cases t
  | .tuple xs, _, t, h => by
    rw [tpD] at t
    cases h with
    | tup a b => exact .tup (a.elim (fun z => .inl (e _ _ z)) .inr) (dpA_tp e xs _ t b)
  | .dict _, _, _, h => by cases h
theorem dpA_tp {K : PySem.W.Frag} {H H' : Hp} (e : Tp H H') : ∀ (ds : List PyData) (vs : List V), tpA ds = true → DpAll K H vs ds → DpAll K H' vs ds
  | [], _, _, h => by cases h; exact .nil
  | d :: ds, _, t, h => by
    rw [tpA, Bool.and_eq_true] at t
    cases h with
    | cons a b => exact .cons (dp_tp e d _ t.1 a) (dpA_tp e ds _ t.2 b)
end
theorem tpA_map {α : Type} {f : α → PyData} (h : ∀ x, tpD (f x) = true) : ∀ xs : List α, tpA (xs.map f) = true
  | [] => rfl
  | x :: xs => by rw [List.map_cons, tpA, h x, tpA_map h xs]; rfl
theorem tp_en (x : En) : tpD x.d = true := by cases x <;> rfl
theorem tp_pair (q : Int × En) : tpD (pairD q) = true := by
  show tpA [.int q.1, q.2.d] = true
  rw [tpA, tpA, tp_en]; rfl
theorem tp_row (r : Row) : tpD (rowD r) = true := by show tpA (r.map pairD) = true; exact tpA_map tp_pair r
theorem tp_rec (r : Rec) : tpD r.d = true := by
  cases r with
  | prom e => rfl
  | take e p x => show tpA [.str "take", .int e, .int p, x.d] = true; rw [tpA, tpA, tpA, tpA, tp_en]; rfl
theorem tp_ltr (l : Ltr) : tpD l.d = true := by
  cases l with
  | write e n p x => show tpA [.str "write", .int e, .int n, .int p, x.d] = true; rw [tpA, tpA, tpA, tpA, tpA, tp_en]; rfl
  | told e n row => show tpA [.str "told", .int e, .int n, rowD row] = true; rw [tpA, tpA, tpA, tpA, tp_row]; rfl
  | _ => rfl
theorem Tp.refl (H : Hp) : Tp H H := fun _ _ e => e
theorem Tp.trans {A B C : Hp} (a : Tp A B) (b : Tp B C) : Tp A C := fun x y e => b x y (a x y e)
theorem Tp.same {H H' : Hp} (s : Same H H') : Tp H H' := fun b xs e => e.elim (fun z => .inl (s b _ z)) fun ⟨o, z⟩ => .inr ⟨o, s b _ z⟩
theorem Tp.at {H : Hp} {a : Addr} {o o' : HO} (h : H a = some o) (n : ∀ xs, o ≠ .tup xs) (n2 : ∀ f xs, o ≠ .frz f (.tup xs)) : Tp H (upd H a o') := fun b xs e => by
  have ne : b ≠ a := fun z => by
    subst z
    rcases e with e | ⟨f, e⟩
    · rw [h] at e; exact n xs (Option.some.inj e)
    · rw [h] at e; exact n2 f xs (Option.some.inj e)
  exact e.elim (fun z => .inl (by rw [upd_ne ne]; exact z)) fun ⟨f, z⟩ => .inr ⟨f, by rw [upd_ne ne]; exact z⟩
theorem Tp.ins {H : Hp} {a : Addr} {C dx : _} {fs : _} {o' : HO} (h : H a = some (.ins C dx fs)) : Tp H (upd H a o') := Tp.at h (fun _ z => by cases z) fun _ _ z => by cases z
theorem Tp.lst {H : Hp} {a : Addr} {xs : List V} {o' : HO} (h : H a = some (.lst xs)) : Tp H (upd H a o') := Tp.at h (fun _ z => by cases z) fun _ _ z => by cases z
theorem Tp.dK {H : Hp} {a : Addr} {kvs : _} {o' : HO} (h : H a = some (.dK kvs)) : Tp H (upd H a o') := Tp.at h (fun _ z => by cases z) fun _ _ z => by cases z
theorem Same.new {H : Hp} {a : Addr} {o : HO} (h : H a = none) : Same H (upd H a o) := fun b u e => by
  rw [upd_ne (ne_of_none e h)]
  exact e
theorem Same.tr {A B C : Hp} (a : Same A B) (b : Same B C) : Same A C := fun x y e => b x y (a x y e)
theorem Tp.new {H : Hp} {a : Addr} {o : HO} (h : H a = none) : Tp H (upd H a o) := Tp.same (Same.new h)
section
variable {K : PySem.W.Frag} {H H' : Hp}
theorem dpA_app : ∀ {vs ws : List V} {ds es : List PyData}, DpAll K H vs ds → DpAll K H ws es → DpAll K H (vs ++ ws) (ds ++ es)
  | _, _, _, _, .nil, h => h
  | _, _, _, _, .cons a b, h => .cons a (dpA_app b h)
theorem dpA_take : ∀ (n : Nat) {vs : List V} {ds : List PyData}, DpAll K H vs ds → DpAll K H (vs.take n) (ds.take n)
  | 0, _, _, _ => .nil
  | _ + 1, _, _, .nil => .nil
  | n + 1, _, _, .cons a b => .cons a (dpA_take n b)
theorem dpA_drop : ∀ (n : Nat) {vs : List V} {ds : List PyData}, DpAll K H vs ds → DpAll K H (vs.drop n) (ds.drop n)
  | 0, _, _, h => h
  | _ + 1, _, _, .nil => .nil
  | n + 1, _, _, .cons _ b => dpA_drop n b
theorem dpA_len : ∀ {vs : List V} {ds : List PyData}, DpAll K H vs ds → vs.length = ds.length
  | _, _, .nil => rfl
  | _, _, .cons _ b => by rw [List.length_cons, List.length_cons, dpA_len b]
theorem dpA_at : ∀ {vs : List V} {ds : List PyData}, DpAll K H vs ds → ∀ {i : Nat} {v : V}, vs[i]? = some v → ∃ d, ds[i]? = some d ∧ Dp K H v d
  | _, _, .nil, i, v, h => nomatch h
  | _, _, .cons a b, 0, v, h => ⟨_, rfl, by cases Option.some.inj h; exact a⟩
  | _, _, .cons a b, i + 1, v, h => dpA_at b (i := i) h
theorem dpA_at' : ∀ {vs : List V} {ds : List PyData}, DpAll K H vs ds → ∀ {i : Nat} {d : PyData}, ds[i]? = some d → ∃ v, vs[i]? = some v ∧ Dp K H v d
  | _, _, .nil, i, d, h => nomatch h
  | _, _, .cons a b, 0, d, h => ⟨_, rfl, by cases Option.some.inj h; exact a⟩
  | _, _, .cons a b, i + 1, d, h => dpA_at' b (i := i) h
theorem dpA_snoc {v : V} {d : PyData} {vs : List V} {ds : List PyData} (h : DpAll K H vs ds) (k : Dp K H v d) : DpAll K H (vs ++ [v]) (ds ++ [d]) := dpA_app h (.cons k .nil)
theorem dp_pair {v : V} {q : Int × En} (h : Dp K H v (pairD q)) : ∃ c x, v = .ref c ∧ SqT K H c [.int q.1, x] ∧ Dp K H x q.2.d := by
  cases h with
  | tup sq ds =>
    cases ds with
    | cons a ds =>
      cases ds with
      | cons b ds => cases ds; cases a; exact ⟨_, _, rfl, sq, b⟩
theorem dp_mkPair {c : Addr} {e : Int} {x : V} {y : En} (h : SqT K H c [.int e, x]) (hx : Dp K H x y.d) : Dp K H (.ref c) (pairD (e, y)) := .tup h (.cons (.int e) (.cons hx .nil))
theorem dp_prom {v : V} {e : Int} (h : Dp K H v (Rec.prom e).d) : ∃ c, v = .ref c ∧ SqT K H c [.str "promise", .int e] := by
  cases h with
  | tup sq ds =>
    cases ds with
    | cons a ds =>
      cases ds with
      | cons b ds => cases ds; cases a; cases b; exact ⟨_, rfl, sq⟩
theorem dp_take {v : V} {e : Int} {p : Nat} {y : En} (h : Dp K H v (Rec.take e p y).d) : ∃ c x, v = .ref c ∧ SqT K H c [.str "take", .int e, .int p, x] ∧ Dp K H x y.d := by
  cases h with
  | tup sq ds =>
    cases ds with
    | cons a ds =>
      cases ds with
      | cons b ds =>
        cases ds with
        | cons c ds =>
          cases ds with
          | cons d ds => cases ds; cases a; cases b; cases c; exact ⟨_, _, rfl, sq, d⟩
theorem dp_four {v : V} {s : PySem.Str} {e : Int} {n : Int} {dd : PyData} (h : Dp K H v (.tuple [.str s, .int e, .int n, dd])) : ∃ c x, v = .ref c ∧ SqT K H c [.str s, .int e, .int n, x] ∧ Dp K H x dd := by
  cases h with
  | tup sq ds =>
    cases ds with
    | cons a ds =>
      cases ds with
      | cons b ds =>
        cases ds with
        | cons c ds =>
          cases ds with
          | cons d ds => cases ds; cases a; cases b; cases c; exact ⟨_, _, rfl, sq, d⟩
theorem dp_five {v : V} {s : PySem.Str} {e n p : Int} {dd : PyData} (h : Dp K H v (.tuple [.str s, .int e, .int n, .int p, dd])) : ∃ c x, v = .ref c ∧ SqT K H c [.str s, .int e, .int n, .int p, x] ∧ Dp K H x dd := by
  cases h with
  | tup sq ds =>
    cases ds with
    | cons a ds =>
      cases ds with
      | cons b ds =>
        cases ds with
        | cons c ds =>
          cases ds with
          | cons d ds =>
            cases ds with
            | cons f ds => cases ds; cases a; cases b; cases c; cases d; exact ⟨_, _, rfl, sq, f⟩
theorem dp_three {v : V} {s : PySem.Str} {e n : Int} (h : Dp K H v (.tuple [.str s, .int e, .int n])) : ∃ c, v = .ref c ∧ SqT K H c [.str s, .int e, .int n] := by
  cases h with
  | tup sq ds =>
    cases ds with
    | cons a ds =>
      cases ds with
      | cons b ds =>
        cases ds with
        | cons c ds => cases ds; cases a; cases b; cases c; exact ⟨_, rfl, sq⟩
/-- a tuple of data, a list of data -/
def TD (K : PySem.W.Frag) (H : Hp) (t : Addr) (ds : List PyData) : Prop := ∃ vs, H t = some (.tup vs) ∧ DpAll K H vs ds
def LD (K : PySem.W.Frag) (H : Hp) (t : Addr) (ds : List PyData) : Prop := ∃ vs, H t = some (.lst vs) ∧ DpAll K H vs ds
theorem TD.stay {t : Addr} {ds : List PyData} (x : TD K H t ds) (h : Tp H H') (e : ∀ vs, H t = some (.tup vs) → H' t = some (.tup vs)) (tp : tpA ds = true) : TD K H' t ds := by
  obtain ⟨vs, h1, h2⟩ := x
  exact ⟨vs, e vs h1, dpA_tp h _ _ tp h2⟩
theorem LD.stay {t : Addr} {ds : List PyData} (x : LD K H t ds) (h : Tp H H') (e : ∀ vs, H t = some (.lst vs) → H' t = some (.lst vs)) (tp : tpA ds = true) : LD K H' t ds := by
  obtain ⟨vs, h1, h2⟩ := x
  exact ⟨vs, e vs h1, dpA_tp h _ _ tp h2⟩
theorem TD.dp {t : Addr} {ds : List PyData} (x : TD K H t ds) : Dp K H (.ref t) (.tuple ds) := by
  obtain ⟨vs, h1, h2⟩ := x
  exact .tup (SqT.of h1) h2
theorem LD.dp {t : Addr} {ds : List PyData} (x : LD K H t ds) : Dp K H (.ref t) (.list ds) := by
  obtain ⟨vs, h1, h2⟩ := x
  exact .lst (SqL.of h1) h2
end
theorem tpAR (rs : List Rec) : tpA (rs.map Rec.d) = true := tpA_map tp_rec rs
theorem tpAL (ls : List Ltr) : tpA (ls.map Ltr.d) = true := tpA_map tp_ltr ls
theorem tpAP (r : Row) : tpA (r.map pairD) = true := tpA_map tp_pair r
theorem tpAE (r : List En) : tpA (r.map En.d) = true := tpA_map tp_en r
/-- tuples stand -/
def Tu (H H' : Hp) : Prop := ∀ b xs, H b = some (.tup xs) → H' b = some (.tup xs)
/-- what a write to things that are no tuples keeps -/
structure Ks (H H' : Hp) : Prop where
  tp : Tp H H'
  tu : Tu H H'
theorem Ks.refl (H : Hp) : Ks H H := ⟨Tp.refl H, fun _ _ e => e⟩
theorem Ks.trans {A B C : Hp} (a : Ks A B) (b : Ks B C) : Ks A C := ⟨a.tp.trans b.tp, fun x y e => b.tu x y (a.tu x y e)⟩
theorem Ks.same {H H' : Hp} (s : Same H H') : Ks H H' := ⟨Tp.same s, fun b xs e => s b _ e⟩
theorem Ks.ins {H : Hp} {a : Addr} {C dx : _} {fs : _} {o' : HO} (h : H a = some (.ins C dx fs)) : Ks H (upd H a o') := ⟨Tp.ins h, fun b xs e => by rw [upd_ne (ne_of e h (by intro z; cases z))]; exact e⟩
theorem Ks.lst {H : Hp} {a : Addr} {xs : List V} {o' : HO} (h : H a = some (.lst xs)) : Ks H (upd H a o') := ⟨Tp.lst h, fun b xs e => by rw [upd_ne (ne_of e h (by intro z; cases z))]; exact e⟩
theorem Ks.dK {H : Hp} {a : Addr} {kvs : _} {o' : HO} (h : H a = some (.dK kvs)) : Ks H (upd H a o') := ⟨Tp.dK h, fun b xs e => by rw [upd_ne (ne_of e h (by intro z; cases z))]; exact e⟩
theorem Ks.new {H : Hp} {a : Addr} {o : HO} (h : H a = none) : Ks H (upd H a o) := Ks.same (Same.new h)
theorem TD.ks {K : PySem.W.Frag} {H H' : Hp} {t : Addr} {ds : List PyData} (x : TD K H t ds) (h : Ks H H') (tp : tpA ds = true) : TD K H' t ds := x.stay h.tp (fun vs e => h.tu _ _ e) tp
end Mc.Cn
namespace Mc
open PySem L2 PySem.Spec PyProof.Rows
/-! ### xs[a:c] = ys, a within xs, c anywhere behind it -/
theorem cl_bounds {a c n : Nat} (h1 : a ≤ c) (h2 : a ≤ n) : sliceBounds (some (a : Int)) (some (c : Int)) none n = ((a : Int), ((min c n : Nat) : Int), 1) := by
  unfold sliceBounds
  have p1 : ¬ ((a : Int) < 0) := by omega
  have p2 : ¬ ((c : Int) < 0) := by omega
  simp only [Option.getD_none, p1, p2, if_false, show (1 : Int) > 0 by decide, if_true]
  congr 1
  · omega
  · congr 1; omega
section
variable {prog : Program} {w : World} {A : Around} {E : Value → Shared → Prop} {s : Shared}
theorem sl_store {l b sl : Addr} {xs ys : Array Value} {n1 n2 : Nat} {v1 v2 : Value} {a c : Nat} {Q : Unit → Shared → Prop} (e1 : s.heap.get? l = some { cls := .type "list", data := .seq xs n1 }) (e2 : s.heap.get? b = some { cls := .type "list", data := .seq ys n2 })
    (ne : l ≠ b) (hs : s.heap.IsSliceOf sl v1 v2 .none) (p1 : IsPart v1 (some (a : Int))) (p2 : IsPart v2 (some (c : Int))) (hac : a ≤ c) (ha : a ≤ xs.size) (hz : xs.size + ys.size ≤ sizeLine)
    (q : Q () { s with heap := s.heap.update l (Obj.mapSeq fun z => z.extract 0 a ++ ys ++ z.extract (min c xs.size) z.size) }) : wpAny (model prog w) A (setItem (.ref l) (.ref sl) (.ref b)) Q E s := by
  have L1 : s.heap.IsList l xs := PySem.IsL.isList e1
  have L2' : s.heap.IsList b ys := PySem.IsL.isList e2
  obtain ⟨os, g1, g2, g3⟩ := id hs
  have tS : s.TypeIs (.ref sl) "slice" := ⟨os, g1, g2⟩
  have other : Builtin.List.listSameRef (.ref l) (.ref b) = false := beq_eq_false_iff_ne.mpr ne
  have st0 : ¬ ((rawPart none == rawInt 0) = true) := Bool.false_ne_true
  have mx : (max (a : Int) ((min c xs.size : Nat) : Int)).toNat = min c xs.size := by omega
  have sz : ((fun z : Array Value => z.extract 0 a ++ ys ++ z.extract (min c xs.size) z.size) xs).size ≤ sizeLine + 1 := by
    simp only [Array.size_append, Array.size_extract]; omega
  unfold setItem
  (try with_reducible refine wpAny_holding ?_); (first | refine wpAny_bind (wpAny_pure ?_) | skip)
  refine wpAny_bind (wpAny_sequenceKey L1.typeIs (by decide) (wpAny_bind (wpAny_callSpecial?_slot (name := Str.ofString "__setitem__") L1.typeIs slot_list_setitem (wpAny_call_entry slot_list_setitem L1.typeIs entry_list_setitem ?_ (args_list_setitem _ _ _)))))
  show wpAny _ _ (Builtin.List.listSubscript? (.ref sl) >>= _) _ _ s
  refine wpAny_bind ?_
  unfold Builtin.List.listSubscript?
  refine wpAny_bind (wpAny_specialOf tS slice_no_index ?_)
  simp only [Option.isNone_none, if_true]; refine wpAny_pure ?_
  show wpAny _ _ (typeOf (.ref sl) >>= _) _ _ s
  refine wpAny_bind (wpAny_typeOf tS ?_)
  first | rw [if_neg (by decide)] | refine PySem.W.KFB.if_not (by decide) ?_
  rw [listSliceParts_eq]
  refine wpAny_bind (wpAny_bind (wpAny_field g1 g3 (x := .none) rfl (wpAny_bind (wpAny_listPart .none ?_))))
  rw [if_neg st0]
  refine wpAny_bind (wpAny_field g1 g3 (x := v1) rfl (wpAny_bind (wpAny_listPart p1 (wpAny_bind (wpAny_field g1 g3 (x := v2) rfl (wpAny_bind (wpAny_listPart p2 (wpAny_pure ?_))))))))
  first | simp only [other, Bool.false_eq_true, if_false] | refine PySem.W.KFB.if_not other ?_
  refine wpAny_bind (m := Builtin.List.listAllItems (.ref b) "must assign iterable to extended slice") ?_
  unfold Builtin.List.listAllItems
  refine wpAny_bind (wpAny_typeOf L2'.typeIs ?_)
  first | refine PySem.W.KFB.if_so (by decide) ?_ | rw [if_pos (by decide)] | simp only [beq_self_eq_true, Bool.true_or, if_true]
  unfold Builtin.List.listItems
  refine wpAny_bind (wpAny_seqItems e2 rfl (wpAny_pure (wpAny_bind (wpAny_bind (wpAny_seqItems e1 rfl (wpAny_pure ?_))))))
  refine wpAny_bind (wpAny_of_eq ((sliceIndices_raw (some (a : Int)) (some (c : Int)) none xs.size (by simp)).trans (congrArg (pure : Int × Int × Int → Sem (Int × Int × Int)) (cl_bounds hac ha))) ?_)
  show wpAny _ _ (if ((1 : Int) == 1) = true then _ else _) _ _ s
  rw [if_pos (by decide)]; refine wpAny_bind (wpAny_rule ?_)
  first | simp only [notLongL hz, Bool.false_eq_true, if_false] | refine PySem.W.KFB.if_not (notLongL hz) ?_
  first | refine wpAny_bind (wpAny_pure ?_) | skip
  show wpAny _ _ (updateSeq l (fun z => z.extract 0 ((a : Int)).toNat ++ ys ++ z.extract (max (a : Int) ((min c xs.size : Nat) : Int)).toNat z.size) >>= _) _ _ s
  rw [mx, Int.toNat_natCast]
  refine wpAny_bind (wpAny_updateSeq (hz := Nat.le_trans (Nat.le_add_right _ _) hz) (_hz' := sz) e1 rfl (wpAny_bind (wpAny_letGo ?_)))
  first | exact wpAny_bind (wpAny_pure (wpAny_pure ⟨.none, rfl, wpAny_pure q⟩)) | exact wpAny_pure ⟨.none, rfl, wpAny_pure q⟩
end
section
variable {X : Cx} {o : Expr} {to : TE} {lo hi : Option Expr} {tl th : TO} {pos p2 : Pos}
def gSla (to : TE) (tl th : TO) : TG := fun v σ H Q => to σ H fun x H1 => tl σ H1 fun l H2 => th σ H2 fun u H3 => ∃ (L b : Addr) (xs ys : List V) (a c : Nat), x = .ref L ∧ v = .ref b ∧ l = some (a : Int) ∧ u = some (c : Int) ∧ H3 L = some (.lst xs) ∧ H3 b = some (.lst ys) ∧
  L ≠ b ∧ a ≤ c ∧ a ≤ xs.length ∧ xs.length + ys.length ≤ sizeLine ∧ Q σ (upd H3 L (.lst (xs.take a ++ ys ++ xs.drop c)))
theorem pg_sla (ho : PE X o to) (hl : PO X lo tl) (hu : PO X hi th)
    (ha : ∀ v, assign (.Subscript o (.Slice lo hi none p2) pos) X.env v = (do
      let ov ← holding [v] (eval o X.env)
      let iv ← holding [v, ov] (eval (.Slice lo hi none p2) X.env)
      standAt pos
      holding [v, ov, iv] (setItem ov iv v)
      release [iv, v, ov] []) := by intro _; rfl) : PG X (.Subscript o (.Slice lo hi none p2) pos) (gSla to tl th) := by
  constructor
  intro pins s σ H v u Q I r h
  rw [ha]
  refine wpAny_bind (wpAny_holding (thn (ho.run pins s σ H _ I h) fun ov s1 z1 => ?_))
  obtain ⟨x, H1, I1, r1, q1⟩ := z1
  refine wpAny_bind (wpAny_holding (wpAny_Slice (thn (hl.run pins s1 σ H1 _ I1 q1) fun vl s2 z2 => ?_)))
  obtain ⟨l, H2, I2, pl, q2⟩ := z2
  refine thn (hu.run pins s2 σ H2 _ I2 q2) fun vu s3 z3 => ?_
  obtain ⟨u', H3, I3, pu, q3⟩ := z3
  rw [evalPart_none]
  refine wpAny_pure ?_
  have I4 : Inv X pins σ H3 { s3 with heap := s3.heap.push { cls := .type "slice", data := .fields #[vl, vu, .none] } } := I3.kept (t' := s3.toks) fun b ob q => Heap.get?_push_of_some _ q
  obtain ⟨L, b, xs, ys, a, c, rfl, rfl, rfl, rfl, hL, hB, ne, hac, hax, hz, q⟩ := q3
  cases r1
  cases r
  obtain ⟨z, its, n, rv, hl', e1⟩ := I4.lstM hL
  obtain ⟨z2, its2, n2, rv2, hl2, e2⟩ := I4.lstM hB
  refine wpAny_bind (wpAny_standAt (wpAny_bind (wpAny_holding (sl_store e1 e2 ne (Heap.IsSliceOf.new ..) pl pu hac (by rw [List.size_toArray]; omega) (by rw [List.size_toArray, List.size_toArray]; omega) (wpAny_release ?_)))))
  refine ⟨σ, _, I4.lset (its' := its.take a ++ its2 ++ its.drop (min c its.length)) (t' := s3.toks) hL e1 ?_ (Vals.append (Vals.append (rv.take _) rv2) ?_) ?_, q⟩
  · simpa using splice_eq its its2 a (min c its.length)
  · have ed : xs.drop c = xs.drop (min c its.length) := by
      by_cases hc : c ≤ its.length
      · rw [Nat.min_eq_left hc]
      · rw [Nat.min_eq_right (by omega), List.drop_of_length_le (by omega), List.drop_of_length_le (by omega)]
    rw [ed]
    exact rv.drop _
  · rw [List.length_append, List.length_append, List.length_take, List.length_drop]
    omega
end
end Mc
namespace Mc
open PySem L2 PySem.Spec PyProof.Rows HT
/-! ### t += u of tuples -/
theorem noI_tup : typeLookup (.type "tuple") (dunderI "add") = pure none := by kernel_rfl
section
variable {prog : Program} {w : World} {A : Around} {E : Value → Shared → Prop} {s : Shared}
theorem itup {t b : Addr} {vs ws : List Value} {Q : Value → Shared → Prop} (ht : IsTup s.heap t vs.toArray) (hb : IsTup s.heap b ws.toArray) (h0 : vs = [] → Q (.ref b) s) (h1 : vs ≠ [] → ws = [] → Q (.ref t) s)
    (h2 : vs ≠ [] → ws ≠ [] → Q (.ref s.heap.objs.size) { s with heap := s.heap.push { cls := .type "tuple", data := .seq (vs ++ ws).toArray } }) (hsz : vs.length + ws.length ≤ sizeLine) :
    wpAny (model prog w) A (inplaceOp .Add (.ref t) (.ref b)) Q E s := by
  obtain ⟨⟨c1, d1, x1, s1⟩, ho, hc, n, hd⟩ := id ht
  obtain ⟨⟨c2, d2, x2, s2⟩, ho2, hc2, n2, hd2⟩ := id hb
  dsimp only at hc hd hc2 hd2
  subst hc hd hc2 hd2
  have t1 : s.TypeIs (.ref t) "tuple" := ⟨_, ho, rfl⟩
  have t2 : s.TypeIs (.ref b) "tuple" := ⟨_, ho2, rfl⟩
  refine wpAny_inplaceOp_concat t1 t2 noI_tup noFill_tuple_add seq_tuple_add ?_
  by_cases hv : vs = []
  · exact call_meets PySem.F.slot_tuple_add t1 PySem.F.entry_tuple_add (PySem.F.args_tuple_add_2 _ _) (tuple_addW0 t b vs.toArray ws.toArray n n2 d1 d2 s1 s2 (by simp [hv])) ⟨ho, ho2, h0 hv⟩
  by_cases hw : ws = []
  · exact call_meets PySem.F.slot_tuple_add t1 PySem.F.entry_tuple_add (PySem.F.args_tuple_add_2 _ _) (tuple_addW1 t b vs.toArray ws.toArray n n2 d1 d2 s1 s2 (by simpa using hv) (by simp [hw])) ⟨ho, ho2, h1 hv hw⟩
  · refine call_meets PySem.F.slot_tuple_add t1 PySem.F.entry_tuple_add (PySem.F.args_tuple_add_2 _ _) (tuple_addW2 t b vs.toArray ws.toArray n n2 d1 d2 s1 s2 (by simpa using hv) (by simpa using hw) (by rw [List.size_toArray, List.size_toArray]; exact hsz)) ⟨ho, ho2, ?_⟩
    rw [show vs.toArray ++ ws.toArray = (vs ++ ws).toArray by simp]
    exact h2 hv hw
end
theorem in_addT {X : Cx} : InOp X .Add (rCatA X.K) := by
  intro pins s σ H x y u v Q I rx ry h
  obtain ⟨a, b, xs, ys, rfl, rfl, ha, hb, hz, q0, q1, q2⟩ := h
  cases rx
  cases ry
  obtain ⟨its, r1, p1, _⟩ := I.tuple ha
  obtain ⟨its2, r2, p2, _⟩ := I.tuple hb
  refine itup p1 p2 (fun z => ⟨.ref b, H, I, rfl, q0 (r1.nil_iff.mp z)⟩) (fun z1 z2 => ⟨.ref a, H, I, rfl, q1 (fun z => z1 (r1.nil_iff.mpr z)) (r2.nil_iff.mp z2)⟩) (fun z1 z2 => ?_) (by rw [← r1.length, ← r2.length]; exact hz)
  refine ⟨.ref s.heap.objs.size, _, I.laid (t' := s.toks) (o := .tup (xs ++ ys)) (fun b ob q => Heap.get?_push_of_some _ q) (Nat.le_refl _) ?_, rfl, q2 (fun z => z1 (r1.nil_iff.mpr z)) (fun z => z2 (r2.nil_iff.mpr z)) _ (I.hok.fresh (Nat.le_refl _))⟩
  exact ⟨by rw [List.length_append]; exact hz, _, r1.append r2, IsTup.new _ _⟩
/-- what t + u is, whether a part is empty or not -/
theorem catA_of {K : PySem.W.Frag} {H : Hp} {Q : VK} {a b : Addr} {xs ys : List V} (ha : H a = some (.tup xs)) (hb : H b = some (.tup ys)) (hz : xs.length + ys.length ≤ sizeLine)
    (q : ∀ (p : Addr) (H' : Hp), Same H H' → (∀ c, c ≠ p → H' c = H c) → H' p = some (.tup (xs ++ ys)) → Q (.ref p) H') : rCatA K (.ref a) (.ref b) H Q := by
  refine ⟨a, b, xs, ys, rfl, rfl, SqT.of ha, SqT.of hb, hz, fun e => ?_, fun _ e => ?_, fun _ _ p hp => ?_⟩
  · subst e; exact q b H (fun _ _ z => z) (fun _ _ => rfl) hb
  · subst e; exact q a H (fun _ _ z => z) (fun _ _ => rfl) (by rw [List.append_nil]; exact ha)
  · exact q p _ (fun c o e => by rw [upd_ne (ne_of_none e hp)]; exact e) (fun c hc => upd_ne hc) upd_same
end Mc
namespace Mc
open PySem L2 PySem.Spec PyProof.Rows
/-! ### own classes of error over Exception, with an __init__ that stores its arguments -/
def exT : List Value := [.type "Exception", .type "BaseException", .type "object"]
structure OexB (K : PySem.W.Frag) (C : Addr) : Prop where
  ini : PySem.W.excInitIn K C exT "Exception.__new__" = true
  ovr : PySem.W.excOver K C exT = true
  hd : PySem.W.hasDictIn K C = true
  sa : PySem.W.findIn K (.ref C) "__setattr__" = some (some (.builtin "object.__setattr__"))
  exC : PySem.W.subIn K (.ref C) (.type "BaseException") = some true
  tyC : PySem.W.typeIn K (.ref C) = some (.type "type")
  kC : PySem.W.keepIn K (.ref C) = true
theorem OexB.cd {K : PySem.W.Frag} {C : Addr} (T : OexB K C) : ∃ c, PySem.W.clsIn K C = some c ∧ c.hasDict = true := by
  have h := T.hd
  unfold PySem.W.hasDictIn at h
  cases e : PySem.W.clsIn K C with
  | none => rw [e] at h; cases h
  | some c => rw [e] at h; exact ⟨c, rfl, h⟩
section
open Builtin Builtin.ObjectAttr
variable {prog : Program} {w : World} {A : Around} {R : Result → Shared → Prop} {hp : Heap} {g : Array GenState} {dr : Drawn} {t : Nat} {os : OsState} {K : PySem.W.Frag} {C x : Addr} {y : PySem.Str} {tk : Tok} {u : Value} {fv : Array Value}
theorem taker_none (h : PySem.W.findIn K (.ref C) y = some none) : PySem.W.takerIn K C y = some none := by
  unfold PySem.W.takerIn
  rw [h]
  rfl
theorem sto_first (T : OexB K C) (hK : K.In hp) (ho : hp.get? x = some { cls := .ref C, data := .fields fv }) (hno : PySem.W.findIn K (.ref C) y = some none)
    (q : ∀ h' tk' dx, (∀ b o, b ≠ x → hp.get? b = some o → h'.get? b = some o) → hp.objs.size ≤ dx → dx ≠ x → h'.get? x = some { cls := .ref C, dict := some dx, data := .fields fv } → h'.Ns1 dx (fun z => if z = y then some u else none) →
      R (.ok (.ret .none)) ⟨h', g, dr, tk', os⟩) : codeAny (model prog w) A (.call (.builtin "object.__setattr__") ⟨[.ref x, .str y tk, u], []⟩) R ⟨hp, g, dr, t, os⟩ := by
  obtain ⟨c, hc, hh⟩ := T.cd
  refine PySem.W.osa_openX (od := none) (r := none) PySem.F.store_Exception hK ⟨ho, rfl, rfl, trivial⟩ T.ovr (taker_none hno) fun b => ?_
  have hcl : PySem.W.Looks (model prog w) hp (classData C) c := PySem.W.looks_clsIn hK hc
  have ne : x ≠ hp.objs.size := Nat.ne_of_lt (Heap.lt_size ho)
  obtain ⟨c1, c2, c3, c4, c5, c6, c7, c8, c9, c10, c11⟩ := c
  dsimp only at hh
  subst hh
  show wpAny _ _ (storeInOwnDict (.ref x) (.ref C) (.str y tk) y u b) _ _ _
  unfold storeInOwnDict ownDictForStores
  repeat (first | with_reducible refine PySem.PX.store_in_new ?_ ?_ | with_reducible refine wpAny_loadPart_at ho ?_ | with_reducible refine hcl.at ?_ | wp_step)
  · exact ⟨_, #[], _, (Heap.get?_update_ne _ _ _ _ ne.symm).trans (Heap.get?_push_at rfl rfl), rfl, fun e he => absurd he (by simp), fun _ => rfl⟩
  · intro h' tk' hn' hs
    exact q h' tk' hp.objs.size (fun b o hb hbo => (hs.2 b (Nat.ne_of_lt (Heap.lt_size hbo))).trans ((Heap.get?_update_ne _ _ _ _ hb).trans (Heap.get?_push_of_some _ hbo))) (Nat.le_refl _) ne.symm
      ((hs.2 x ne).trans (Heap.get?_update_self _ (Heap.get?_push_of_some _ ho) rfl)) hn'
theorem sto_more {dx : Addr} {m0 : PySem.Str → Option Value} {nl : List PySem.Str} (T : OexB K C) (hK : K.In hp) (ho : hp.get? x = some { cls := .ref C, dict := some dx, data := .fields fv }) (hno : PySem.W.findIn K (.ref C) y = some none)
    (hns : hp.Ns1 dx m0) (hw : Within m0 nl) (hz : nl.length ≤ 1000)
    (q : ∀ h' tk', (∀ b o, b ≠ dx → hp.get? b = some o → h'.get? b = some o) → h'.Ns1 dx (fun z => if z = y then some u else m0 z) → R (.ok (.ret .none)) ⟨h', g, dr, tk', os⟩) :
    codeAny (model prog w) A (.call (.builtin "object.__setattr__") ⟨[.ref x, .str y tk, u], []⟩) R ⟨hp, g, dr, t, os⟩ := by
  obtain ⟨c, hc, hh⟩ := T.cd
  obtain ⟨oD, _, _, hoD, _, _⟩ := hns.count hw
  refine PySem.W.osa_openX (od := some oD) (r := none) PySem.F.store_Exception hK ⟨ho, rfl, rfl, hoD⟩ T.ovr (taker_none hno) fun b => ?_
  have hcl : PySem.W.Looks (model prog w) hp (classData C) c := PySem.W.looks_clsIn hK hc
  obtain ⟨c1, c2, c3, c4, c5, c6, c7, c8, c9, c10, c11⟩ := c
  dsimp only at hh
  subst hh
  show wpAny _ _ (storeInOwnDict (.ref x) (.ref C) (.str y tk) y u b) _ _ _
  unfold storeInOwnDict ownDictForStores
  repeat (first | with_reducible refine PySem.OEX.store_in_old hns hw hz ?_ | with_reducible refine wpAny_loadPart_at ho ?_ | with_reducible refine hcl.at ?_ | wp_step)
  intro h' tk' hn' hs
  exact q h' tk' (fun b o hb hbo => (hs.2 b hb).trans hbo) hn'
end
section
variable {X : Cx} {pins : List (Addr × Obj)} {σ : L2.St} {H : Hp} {s : Shared} {a C dx : Addr} {f : PySem.Str} {y : V} {u : Value} {fs : List (PySem.Str × V)} {Q : Unit → Shared → Prop} {E : Value → Shared → Prop} {A : Around}
theorem fld_first (T : OexB X.K C) (I : Inv X pins σ H s) (e : H a = some (exo a C none)) (hno : PySem.W.findIn X.K (.ref C) f = some none) (ry : RelV y u)
    (q : ∀ dx s', H dx = none → dx ≠ a → Inv X pins σ (upd (upd H dx (exd dx [(f, y)])) a (exo a C (some dx))) s' → Q () s') : wpAny (model X.prog X.w) A (setAttr (.ref a) f u) Q E s := by
  obtain ⟨t1, ho⟩ := exo_at I.hok e
  obtain ⟨hp, g, d, t, os⟩ := s
  refine PySem.W.set_plain I.kIn (od := none) ⟨ho, rfl, rfl, trivial⟩ T.sa (sto_first T I.kIn ho hno fun h' tk' dx k dn dne hx hn => ?_)
  have hnd : H dx = none := I.hok.fresh dn
  have hb' : ∀ b, b ≠ a → (h'.update a fun _ => { cls := .ref C, data := .fields #[.ref t1, .none, .none, .none, .bool false, .none] }).get? b = h'.get? b := fun b hb => Heap.get?_update_ne _ _ _ _ hb
  have I1 : Inv X pins σ (upd H dx (exd dx [(f, y)])) ⟨h'.update a fun _ => { cls := .ref C, data := .fields #[.ref t1, .none, .none, .none, .bool false, .none] }, g, d, tk', os⟩ :=
    I.laid (t' := tk') (fun b o z => by
      by_cases hb : b = a
      · subst hb
        rw [show hp.get? b = _ from ho] at z
        cases z
        exact Heap.get?_update_self _ hx rfl
      · rw [hb' b hb]
        exact k b o hb z) dn (exd_ok (hn.at fun o z => (hb' dx dne).trans z) (relO_put (fs := []) ry fun g => True.intro))
  have ea : upd H dx (exd dx [(f, y)]) a = some (exo a C none) := by rw [upd_ne (Ne.symm dne)]; exact e
  exact q dx _ hnd dne (I1.write (t' := tk') (x := a) (e := a) (o := exo a C (some dx)) (by rw [ea]; exact True.intro) (.inl rfl) (fun b o hb z => (hb' b hb).symm.trans z) ⟨_, hx⟩ (exo_ok hx))
theorem fld_more (T : OexB X.K C) (I : Inv X pins σ H s) (e : H a = some (exo a C (some dx))) (ed : H dx = some (exd dx fs)) (hl : fs.length ≤ 900) (hno : PySem.W.findIn X.K (.ref C) f = some none) (ry : RelV y u)
    (q : ∀ s', Inv X pins σ (upd H dx (exd dx ((f, y) :: fs))) s' → Q () s') : wpAny (model X.prog X.w) A (setAttr (.ref a) f u) Q E s := by
  obtain ⟨t1, ho⟩ := exo_at I.hok e
  obtain ⟨mA, hns, rel⟩ := exd_at I.hok ed
  have hw := within_of rel
  obtain ⟨hp, g, d, t, os⟩ := s
  obtain ⟨oD, _, _, hoD, _, _⟩ := hns.count hw
  refine PySem.W.set_plain I.kIn (od := some oD) ⟨ho, rfl, rfl, hoD⟩ T.sa (sto_more T I.kIn ho hno hns hw (by rw [List.length_map]; omega) fun h' tk' k hn => ?_)
  obtain ⟨o, _, _, e', _⟩ := id hn
  exact q _ (I.write (t' := tk') (x := dx) (e := dx) (o := exd dx ((f, y) :: fs)) (by rw [ed]; exact True.intro) (.inl rfl) k ⟨o, e'⟩ (exd_ok hn (relO_put ry rel)))
end
section
variable {X : Cx} {o e : Expr} {es : List Expr} {to te : TE} {ta : TA} {p' p pos : Pos} {f x : PySem.Str}
def tOstB (K : PySem.W.Frag) (f : PySem.Str) (to te : TE) : TS := fun D σ H => te σ H fun y H1 => to σ H1 fun x H2 => ∃ a C : Addr, x = .ref a ∧ OexB K C ∧ PySem.W.findIn K (.ref C) f = some none ∧
  ((H2 a = some (exo a C none) ∧ ∀ dx, H2 dx = none → dx ≠ a → D.nx σ (upd (upd H2 dx (exd dx [(f, y)])) a (exo a C (some dx)))) ∨
    ∃ (dx : Addr) (fs : List (PySem.Str × V)), H2 a = some (exo a C (some dx)) ∧ H2 dx = some (exd dx fs) ∧ fs.length ≤ 900 ∧ D.nx σ (upd H2 dx (exd dx ((f, y) :: fs))))
theorem ps_ostB (ho : PE X o to) (he : PE X e te) (hs : swapsWith e (some (.Attribute o f p')) pos.line X.env = pure false := by rfl) : PS X (.Assign [.Attribute o f p'] e pos) (tOstB X.K f to te) := by
  constructor
  intro pins s σ H D I h
  refine plainObj_wpAny_Assign_Attribute (thn (he.run pins s σ H _ I h) fun v s1 hv => ?_) hs
  obtain ⟨y, H1, I1, r1, q1⟩ := hv
  refine thn (ho.run pins s1 σ H1 _ I1 q1) fun u s2 hu => ?_
  obtain ⟨x, H2, I2, r2, a, C, rfl, T, hno, q⟩ := hu
  cases r2
  rcases q with ⟨ea, q⟩ | ⟨dx, fs, ea, ed, hl, q⟩
  · exact fld_first T I2 ea hno r1 fun dx s' n1 n2 J => ⟨σ, _, J, q dx n1 n2⟩
  · exact fld_more T I2 ea ed hl hno r1 fun s' J => ⟨σ, _, J, q⟩
/-- C(e, ..) -/
def tMkB (C : Addr) (sp : Sp) (ta : TA) : L2.St → Hp → XK → Prop := fun σ H Q => ta σ H fun vs H1 => vs.length ≤ 1000 ∧ ∀ a, H1 a = none → sp (.ref a :: vs) (upd H1 a (exo a C none)) (fun v H2 => v = .non ∧
  ∃ (d : Addr) (fs : List (PySem.Str × V)), H2 a = some (exo a C (some d)) ∧ H2 d = some (exd d fs) ∧ H1 d = none ∧ Q (.ref C) (some d) (upd (del H2 a) d (.xd fs))) E0
theorem pmk_B {C fI : Addr} {k : Nat} {fd : FuncData} {ps : List PySem.Str} {sp : Sp} (T : OexB X.K C) (iC : PySem.W.findIn X.K (.ref C) "__init__" = some (some (.ref fI))) (tI : PySem.W.isFn X.K (.ref fI) = true)
    (F1 : FnOk X.prog X.w X.K X.mg X.base CX0 k fI fd ps sp) (hr : Room (k + 1) X.A) (hb : Binds X.K fd ps []) (hg : Gl X x) (hm : X.mg x = some (.ref C)) (ha : PA X (e :: es) ta)
    (hdb : (x == ("__debug__" : PySem.Str)) = false := by decide) (he : starEach (e :: es) X.env = (false, eval e X.env) :: starEach es X.env := by rfl) (hpl : (backTo pos (starEach es X.env)).any (·.1) = false := by rfl) :
    PMk X (.Call (.Name x p) (e :: es) [] pos) (tMkB C sp ta) := by
  intro pins s σ H Q I h
  refine wpAny_Call_Name_kw (ld_glob I hg hm ?_ hdb)
  refine PySem.W.callWith_K (h₀ := X.base) I.ok.mod.kin T.kC (thn (ha.run pos pins s σ H _ I h) fun us s1 hu => ?_) he hpl
  obtain ⟨vs, H1, I1, r1, hz, q1⟩ := hu
  refine ⟨I1.kIn, ?_⟩
  show wpAny _ _ (call (.ref C) us) _ _ _
  obtain ⟨nm, N, qn, bs, bm, hdct, sn, sub, ab, col, dd, k0, k1, k2, k3, k5, hC, hT⟩ := PySem.W.excInit_of I1.kIn T.ini
  obtain ⟨oI, hoI, hcI⟩ : ∃ oI, s1.heap.get? fI = some oI ∧ oI.cls = .type "function" := by
    obtain ⟨o, z1, z2⟩ := Option.map_eq_some_iff.mp (show (X.K.lookup fI).map (·.cls) = some (.type "function") from beq_iff_eq.mp tI)
    exact ⟨o, I1.kIn _ _ z1, z2⟩
  obtain ⟨hp, g, dr, tk, os⟩ := s1
  have le1 : hp.objs.size ≤ hp.objs.size + 1 := Nat.le_succ _
  have q2 := q1 (hp.objs.size + 1) (I1.hok.fresh le1)
  have grow : ∀ b o, hp.get? b = some o → ((hp.push (PySem.W.kdv_tup us)).push (PySem.PX.excO C hp.objs.size)).get? b = some o := fun b o z => Heap.get?_push_of_some _ (Heap.get?_push_of_some _ z)
  have here : ((hp.push (PySem.W.kdv_tup us)).push (PySem.PX.excO C hp.objs.size)).get? (hp.objs.size + 1) = some (PySem.PX.excO C hp.objs.size) := by heap_get
  have I2 : Inv X pins σ (upd H1 (hp.objs.size + 1) (exo (hp.objs.size + 1) C none)) ⟨(hp.push (PySem.W.kdv_tup us)).push (PySem.PX.excO C hp.objs.size), g, dr, tk, os⟩ := I1.laid (t' := tk) grow le1 (exo_ok here)
  have hv : Vals (V.ref (hp.objs.size + 1) :: vs) (Value.ref (hp.objs.size + 1) :: us) := .cons rfl r1
  have hln : (Value.ref (hp.objs.size + 1) :: us ++ []).length = ps.length := by
    rw [List.append_nil, ← hv.length]
    exact F1.len _ _ _ _ q2
  have hus : us.length ≤ sizeLine := by
    rw [← Paired.length r1, sizeLine_eq]
    omega
  have bt := hb ⟨(hp.push (PySem.W.kdv_tup us)).push (PySem.PX.excO C hp.objs.size), g, dr, tk, os⟩ (Value.ref (hp.objs.size + 1) :: us) I2.kIn hln
  rw [List.append_nil] at bt
  refine wpAny_call (PySem.PX.call_own PySem.F.excBase_Exception hT hC (PySem.W.looks_findIn I1.kIn iC) (fun self => PySem.W.exc_bind hoI hcI self) hus
    (codeAny_mono (F1.run _ X.stack _ _ ⟨Value.ref (hp.objs.size + 1) :: us, []⟩ _ _ _ E0 (hr.make C us []) (I2.env0.make C us []) bt hv q2) fun r s' z => ?_))
  cases r with
  | error er => exact pass0 pins σ _ _ er s' I2 z
  | ok fl =>
    cases fl with
    | ret u =>
      obtain ⟨v, H2, z1, z2, z3, z4, rv, rfl, d, fs, ea, ed, hd1, q3⟩ := z
      obtain ⟨h2, g2, d2, t2, os'⟩ := s'
      exact ⟨rv, mk_end (raises_own T.exC T.tyC) I1 le1 grow z3 z4 z1 z2 ea ed hd1 q3⟩
    | next => exact False.elim z
    | brk => exact False.elim z
    | cont => exact False.elim z
end
end Mc
namespace Mc
open PySem L2 PySem.Spec PyProof.Rows
/-! ### calls that may raise -/
def CalX (P : Program) (w : World) (K : PySem.W.Frag) (mg : PySem.Str → Option Value) (base : Heap) (k : Nat) (x : PySem.Str) (ps : List PySem.Str) (sp : Sp) : Prop :=
  ∃ (f : Addr) (fd : FuncData), mg x = some (.ref f) ∧ PySem.W.keepIn K (.ref f) = true ∧ Binds K fd ps [] ∧ FnOk P w K mg base (L2.CX P w) k f fd ps sp
def CalMX (P : Program) (w : World) (K : PySem.W.Frag) (mg : PySem.Str → Option Value) (base : Heap) (C : Addr) (k : Nat) (m : PySem.Str) (ps : List PySem.Str) (sp : Sp) : Prop :=
  ∃ (f : Addr) (fd : FuncData), Meth K C m f ∧ Binds K fd ps [] ∧ FnOk P w K mg base (L2.CX P w) k f fd ps sp
def CalIX (P : Program) (w : World) (K : PySem.W.Frag) (mg : PySem.Str → Option Value) (base : Heap) (C : Addr) (k : Nat) (x : PySem.Str) (ps : List PySem.Str) (sp : Sp) : Prop :=
  ∃ (f : Addr) (fd : FuncData), mg x = some (.ref C) ∧ Mk K C f ∧ Binds K fd ps [] ∧ FnOk P w K mg base (L2.CX P w) k f fd ps sp
/-- o.m(..) where E σ is wished of what it raises -/
def tMethE (C : Addr) (m : PySem.Str) (sp : Sp) (E : L2.St → XK) (ta : TE) (t : TA) : TE := fun σ H Q => ta σ H fun x H1 => ∃ a dx fs, x = .ref a ∧ H1 a = some (.ins C dx fs) ∧ fs.lookup m = none ∧ t σ H1 fun vs H2 => sp (x :: vs) H2 Q (E σ)
section
variable {X : Cx} {k : Nat} {x m : PySem.Str} {ps : List PySem.Str} {sp : Sp} {C : Addr} {p pos apos : Pos} {e o : Expr} {es : List Expr} {t : TA} {ta : TE} {E : L2.St → XK}
theorem pe_calX (c : CalX X.prog X.w X.K X.mg X.base k x ps sp) (hr : Room k X.A) (hg : Gl X x) (hx : ∀ σ, PassesAt (L2.CX X.prog X.w) X σ (E σ)) (ha : PA X (e :: es) t) (hdb : (x == ("__debug__" : PySem.Str)) = false := by decide)
    (he : starEach (e :: es) X.env = (false, eval e X.env) :: starEach es X.env := by rfl) (hpl : (backTo pos (starEach es X.env)).any (·.1) = false := by rfl) : PE X (.Call (.Name x p) (e :: es) [] pos) (tCallS sp E t) := by
  obtain ⟨f, fd, hm, hk, hb, F⟩ := c
  exact pe_callS F hr hg hm hk hb hx ha hdb he hpl
theorem pe_calMX {pl : Sem Bool} (ho : PE X o ta) (cl : Cls X.K C) (c : CalMX X.prog X.w X.K X.mg X.base C k m ps sp) (hr : Room k X.A) (hx : ∀ σ, PassesAt (L2.CX X.prog X.w) X σ (E σ)) (ha : PA X (e :: es) t)
    (hst : starEach (e :: es) X.env = (false, eval e X.env) :: starEach es X.env := by rfl) (hpl : (backTo pos (starEach es X.env)).any (·.1) = false := by rfl)
    (ht : eval (.Call (.Attribute o m apos) (e :: es) [] pos) X.env = (do
      let ov ← eval o X.env
      standAt apos.atName
      let (f, first) ← holding [ov] (getMethod ov m pl)
      callWith pos f first (backTo pos (starEach (e :: es) X.env)) (backToKw pos (keywordEach [] X.env))) := by rfl) :
    PE X (.Call (.Attribute o m apos) (e :: es) [] pos) (tMethE C m sp E ta t) := by
  obtain ⟨f, fd, hm, hb, F⟩ := c
  constructor
  intro pins s σ H Q I h
  refine PySem.W.methodCall_KW (pl := pl) (thn (ho.run pins s σ H _ I h) fun u s1 z1 => ?_) ht
  obtain ⟨x, H1, I1, rx, a, dx, fs, rfl, ea, l, q⟩ := z1
  cases rx
  refine getmeth_ok I1 ea cl hm l (PySem.W.callWith_K (first := [.ref a]) (h₀ := X.base) I.ok.mod.kin hm.kp (thn (ha.run pos pins s1 σ H1 _ I1 q) fun us s2 z2 => ?_) hst hpl)
  obtain ⟨vs, H2, I2, r, q2⟩ := z2
  exact ⟨I2.kIn, run_fnS (us := .ref a :: us) (vs := .ref a :: vs) F hr hb (hx σ) I2 (.cons rfl r) q2⟩
/-- nothing is raised at this call -/
theorem noE {X : Cx} : ∀ σ : L2.St, PassesAt (L2.CX X.prog X.w) X σ ((fun _ => E0) σ) := fun σ pins H s e s' I h => passL pins σ H s e s' I h
end
/-! ### C(..) whose __init__ may raise -/
def tMakeE (C : Addr) (sp : Sp) (E : L2.St → XK) (t : TA) : TE := fun σ H Q => t σ H fun vs H1 => ∀ x dx, H1 x = none → H1 dx = none → dx ≠ x → sp (.ref x :: vs) (upd (upd H1 dx (.own x)) x (.ins C dx [])) (fun v H2 => v = .non ∧ Q (.ref x) H2) (E σ)
theorem run_makeE {X : Cx} {k : Nat} {f C : Addr} {fd : FuncData} {ps : List PySem.Str} {sp : Sp} {E : XK} {pins : List (Addr × Obj)} {σ : L2.St} {H : Hp} {s : Shared} {Q : VK} {us : List Value} {vs : List V} (M : Mk X.K C f) (F : FnOk X.prog X.w X.K X.mg X.base (L2.CX X.prog X.w) k f fd ps sp) (hr : Room (k + 1) X.A) (hb : Binds X.K fd ps [])
    (hx : PassesAt (L2.CX X.prog X.w) X σ E) (I : Inv X pins σ H s) (r : Vals vs us)
    (h : ∀ x dx, H x = none → H dx = none → dx ≠ x → sp (.ref x :: vs) (upd (upd H dx (.own x)) x (.ins C dx [])) (fun v H2 => v = .non ∧ Q (.ref x) H2) E) :
    wpAny (model X.prog X.w) X.A (call (.ref C) us) (EP X pins σ Q) X.xe s := by
  have hq := h (s.heap.objs.size + 1) s.heap.objs.size (I.hok.fresh (Nat.le_succ _)) (I.hok.fresh (Nat.le_refl _)) (Nat.ne_of_lt (Nat.lt_succ_self _))
  have I2 := Inv.made (C := C) I
  have r2 : Vals (V.ref (s.heap.objs.size + 1) :: vs) (Value.ref (s.heap.objs.size + 1) :: us) := .cons rfl r
  have hl : (Value.ref (s.heap.objs.size + 1) :: us ++ []).length = ps.length := by
    have e := r2.length
    rw [F.len _ _ _ _ hq] at e
    rw [List.append_nil]
    exact e.symm
  have bt := hb _ (Value.ref (s.heap.objs.size + 1) :: us) I2.kIn hl
  rw [List.append_nil] at bt
  refine wpAny_call (make_map (f := f) I.kIn M.makes M.init (beq_iff_eq.mp M.fn) (codeAny_mono (F.run _ X.stack _ _ ⟨Value.ref (s.heap.objs.size + 1) :: us, []⟩ (Value.ref (s.heap.objs.size + 1) :: us) _ _ E (hr.make C us [])
    (I2.env0.make C us []) bt r2 hq) fun r s' hq' => ?_))
  cases r with
  | error e => exact hx pins _ _ e s' I2 hq'
  | ok fl =>
    cases fl with
    | ret u =>
      obtain ⟨v, H', I3, rv, ev, q3⟩ := I2.after hq'
      subst ev
      exact ⟨rv, ⟨V.ref (s.heap.objs.size + 1), H', I3, rfl, q3⟩⟩
    | next => exact False.elim hq'
    | brk => exact False.elim hq'
    | cont => exact False.elim hq'
section
variable {X : Cx} {k : Nat} {x : PySem.Str} {ps : List PySem.Str} {sp : Sp} {C : Addr} {p pos : Pos} {e : Expr} {es : List Expr} {t : TA} {E : L2.St → XK}
theorem pe_calIX (c : CalIX X.prog X.w X.K X.mg X.base C k x ps sp) (hr : Room (k + 1) X.A) (hg : Gl X x) (hx : ∀ σ, PassesAt (L2.CX X.prog X.w) X σ (E σ)) (ha : PA X (e :: es) t) (hdb : (x == ("__debug__" : PySem.Str)) = false := by decide)
    (he : starEach (e :: es) X.env = (false, eval e X.env) :: starEach es X.env := by rfl) (hpl : (backTo pos (starEach es X.env)).any (·.1) = false := by rfl) : PE X (.Call (.Name x p) (e :: es) [] pos) (tMakeE C sp E t) := by
  obtain ⟨f, fd, hm, M, hb, F⟩ := c
  refine ⟨fun pins s σ H Q I h => ?_⟩
  refine wpAny_Call_Name_kw (ld_glob I hg hm ?_ hdb)
  refine PySem.W.callWith_K (h₀ := X.base) I.ok.mod.kin M.kp (thn (ha.run pos pins s σ H _ I h) fun us s1 ⟨vs, H1, I1, r, q⟩ => ⟨I1.kIn, ?_⟩) he hpl
  exact run_makeE M F hr hb (hx σ) I1 r q
end
/-! ### an own error of one field -/
def spBadI (C : Addr) (f : PySem.Str) : Sp := fun vs H Q _ => ∃ (a : Addr) (v : V), vs = [.ref a, v] ∧ H a = some (exo a C none) ∧ ∀ d, H d = none → d ≠ a → Q .non (upd (upd H d (exd d [(f, v)])) a (exo a C (some d)))
theorem ok_badI {P : Program} {w : World} {K : PySem.W.Frag} {mg : PySem.Str → Option Value} {base : Heap} {st : Stmt} {f C : Addr} {fd : FuncData} {n q : PySem.Str} (F : Fun K "__init__" q st f fd) (T : OexB K C) (hno : PySem.W.findIn K (.ref C) n = some none)
    (sc : FnScope ["self", n] ["self", n] (defScope st))
    (bd : ∀ (cdv : Value) (A : Around) (outer : List Env) (s : Shared) (H : Hp) (Q : VK) (E : XK), PSs (cxOf CX0 P w K mg base ["self", n] q (defScope st) f cdv A outer s H E).nox (defBody st) (tOstB K n (tVar 0) (tVar 1))) : FnOk P w K mg base CX0 1 f fd ["self", n] (spBadI C n) := by
  refine F.ok sc (fun vs H Q E h => ?_) (fun cdv A outer s H vs Q E hr h => ?_)
  · obtain ⟨a, v, rfl, _⟩ := h
    rfl
  · obtain ⟨a, v, rfl, ha, k⟩ := h
    refine ⟨_, bd cdv A outer s H Q E, ?_⟩
    exact ⟨_, rfl, _, rfl, a, C, rfl, T, hno, .inl ⟨ha, k⟩⟩
theorem bad_heap {H : Hp} {a d : Addr} {o1 o2 o3 x : HO} (ha : H a = none) (ne : d ≠ a) : upd (del (upd (upd (upd H a o1) d o2) a o3) a) d x = upd H d x := by
  funext b
  by_cases h1 : b = d
  · rw [h1, upd_same, upd_same]
  · rw [upd_ne h1, upd_ne h1]
    by_cases h2 : b = a
    · rw [h2, del_same, ha]
    · rw [del_ne h2, upd_ne h2, upd_ne h1, upd_ne h2]
/-- C(v) -/
theorem mkB_one {C : Addr} {f : PySem.Str} {v : V} {H : Hp} {Q : XK} (q : ∀ d, H d = none → Q (.ref C) (some d) (upd H d (.xd [(f, v)]))) : [v].length ≤ 1000 ∧ ∀ a, H a = none → spBadI C f (.ref a :: [v]) (upd H a (exo a C none)) (fun v' H2 => v' = .non ∧
    ∃ (d : Addr) (fs : List (PySem.Str × V)), H2 a = some (exo a C (some d)) ∧ H2 d = some (exd d fs) ∧ H d = none ∧ Q (.ref C) (some d) (upd (del H2 a) d (.xd fs))) E0 := by
  refine ⟨by show 1 ≤ 1000; decide, fun a ha => ⟨a, v, rfl, upd_same, fun d hd ne => ⟨rfl, d, [(f, v)], upd_same, by rw [upd_ne ne, upd_same], by rw [upd_ne ne] at hd; exact hd, ?_⟩⟩⟩
  have hd0 : H d = none := by rw [upd_ne ne] at hd; exact hd
  rw [bad_heap ha ne]
  exact q d hd0
end Mc
namespace Mc.Cn
open PySem L2 PySem.Spec PyProof.Rows
/-! Known, Keeper -/
abbrev sKnI : Stmt := inClass (top 8) 0
abbrev sKeI : Stmt := inClass (top 9) 0
abbrev sKeKept : Stmt := inClass (top 9) 1
abbrev sKeHandle : Stmt := inClass (top 9) 2
abbrev sKeTake : Stmt := inClass (top 9) 3
abbrev sKeNote : Stmt := inClass (top 9) 4
abbrev sKeReply : Stmt := inClass (top 9) 5
abbrev sKeFlush : Stmt := inClass (top 9) 6
abbrev sKeFall : Stmt := inClass (top 9) 7
theorem sqt_ks {K : PySem.W.Frag} {H H' : Hp} {a : Addr} {xs : List V} (h : SqT K H a xs) (k : Ks H H') : SqT K H' a xs := h.elim (fun z => .inl (k.tp _ _ z)) .inr
theorem atN {α : Type} {xs : List α} {i : Int} {j : Nat} {v : α} (e : i = (j : Int)) (h : xs[j]? = some v) : atI xs i = some v := by subst e; exact atI_nat h
/-- a Known -/
def KnAt (K : PySem.W.Frag) (C : Addr) (H : Hp) (a : Addr) (k : Kn) : Prop := ∃ dx l, H a = some (.ins C dx [("epoch", .int k.ep), ("row", .ref l)]) ∧ LD K H l (k.row.map pairD)
/-- a Keeper -/
def KeF (n : Nat) (r l w : Addr) : List (PySem.Str × V) := [("number", .int n), ("records", .ref r), ("loose", .ref l), ("waiting", .ref w)]
def KeAt (K : PySem.W.Frag) (C : Addr) (H : Hp) (a : Addr) (k : KeS) : Prop := ∃ dx r l w, H a = some (.ins C dx (KeF k.n r l w)) ∧ TD K H r (k.rs.map Rec.d) ∧ TD K H l (k.lo.map Rec.d) ∧ TD K H w (k.wa.map Ltr.d)
theorem KeAt.stay {K : PySem.W.Frag} {C : Addr} {H H' : Hp} {a : Addr} {k : KeS} (x : KeAt K C H a k) (h : Ks H H') (e2 : ∀ o, H a = some o → H' a = some o) : KeAt K C H' a k := by
  obtain ⟨dx, r, l, w, e, f1, f2, f3⟩ := x
  exact ⟨dx, r, l, w, e2 _ e, f1.ks h (tpAR _), f2.ks h (tpAR _), f3.ks h (tpAL _)⟩
theorem KeAt.same {K : PySem.W.Frag} {C : Addr} {H H' : Hp} {a : Addr} {k : KeS} (x : KeAt K C H a k) (h : Same H H') : KeAt K C H' a k := x.stay (Ks.same h) fun _ e => h _ _ e
structure TxK (K : PySem.W.Frag) (mg : PySem.Str → Option Value) (CK CN : Addr) : Prop where
  cl : Cls K CK
  clN : Cls K CN
  nNum : NoAttr K CK "number"
  nRec : NoAttr K CK "records"
  nLoo : NoAttr K CK "loose"
  nWai : NoAttr K CK "waiting"
  nEp : NoAttr K CN "epoch"
  nRow : NoAttr K CN "row"
  max : mg "max" = none
  len : mg "len" = none
  tuple : mg "tuple" = none
def spKnI (K : PySem.W.Frag) (C : Addr) : Sp := fun vs H Q _ => ∃ (p dx t : Addr) (rs : List Rec), vs = [.ref p, .ref t] ∧ H p = some (.ins C dx []) ∧ TD K H t (rs.map Rec.d) ∧ Kn.new.wf rs ∧ rs.length ≤ 100000 ∧
  ∀ H' : Hp, KnAt K C H' p (Kn.new.all rs) → Kp [p] H H' → Ks H H' → Q .non H'
def spKeI (K : PySem.W.Frag) (C : Addr) : Sp := fun vs H Q _ => ∃ (p dx : Addr) (n : Nat), vs = [.ref p, .int n] ∧ H p = some (.ins C dx []) ∧ ∀ H' : Hp, KeAt K C H' p (KeS.new n) → Kp [p] H H' → Ks H H' → Q .non H'
def spKept (K : PySem.W.Frag) (C CN : Addr) : Sp := fun vs H Q _ => ∃ (a : Addr) (k : KeS), vs = [.ref a] ∧ KeAt K C H a k ∧ Kn.new.wf (k.rs ++ k.lo) ∧ (k.rs ++ k.lo).length ≤ 100000 ∧
  ∀ (p : Addr) (H' : Hp), H p = none → Same H H' → KnAt K CN H' p k.kn → Q (.ref p) H'
def spNote (K : PySem.W.Frag) (C : Addr) : Sp := fun vs H Q _ => ∃ (a r : Addr) (k : KeS) (x : Rec), vs = [.ref a, .ref r] ∧ KeAt K C H a k ∧ Dp K H (.ref r) x.d ∧ k.lo.length ≤ 100000 ∧
  ∀ H' : Hp, KeAt K C H' a { k with lo := k.lo ++ [x] } → Kp [a] H H' → Ks H H' → Q .non H'
def spReply (K : PySem.W.Frag) (C : Addr) : Sp := fun vs H Q _ => ∃ (a r : Addr) (k : KeS) (x : Ltr), vs = [.ref a, .ref r] ∧ KeAt K C H a k ∧ Dp K H (.ref r) x.d ∧ k.wa.length ≤ 100000 ∧
  ∀ H' : Hp, KeAt K C H' a { k with wa := k.wa ++ [x] } → Kp [a] H H' → Ks H H' → Q .non H'
def spFlush (K : PySem.W.Frag) (C : Addr) : Sp := fun vs H Q _ => ∃ (a : Addr) (k : KeS), vs = [.ref a] ∧ KeAt K C H a k ∧ (k.rs ++ k.lo).length ≤ 100000 ∧
  ∀ (t : Addr) (H' : Hp), KeAt K C H' a k.flush → TD K H' t (k.wa.map Ltr.d) → Kp [a] H H' → Ks H H' → Q (.ref t) H'
theorem big {n : Nat} (h : n ≤ 300000) : n ≤ sizeLine := by rw [sizeLine_eq]; omega
section
variable {P : Program} {w : World} {K : PySem.W.Frag} {mg : PySem.Str → Option Value} {base : Heap} {CK CN : Addr}
theorem scKeI : FnScope ["self", "number"] ["self", "number"] (defScope sKeI) := ⟨rfl, rfl, rfl, by decide +kernel, rfl, by decide +kernel, by decide +kernel⟩
theorem ok_kei {f : Addr} {fd : FuncData} (F : Fun K "__init__" "Keeper.__init__" sKeI f fd) (T : TxK K mg CK CN) : FnOk P w K mg base CX0 1 f fd ["self", "number"] (spKeI K CK) := by
  refine F.ok scKeI (fun vs H Q E h => ?_) (fun cdv A outer s H vs Q E hr h => ?_)
  · obtain ⟨p, dx, n, rfl, _⟩ := h
    rfl
  · obtain ⟨p, dx, n, rfl, hp, k⟩ := h
    refine ⟨_, (pss_cons (ps_fld (pv 0) (pv 1) rfl) (pss_cons (ps_fld (pv 0) (pe_tup pa_nil) rfl) (pss_cons (ps_fld (pv 0) (pe_tup pa_nil) rfl) (pss_one (ps_fld (pv 0) (pe_tup pa_nil) rfl))))), ?_⟩
    refine ⟨_, rfl, _, rfl, p, CK, dx, [], rfl, hp, T.cl, T.nNum, (by show 0 < 1000; decide), ?_⟩
    refine ⟨Nat.zero_le _, fun r hr => ?_⟩
    have npr : p ≠ r := ne_of_none upd_same hr
    have hr0 : H r = none := by rw [upd_ne npr.symm] at hr; exact hr
    refine ⟨_, rfl, p, CK, dx, _, rfl, (by rw [upd_ne npr]; exact upd_same), T.cl, T.nRec, (by show 1 < 1000; decide), ?_⟩
    refine ⟨Nat.zero_le _, fun l hl => ?_⟩
    have npl : p ≠ l := ne_of_none upd_same hl
    have nrl : r ≠ l := ne_of_none (o := .tup []) (by rw [upd_ne npr.symm, upd_same]) hl
    have hl0 : H l = none := by rw [upd_ne npl.symm, upd_ne nrl.symm, upd_ne npl.symm] at hl; exact hl
    refine ⟨_, rfl, p, CK, dx, _, rfl, (by rw [upd_ne npl]; exact upd_same), T.cl, T.nLoo, (by show 2 < 1000; decide), ?_⟩
    refine ⟨Nat.zero_le _, fun w hw => ?_⟩
    have npw : p ≠ w := ne_of_none upd_same hw
    have nlw : l ≠ w := ne_of_none (o := .tup []) (by rw [upd_ne npl.symm, upd_same]) hw
    have nrw : r ≠ w := ne_of_none (o := .tup []) (by rw [upd_ne npr.symm, upd_ne nrl, upd_ne npr.symm, upd_same]) hw
    have hw0 : H w = none := by rw [upd_ne npw.symm, upd_ne nlw.symm, upd_ne npw.symm, upd_ne nrw.symm, upd_ne npw.symm] at hw; exact hw
    refine ⟨_, rfl, p, CK, dx, _, rfl, (by rw [upd_ne npw]; exact upd_same), T.cl, T.nWai, (by show 3 < 1000; decide), ?_⟩
    have kk : ∀ {a1 a2 a3 a4 b1 b2 b3 : HO}, Ks H (upd (upd (upd (upd (upd (upd (upd H p a1) r b1) p a2) l b2) p a3) w b3) p a4) := fun {a1 a2 a3 a4 b1 b2 b3} => by
      have gen : ∀ b o, b ≠ p → H b = some o → (upd (upd (upd (upd (upd (upd (upd H p a1) r b1) p a2) l b2) p a3) w b3) p a4) b = some o := fun b o nb z => by
        rw [upd_ne nb, upd_ne (ne_of_none z hw0), upd_ne nb, upd_ne (ne_of_none z hl0), upd_ne nb, upd_ne (ne_of_none z hr0), upd_ne nb]
        exact z
      refine ⟨fun b xs z => ?_, fun b xs z => gen b _ (ne_of z hp (by intro e; cases e)) z⟩
      rcases z with z | ⟨f, z⟩
      · exact .inl (gen b _ (ne_of z hp (by intro e; cases e)) z)
      · exact .inr ⟨f, gen b _ (ne_of z hp (by intro e; cases e)) z⟩
    refine k _ ⟨dx, r, l, w, upd_same, ⟨[], ?_, .nil⟩, ⟨[], ?_, .nil⟩, ⟨[], ?_, .nil⟩⟩ (fun b o z n => ?_) kk
    · rw [upd_ne npr.symm, upd_ne nrw, upd_ne npr.symm, upd_ne nrl, upd_ne npr.symm, upd_same]
    · rw [upd_ne npl.symm, upd_ne nlw, upd_ne npl.symm, upd_same]
    · rw [upd_ne npw.symm, upd_same]
    · have nb : b ≠ p := fun e => n (by simp [e])
      rw [upd_ne nb, upd_ne (ne_of_none z hw0), upd_ne nb, upd_ne (ne_of_none z hl0), upd_ne nb, upd_ne (ne_of_none z hr0), upd_ne nb]
      exact z
theorem scKnI : FnScope ["self", "records", "record"] ["self", "records"] (defScope sKnI) := ⟨rfl, rfl, rfl, by decide +kernel, rfl, by decide +kernel, by decide +kernel⟩
theorem take_all {k : Kn} {rs : List Rec} {i : Nat} {x : Rec} (h : rs[i]? = some x) : k.all (rs.take (i + 1)) = (k.all (rs.take i)).step x := by
  rw [List.take_add_one, h, Kn.all_app]
  rfl
theorem take_ok {k : Kn} {rs : List Rec} {i : Nat} {x : Rec} (h : rs[i]? = some x) (wf : k.wf rs) : (k.all (rs.take i)).okR x ∧ (k.all (rs.take i)).row.length ≤ k.row.length + i := by
  have hl : i < rs.length := (List.getElem?_eq_some_iff.mp h).1
  have e : rs = rs.take i ++ x :: rs.drop (i + 1) := by
    have hx : rs[i] = x := (List.getElem?_eq_some_iff.mp h).2
    rw [← hx, ← List.drop_eq_getElem_cons hl, List.take_append_drop]
  have w2 : k.wf (rs.take i ++ x :: rs.drop (i + 1)) := by rw [← e]; exact wf
  obtain ⟨w3, w4⟩ := Kn.wf_app.mp w2
  refine ⟨w4.1, Nat.le_trans (Kn.all_len w3) ?_⟩
  rw [List.length_take]
  omega
theorem ok_kni {f : Addr} {fd : FuncData} (F : Fun K "__init__" "Known.__init__" sKnI f fd) (T : TxK K mg CK CN) : FnOk P w K mg base CX0 1 f fd ["self", "records"] (spKnI K CN) := by
  refine F.ok scKnI (fun vs H Q E h => ?_) (fun cdv A outer s H vs Q E hr h => ?_)
  · obtain ⟨p, dx, t, rs, rfl, _⟩ := h
    rfl
  · obtain ⟨p, dx, t, rs, rfl, hp, ⟨us, ht, hP⟩, wf, hl, k⟩ := h
    refine ⟨_, (pss_cons (ps_fld (pv 0) (pe_un un_neg pe_int) rfl)
      (pss_cons (ps_fld (pv 0) (pe_lst pa_nil) rfl)
      (pss_one (ps_for PassesOwn.never rfl (pi_tup (pv 1)) (pg_name (i := 2) scKnI.nd rfl (Or.inl rfl))
        (pss_cons (ps_fld (pv 0) (pe_callB (call_max2 rfl) (by rfl) T.max boot_max (pa_cons (pe_fld (pv 0) rfl) (pa_cons (pe_ix ix_tup (pv 2) pe_int (fun _ _ => rfl)) pa_nil))) rfl)
        (pss_one (ps_if (pt_cmpR op_eq (pe_ix ix_tup (pv 2) pe_int (fun _ _ => rfl)) pe_str (nomark _))
          (pss_one (ps_asg (pe_lst (pa_cons (pe_tup (pa_cons (pe_ix ix_tup (pv 2) pe_int (fun _ _ => rfl)) (pa_cons (pe_ix ix_tup (pv 2) pe_int (fun _ _ => rfl)) pa_nil))) pa_nil)) (pg_sla (pe_fld (pv 0) rfl) (po_some (pe_ix ix_tup (pv 2) pe_int (fun _ _ => rfl))) (po_some (pe_op op_add (pe_ix ix_tup (pv 2) pe_int (fun _ _ => rfl)) pe_int)))))
          pss_nil))))))), ?_⟩
    refine ⟨_, rfl, _, rfl, p, CN, dx, [], rfl, hp, T.clN, T.nEp, (by show 0 < 1000; decide), ?_⟩
    refine ⟨Nat.zero_le _, fun L hL => ?_⟩
    have npL : p ≠ L := ne_of_none upd_same hL
    have hL0 : H L = none := by rw [upd_ne npL.symm] at hL; exact hL
    refine ⟨_, rfl, p, CN, dx, _, rfl, (by rw [upd_ne npL]; exact upd_same), T.clN, T.nRow, (by show 1 < 1000; decide), ?_⟩
    have ntp : t ≠ p := ne_of ht hp (by intro e; cases e)
    have lenA : us.length = rs.length := by rw [dpA_len hP, List.length_map]
    refine ⟨_, rfl, t, rfl, ⟨_, SqT.of (by rw [upd_ne ntp, upd_ne (ne_of_none ht hL0), upd_ne ntp]; exact ht)⟩, for_tup (K := K) (a := t) (xs := us) (fun i σ H' => ∃ o : Option V, σ = [some (.ref p), some (.ref t), o] ∧ Kp [p, L] H H' ∧ Ks H H' ∧
      H' p = some (.ins CN dx [("epoch", .int (Kn.new.all (rs.take i)).ep), ("row", .ref L)]) ∧ LD K H' L ((Kn.new.all (rs.take i)).row.map pairD)) ?_ ?_ ?_ ?_⟩
    · have k1 := (Ks.ins (o' := .ins CN dx [("epoch", .int (-1))]) hp)
      refine ⟨none, rfl, ((Kp.at (by simp)).trans (Kp.at (by simp))).trans (Kp.at (by simp)), (k1.trans (Ks.new (o := .lst []) hL)).trans (Ks.ins (by rw [upd_ne npL]; exact upd_same)), upd_same, [], ?_, .nil⟩
      rw [upd_ne npL.symm, upd_same]
    · rintro i σ H' _ ⟨o, rfl, _, ks, _⟩
      exact SqT.of (ks.tu _ _ ht)
    · rintro i y σ H' hi ⟨o, rfl, kp, ks, hp', us', hL', hP'⟩
      obtain ⟨dd, hd, rx⟩ := dpA_at hP hi
      rw [List.getElem?_map] at hd
      obtain ⟨x, hx, rfl⟩ := Option.map_eq_some_iff.mp hd
      have rx' := dp_tp ks.tp _ _ (tp_rec x) rx
      obtain ⟨okx, lenx⟩ := take_ok hx wf
      have nLp : L ≠ p := npL.symm
      have hi' : i < rs.length := (List.getElem?_eq_some_iff.mp hx).1
      rw [take_all hx]
      generalize Kn.new.all (rs.take i) = kn at hp' hL' hP' okx lenx ⊢
      have lenA' : us'.length = kn.row.length := by rw [dpA_len hP', List.length_map]
      cases x with
      | prom e =>
        obtain ⟨c, rfl, sq⟩ := dp_prom rx'
        refine ⟨_, rfl, p, CN, dx, _, _, rfl, hp', T.clN, T.nEp, rfl, _, rfl, c, _, 1, .int e, rfl, rfl, sq, rfl, kn.ep, e, rfl, _, rfl, p, CN, dx, _, rfl, hp', T.clN, T.nEp, (by show 2 < 1000; decide), ?_⟩
        refine ⟨_, rfl, c, _, 0, .str "promise", rfl, rfl, sqt_ks sq (Ks.ins hp'), rfl, ?_⟩
        refine ⟨rfl, _, rfl, ?_⟩
        refine ite2 (fun h => absurd h (by decide)) (fun _ => ?_)
        refine ⟨some (.ref c), rfl, kp.trans (Kp.at (by simp)), ks.trans (Ks.ins hp'), upd_same, us', by rw [upd_ne nLp]; exact hL', dpA_tp (Tp.ins hp') _ _ (tpAP _) hP'⟩
      | take e pl x =>
        obtain ⟨c, xv, rfl, sq, dx_⟩ := dp_take rx'
        refine ⟨_, rfl, p, CN, dx, _, _, rfl, hp', T.clN, T.nEp, rfl, _, rfl, c, _, 1, .int e, rfl, rfl, sq, rfl, kn.ep, e, rfl, _, rfl, p, CN, dx, _, rfl, hp', T.clN, T.nEp, (by show 2 < 1000; decide), ?_⟩
        have t1 : Ks H' (upd H' p (.ins CN dx (putF "epoch" (.int (if e > kn.ep then e else kn.ep)) [("epoch", .int kn.ep), ("row", .ref L)]))) := Ks.ins hp'
        have k1 : Kp [p, L] H (upd H' p (.ins CN dx (putF "epoch" (.int (if e > kn.ep then e else kn.ep)) [("epoch", .int kn.ep), ("row", .ref L)]))) := kp.trans (Kp.at (by simp))
        have g1 : upd H' p (.ins CN dx (putF "epoch" (.int (if e > kn.ep then e else kn.ep)) [("epoch", .int kn.ep), ("row", .ref L)])) p = some (.ins CN dx [("epoch", .int (if e > kn.ep then e else kn.ep)), ("row", .ref L)]) := upd_same
        have g2 : upd H' p (.ins CN dx (putF "epoch" (.int (if e > kn.ep then e else kn.ep)) [("epoch", .int kn.ep), ("row", .ref L)])) L = some (.lst us') := by rw [upd_ne nLp]; exact hL'
        generalize upd H' p (.ins CN dx (putF "epoch" (.int (if e > kn.ep then e else kn.ep)) [("epoch", .int kn.ep), ("row", .ref L)])) = H2 at t1 k1 g1 g2 ⊢
        have sq2 := sqt_ks sq t1
        refine ⟨_, rfl, c, _, 0, .str "take", rfl, rfl, sq2, rfl, rfl, _, rfl, ?_⟩
        refine ite2 (fun _ => ?_) (fun h => absurd (by decide) h)
        refine ⟨_, rfl, c, _, 1, .int e, rfl, rfl, sq2, rfl, _, rfl, c, _, 3, xv, rfl, rfl, sq2, rfl, (by show 2 ≤ sizeLine; decide), fun b hb => ?_⟩
        refine ⟨(by show 1 ≤ sizeLine; decide), fun l hl => ?_⟩
        have nbl : b ≠ l := ne_of_none upd_same hl
        have hl0 : H2 l = none := by rw [upd_ne nbl.symm] at hl; exact hl
        have s3 : Same H2 (upd (upd H2 b (.tup [.int e, xv])) l (.lst [.ref b])) := fun u o z => by rw [upd_ne (ne_of_none z hl0), upd_ne (ne_of_none z hb)]; exact z
        have g3 : upd (upd H2 b (.tup [.int e, xv])) l (.lst [.ref b]) l = some (.lst [.ref b]) := upd_same
        have g4 : upd (upd H2 b (.tup [.int e, xv])) l (.lst [.ref b]) b = some (.tup [.int e, xv]) := by rw [upd_ne nbl, upd_same]
        have nLl : L ≠ l := ne_of_none g2 hl0
        generalize upd (upd H2 b (.tup [.int e, xv])) l (.lst [.ref b]) = H3 at s3 g3 g4 ⊢
        have sq3 := sqt_ks sq2 (Ks.same s3)
        refine ⟨_, rfl, p, CN, dx, _, _, rfl, s3 _ _ g1, T.clN, T.nRow, rfl, _, rfl, c, _, 2, .int pl, rfl, rfl, sq3, rfl, (pl : Int), rfl, _, rfl, c, _, 2, .int pl, rfl, rfl, sq3, rfl, _, _, rfl, rfl, (pl : Int) + 1, rfl, ?_⟩
        refine ⟨L, l, us', [.ref b], pl, pl + 1, rfl, rfl, rfl, by push_cast; rfl, s3 _ _ g2, g3, nLl, by omega, by rw [lenA']; exact okx, ?_, ?_⟩
        · have z : (Kn.new).row.length = 0 := rfl
          have : us'.length < sizeLine := by rw [sizeLine_eq]; omega
          first | exact Nat.le_of_lt this | exact this
        have t4 : Ks H3 (upd H3 L (.lst (us'.take pl ++ [.ref b] ++ us'.drop (pl + 1)))) := Ks.lst (s3 _ _ g2)
        have tAll := (t1.trans (Ks.same s3)).trans t4
        refine ⟨some (.ref c), rfl, (k1.trans (Kp.same s3)).trans (Kp.at (by simp)), ks.trans tAll, by rw [upd_ne npL]; exact s3 _ _ g1, us'.take pl ++ [.ref b] ++ us'.drop (pl + 1), upd_same, ?_⟩
        have hA := dpA_tp tAll.tp _ _ (tpAP kn.row) hP'
        have hb4 : Dp K (upd H3 L (.lst (us'.take pl ++ [.ref b] ++ us'.drop (pl + 1)))) (.ref b) (pairD (e, x)) := dp_mkPair (SqT.of (t4.tu _ _ g4)) (dp_tp tAll.tp _ _ (tp_en x) dx_)
        show DpAll K _ _ ((kn.row.take pl ++ [(e, x)] ++ kn.row.drop (pl + 1)).map pairD)
        rw [List.map_append, List.map_append, List.map_take, List.map_drop]
        exact dpA_app (dpA_app (dpA_take pl hA) (.cons hb4 .nil)) (dpA_drop (pl + 1) hA)
    · rintro σ H' ⟨o, rfl, kp, ks, hp', hrow⟩
      rw [lenA, List.take_length] at hp' hrow
      exact k _ ⟨dx, L, hp', hrow⟩ (Kp.drop (p := L) (kp.mono (by simp)) hL0) ks
theorem scKept : FnScope ["self"] ["self"] (defScope sKeKept) := ⟨rfl, rfl, rfl, by decide +kernel, rfl, by decide +kernel, by decide +kernel⟩
theorem catD {Q : VK} {H : Hp} {a b : Addr} {ds es : List PyData} (ha : TD K H a ds) (hb : TD K H b es) (hz : ds.length + es.length ≤ 300000) (td : tpA ds = true) (te : tpA es = true)
    (q : ∀ (t : Addr) (H' : Hp), Same H H' → TD K H' t (ds ++ es) → Q (.ref t) H') : rCatA K (.ref a) (.ref b) H Q := by
  obtain ⟨us, h1, h2⟩ := ha
  obtain ⟨vs, h3, h4⟩ := hb
  refine catA_of h1 h3 (by rw [dpA_len h2, dpA_len h4]; exact big hz) fun t H1 s1 _ ht => q t H1 s1 ⟨us ++ vs, ht, dpA_app (dpA_tp (Tp.same s1) _ _ td h2) (dpA_tp (Tp.same s1) _ _ te h4)⟩
theorem ok_kept {f : Addr} {fd : FuncData} (F : Fun K "kept" "Keeper.kept" sKeKept f fd) (T : TxK K mg CK CN) (c_Known : CalI P w K mg base CN 1 "Known" ["self", "records"] (spKnI K CN)) : FnOk P w K mg base CX0 3 f fd ["self"] (spKept K CK CN) := by
  refine F.ok scKept (fun vs H Q E h => ?_) (fun cdv A outer s H vs Q E hr h => ?_)
  · obtain ⟨a, k, rfl, _⟩ := h
    rfl
  · obtain ⟨a, ke, rfl, ⟨dx, r, l, w, ha, hr1, hl1, hw⟩, wf, hln, k⟩ := h
    refine ⟨_, (pss_one (ps_ret (pe_calI c_Known (hr.mono (by decide)) rfl (pa_cons (pe_op op_catA (pe_fld (pv 0) rfl) (pe_fld (pv 0) rfl)) pa_nil)))), ?_⟩
    refine ⟨_, rfl, a, CK, dx, _, _, rfl, ha, T.cl, T.nRec, rfl, _, rfl, a, CK, dx, _, _, rfl, ha, T.cl, T.nLoo, rfl, ?_⟩
    rw [List.length_append] at hln
    refine catD hr1 hl1 (by rw [List.length_map, List.length_map]; omega) (tpAR _) (tpAR _) fun t H1 s1 ht => ?_
    intro p dx hp hdx ne
    have s2 : Same H1 (upd (upd H1 dx (.own p)) p (.ins CN dx [])) := fun b o z => by rw [upd_ne (ne_of_none z hp), upd_ne (ne_of_none z hdx)]; exact z
    refine ⟨p, dx, t, ke.rs ++ ke.lo, rfl, upd_same, by rw [List.map_append]; exact ht.ks (Ks.same s2) (by rw [← List.map_append]; exact tpAR _), wf, by rw [List.length_append]; exact hln, fun H2 kn kp tp => ⟨rfl, ?_⟩⟩
    have hp0 : H p = none := by
      cases z : H p with
      | none => rfl
      | some o => rw [s1 _ _ z] at hp; cases hp
    refine k p H2 hp0 (fun b o z => ?_) kn
    have nb : b ≠ p := ne_of_none (s1 _ _ z) hp
    exact kp _ _ (s2 _ _ (s1 _ _ z)) (by simp [nb])
theorem scNote : FnScope ["self", "record"] ["self", "record"] (defScope sKeNote) := ⟨rfl, rfl, rfl, by decide +kernel, rfl, by decide +kernel, by decide +kernel⟩
theorem ok_note {f : Addr} {fd : FuncData} (F : Fun K "note" "Keeper.note" sKeNote f fd) (T : TxK K mg CK CN) : FnOk P w K mg base CX0 1 f fd ["self", "record"] (spNote K CK) := by
  refine F.ok scNote (fun vs H Q E h => ?_) (fun cdv A outer s H vs Q E hr h => ?_)
  · obtain ⟨a, r, k, x, rfl, _⟩ := h
    rfl
  · obtain ⟨a, c, ke, x, rfl, ⟨dx, r, l, w, ha, hrs, hlo, hw⟩, hc, hln, k⟩ := h
    refine ⟨_, (pss_one (ps_fldaug (pv 0) (pe_tup (pa_cons (pv 1) pa_nil)) in_addT)), ?_⟩
    refine ⟨_, rfl, a, CK, dx, _, _, rfl, ha, T.cl, T.nLoo, rfl, _, rfl, (by show 1 ≤ sizeLine; decide), fun u hu => ?_⟩
    have s1 : Same H (upd H u (.tup [.ref c])) := Same.new hu
    refine catD (hlo.ks (Ks.same s1) (tpAR _)) (es := [x.d]) ⟨_, upd_same, .cons (dp_tp (Tp.same s1) _ _ (tp_rec x) hc) .nil⟩ (by rw [List.length_map]; simp; omega) (tpAR _) (tpAR [x]) fun t H1 s2 ht => ?_
    have s3 := Same.tr s1 s2
    refine ⟨dx, _, s3 _ _ ha, (by show 4 < 1000; decide), ?_⟩
    have t1 : ∀ {o}, Ks H1 (upd H1 a o) := fun {o} => Ks.ins (s3 _ _ ha)
    have t2 : ∀ {o}, Ks H (upd H1 a o) := fun {o} => (Ks.same s3).trans t1
    refine k _ ⟨dx, r, t, w, upd_same, hrs.ks t2 (tpAR _), ?_, hw.ks t2 (tpAL _)⟩ ((Kp.same s3).trans (Kp.at (by simp))) t2
    show TD K _ t ((ke.lo ++ [x]).map Rec.d)
    rw [List.map_append]
    exact ht.ks t1 (by rw [show [x.d] = [x].map Rec.d from rfl, ← List.map_append]; exact tpAR _)
theorem scReply : FnScope ["self", "told"] ["self", "told"] (defScope sKeReply) := ⟨rfl, rfl, rfl, by decide +kernel, rfl, by decide +kernel, by decide +kernel⟩
theorem ok_reply {f : Addr} {fd : FuncData} (F : Fun K "reply" "Keeper.reply" sKeReply f fd) (T : TxK K mg CK CN) : FnOk P w K mg base CX0 1 f fd ["self", "told"] (spReply K CK) := by
  refine F.ok scReply (fun vs H Q E h => ?_) (fun cdv A outer s H vs Q E hr h => ?_)
  · obtain ⟨a, r, k, x, rfl, _⟩ := h
    rfl
  · obtain ⟨a, c, ke, x, rfl, ⟨dx, r, l, w, ha, hrs, hlo, hw⟩, hc, hln, k⟩ := h
    refine ⟨_, (pss_one (ps_fldaug (pv 0) (pe_tup (pa_cons (pv 1) pa_nil)) in_addT)), ?_⟩
    refine ⟨_, rfl, a, CK, dx, _, _, rfl, ha, T.cl, T.nWai, rfl, _, rfl, (by show 1 ≤ sizeLine; decide), fun u hu => ?_⟩
    have s1 : Same H (upd H u (.tup [.ref c])) := Same.new hu
    refine catD (hw.ks (Ks.same s1) (tpAL _)) (es := [x.d]) ⟨_, upd_same, .cons (dp_tp (Tp.same s1) _ _ (tp_ltr x) hc) .nil⟩ (by rw [List.length_map]; simp; omega) (tpAL _) (tpAL [x]) fun t H1 s2 ht => ?_
    have s3 := Same.tr s1 s2
    refine ⟨dx, _, s3 _ _ ha, (by show 4 < 1000; decide), ?_⟩
    have t1 : ∀ {o}, Ks H1 (upd H1 a o) := fun {o} => Ks.ins (s3 _ _ ha)
    have t2 : ∀ {o}, Ks H (upd H1 a o) := fun {o} => (Ks.same s3).trans t1
    refine k _ ⟨dx, r, l, t, upd_same, hrs.ks t2 (tpAR _), hlo.ks t2 (tpAR _), ?_⟩ ((Kp.same s3).trans (Kp.at (by simp))) t2
    show TD K _ t ((ke.wa ++ [x]).map Ltr.d)
    rw [List.map_append]
    exact ht.ks t1 (by rw [show [x.d] = [x].map Ltr.d from rfl, ← List.map_append]; exact tpAL _)
theorem scFlush : FnScope ["self", "told"] ["self"] (defScope sKeFlush) := ⟨rfl, rfl, rfl, by decide +kernel, rfl, by decide +kernel, by decide +kernel⟩
/-- the two emptied -/
theorem empt {D : Ends} {σ : L2.St} {H0 H : Hp} {a dx t l w : Addr} {n : Nat} {rs : List Rec} (T : TxK K mg CK CN) (ha : H a = some (.ins CK dx (KeF n t l w))) (ht : TD K H t (rs.map Rec.d)) (k0 : Kp [a] H0 H) (t0 : Ks H0 H)
    (h0 : σ[0]? = some (some (.ref a))) (q : ∀ H', KeAt K CK H' a ⟨n, rs, [], []⟩ → Kp [a] H0 H' → Ks H0 H' → D.nx σ H') :
    tSeq (sFld K (tVar 0) (tTup tNil) "loose") (sFld K (tVar 0) (tTup tNil) "waiting") D σ H := by
  refine ⟨Nat.zero_le _, fun u hu => ?_⟩
  have nau : a ≠ u := ne_of_none ha hu
  have g0 : upd H u (.tup []) a = some (.ins CK dx (KeF n t l w)) := by rw [upd_ne nau]; exact ha
  refine ⟨_, h0, a, CK, dx, _, rfl, g0, T.cl, T.nLoo, (by show 4 < 1000; decide), ?_⟩
  refine ⟨Nat.zero_le _, fun v hv => ?_⟩
  have nav : a ≠ v := ne_of_none upd_same hv
  have nuv : u ≠ v := ne_of_none (o := .tup []) (by rw [upd_ne nau.symm, upd_same]) hv
  have g1 : upd (upd (upd H u (.tup [])) a (.ins CK dx (putF "loose" (.ref u) (KeF n t l w)))) v (.tup []) a = some (.ins CK dx (putF "loose" (.ref u) (KeF n t l w))) := by rw [upd_ne nav]; exact upd_same
  refine ⟨_, h0, a, CK, dx, _, rfl, g1, T.cl, T.nWai, (by show 4 < 1000; decide), ?_⟩
  have tt : Ks H (upd (upd (upd (upd H u (.tup [])) a (.ins CK dx (putF "loose" (.ref u) (KeF n t l w)))) v (.tup [])) a (.ins CK dx (putF "waiting" (.ref v) (putF "loose" (.ref u) (KeF n t l w))))) :=
    (((Ks.new hu).trans (Ks.ins g0)).trans (Ks.new hv)).trans (Ks.ins g1)
  refine q _ ⟨dx, t, u, v, upd_same, ht.ks tt (tpAR _), ⟨[], ?_, .nil⟩, ⟨[], ?_, .nil⟩⟩ (k0.trans fun b o z n => ?_) (t0.trans tt)
  · rw [upd_ne nau.symm, upd_ne nuv, upd_ne nau.symm, upd_same]
  · rw [upd_ne nav.symm, upd_same]
  · have nb : b ≠ a := fun e => n (by simp [e])
    have hv0 : H v = none := by rw [upd_ne nav.symm, upd_ne nuv.symm] at hv; exact hv
    rw [upd_ne nb, upd_ne (ne_of_none z hv0), upd_ne nb, upd_ne (ne_of_none z hu)]; exact z
theorem ok_flush {f : Addr} {fd : FuncData} (F : Fun K "flush" "Keeper.flush" sKeFlush f fd) (T : TxK K mg CK CN) : FnOk P w K mg base CX0 1 f fd ["self"] (spFlush K CK) := by
  refine F.ok scFlush (fun vs H Q E h => ?_) (fun cdv A outer s H vs Q E hr h => ?_)
  · obtain ⟨a, k, rfl, _⟩ := h
    rfl
  · obtain ⟨a, ke, rfl, ⟨dx, r, l, w, ha, hr1, hl1, hw⟩, hln, k⟩ := h
    refine ⟨_, (pss_cons (ps_set (i := 1) scFlush.nd rfl (Or.inl rfl) (pe_fld (pv 0) rfl))
      (pss_cons (ps_fldaug (pv 0) (pe_fld (pv 0) rfl) in_addT)
      (pss_cons (ps_fld (pv 0) (pe_tup pa_nil) rfl)
      (pss_cons (ps_fld (pv 0) (pe_tup pa_nil) rfl)
      (pss_one (ps_ret (pv 1))))))), ?_⟩
    refine ⟨_, rfl, a, CK, dx, _, _, rfl, ha, T.cl, T.nWai, rfl, ?_⟩
    refine ⟨_, rfl, a, CK, dx, _, _, rfl, ha, T.cl, T.nRec, rfl, _, rfl, a, CK, dx, _, _, rfl, ha, T.cl, T.nLoo, rfl, ?_⟩
    rw [List.length_append] at hln
    refine catD hr1 hl1 (by rw [List.length_map, List.length_map]; omega) (tpAR _) (tpAR _) fun t H1 s1 ht => ?_
    refine ⟨dx, _, s1 _ _ ha, (by show 4 < 1000; decide), ?_⟩
    have t2 : ∀ {o}, Ks H1 (upd H1 a o) := fun {o} => Ks.ins (s1 _ _ ha)
    have t3 : ∀ {o}, Ks H (upd H1 a o) := fun {o} => (Ks.same s1).trans t2
    refine empt (CK := CK) (H0 := H) (a := a) (dx := dx) (t := t) (l := l) (w := w) (n := ke.n) (rs := ke.rs ++ ke.lo) T upd_same (by rw [List.map_append]; exact ht.ks t2 (by rw [← List.map_append]; exact tpAR _)) ((Kp.same s1).trans (Kp.at (by simp))) t3 rfl fun H2 k2 kp tp => ?_
    exact ⟨_, rfl, k w H2 k2 (hw.ks tp (tpAL _)) kp tp⟩
end
end Mc.Cn
namespace Mc.Cn
open PySem L2 PySem.Spec PyProof.Rows
/-! is_number of an int or a text; Keeper.take, handle, fall -/
abbrev sIsNum : Stmt := top 5
/-- an int or a text -/
inductive Th where
  | int (n : Int)
  | str (x : PySem.Str)
def Th.v : Th → V | .int n => .int n | .str x => .str x
def Th.within (t : Th) (lo hi : Int) : Bool := match t with | .int n => decide (lo ≤ n) && decide (n ≤ hi) | .str _ => false
def spIsN : Sp := fun vs H Q _ => ∃ (x : Th) (lo hi : Int), vs = [x.v, .int lo, .int hi] ∧ Q (.bl (x.within lo hi)) H
structure TxI (mg : PySem.Str → Option Value) : Prop where
  isi : mg "isinstance" = none
  int : mg "int" = none
  bool : mg "bool" = none
def spTk (K : PySem.W.Frag) (C : Addr) : Sp := fun vs H Q _ => ∃ (a rw_ : Addr) (ke : KeS) (k : Kn) (e : Int) (p : Nat) (x : En) (xv : V), vs = [.ref a, .ref rw_, .int e, .int p, xv] ∧ KeAt K C H a ke ∧ LD K H rw_ (k.row.map pairD) ∧ Dp K H xv x.d ∧ x.ok ∧ (∀ q ∈ k.row, q.2.ok) ∧ ke.lo.length ≤ 100000 ∧ ke.wa.length ≤ 100000 ∧
  ∀ H' : Hp, KeAt K C H' a ⟨ke.n, ke.rs, ke.lo ++ oList (if k.bars e p then none else if k.isNew e p x then some (.take e p x) else none), ke.wa ++ oList (if k.bars e p then none else some (.taken e ke.n p))⟩ → Kp [a] H H' → Ks H H' → Q .non H'
def spHd (K : PySem.W.Frag) (C : Addr) : Sp := fun vs H Q _ => ∃ (a : Addr) (lv : V) (B many i : Nat) (k : KeS) (l : Ltr), vs = [.ref a, lv] ∧ KeAt K C H a k ∧ Dp K H lv l.d ∧ l.isAns = false ∧ KOk B many i k ∧ l.in_ B ∧ B ≤ 90000 ∧
  ∀ H' : Hp, KeAt K C H' a (k.handle l) → Kp [a] H H' → Ks H H' → Q .non H'
def spFall (K : PySem.W.Frag) (C CB : Addr) : Sp := fun vs H Q E => ∃ (a : Addr) (k : KeS) (x : Th), vs = [.ref a, x.v] ∧ KeAt K C H a k ∧ (k.rs ++ k.lo).length ≤ 100000 ∧
  ((∃ n : Nat, x = .int n ∧ n ≤ k.lo.length ∧ ∀ H' : Hp, KeAt K C H' a (k.fall n) → Kp [a] H H' → Ks H H' → Q .non H') ∨
    (x.within 0 k.lo.length = false ∧ ∀ d H', Same H H' → H' d = some (.xd [("name", x.v)]) → E (.ref CB) (some d) H'))
structure TxB (K : PySem.W.Frag) (mg : PySem.Str → Option Value) (CB : Addr) : Prop where
  T : OexB K CB
  mg : mg "BadName" = some (.ref CB)
def CalB (P : Program) (w : World) (K : PySem.W.Frag) (mg : PySem.Str → Option Value) (base : Heap) (CB : Addr) (f : PySem.Str) : Prop :=
  ∃ (fI : Addr) (fd : FuncData), PySem.W.findIn K (.ref CB) "__init__" = some (some (.ref fI)) ∧ PySem.W.isFn K (.ref fI) = true ∧ Binds K fd ["self", f] [] ∧ FnOk P w K mg base CX0 1 fI fd ["self", f] (spBadI CB f)
section
variable {P : Program} {w : World} {K : PySem.W.Frag} {mg : PySem.Str → Option Value} {base : Heap} {CK CN CB : Addr}
theorem scIsN : FnScope ["thing", "low", "high"] ["thing", "low", "high"] (defScope sIsNum) := ⟨rfl, rfl, rfl, by decide +kernel, rfl, by decide +kernel, by decide +kernel⟩
theorem ok_isn {f : Addr} {fd : FuncData} (F : Fun K "is_number" "is_number" sIsNum f fd) (T : TxI mg) : FnOk P w K mg base CX0 1 f fd ["thing", "low", "high"] spIsN := by
  refine F.ok scIsN (fun vs H Q E h => ?_) (fun cdv A outer s H vs Q E hr h => ?_)
  · obtain ⟨x, lo, hi, rfl, _⟩ := h
    rfl
  · obtain ⟨x, lo, hi, rfl, q⟩ := h
    refine ⟨_, (pss_one (ps_ret (pe_and (pe_callB call_isi (by rfl) T.isi boot_isinstance (pa_cons (pv 0) (pa_cons (pe_bltn (v := .ty "int") (by rfl) T.int boot_int rfl) pa_nil))) (pe_and (pe_not (pe_callB call_isi (by rfl) T.isi boot_isinstance (pa_cons (pv 0) (pa_cons (pe_bltn (v := .ty "bool") (by rfl) T.bool (by rfl) rfl) pa_nil)))) (pe_one (pe_chain op_le op_le (pv 1) (pv 0) (pv 2))))))), ?_⟩
    cases x with
    | int n =>
      refine ⟨_, rfl, _, _, _, _, _, rfl, .ty "int", .base (.int _), by rfl, true, rfl, _, rfl, _, _, _, _, _, rfl, .ty "bool", .base (.int _), by rfl, false, rfl, true, rfl, ?_⟩
      refine ⟨_, rfl, _, rfl, _, _, rfl, rfl, _, rfl, ?_⟩
      have q : Q (.bl (decide (lo ≤ n) && decide (n ≤ hi))) H := q
      refine ite2 (fun h => ?_) (fun h => ?_)
      · refine ⟨_, rfl, _, _, rfl, rfl, ?_⟩
        rw [decide_eq_true (of_decide_eq_true h)] at q
        exact q
      · rw [Bool.eq_false_iff.mpr h] at q
        exact q
    | str z => exact ⟨_, rfl, _, _, _, _, _, rfl, .ty "int", .base (.str _), by rfl, false, rfl, q⟩
theorem scTk : FnScope ["self", "row", "epoch", "place", "entry"] ["self", "row", "epoch", "place", "entry"] (defScope sKeTake) := ⟨rfl, rfl, rfl, by decide +kernel, rfl, by decide +kernel, by decide +kernel⟩
theorem tIfS_of {tt : L2.TT} {ta tb : TS} {D : Ends} {σ : L2.St} {H : Hp} {b : Bool} (h : ∀ Kk : Bool → Hp → Prop, (∀ H', Same H H' → Kk b H') → tt σ H Kk) (q : ∀ H', Same H H' → if b = true then ta D σ H' else tb D σ H') : tIfS tt ta tb D σ H := h _ q
theorem ok_tk {f : Addr} {fd : FuncData} (F : Fun K "take" "Keeper.take" sKeTake f fd) (T : TxK K mg CK CN) (c_Keeper_note : CalM P w K mg base CK 1 "note" ["self", "record"] (spNote K CK)) (c_Keeper_reply : CalM P w K mg base CK 1 "reply" ["self", "told"] (spReply K CK)) :
    FnOk P w K mg base CX0 2 f fd ["self", "row", "epoch", "place", "entry"] (spTk K CK) := by
  refine F.ok scTk (fun vs H Q E h => ?_) (fun cdv A outer s H vs Q E hr h => ?_)
  · obtain ⟨a, rw_, ke, k, e, p, x, xv, rfl, _⟩ := h
    rfl
  · obtain ⟨a, rw_, ke, kn, e, p, x, xv, rfl, KA, ⟨us, hr1, pr⟩, hx, xok, rok, hlo, hwa, k⟩ := h
    refine ⟨_, (pss_cons (ps_if (PW.pt (pw_or (pt_cmpR op_gt (pv 3) (pe_callB call_len_seq (by rfl) T.len PySem.boot_len (pa_cons (pv 1) pa_nil)) (nomark _)) (pw_or1 (PW.pt (pw_and (pt_cmpR op_gt (pv 3) pe_int (nomark _)) (pw_and1 (pt_cmpR op_ne (pe_ix ix_tup (pe_ix ix_list (pv 1) (pe_op op_sub (pv 3) pe_int) (fun _ _ => rfl)) pe_int (fun _ _ => rfl)) (pv 2) (nomark _))))))))
        (pss_one ps_retN)
        pss_nil)
      (Evl.pss_cut (ps_if (PW.pt (pw_or (pt_cmpR op_eq (pv 3) (pe_callB call_len_seq (by rfl) T.len PySem.boot_len (pa_cons (pv 1) pa_nil)) (nomark _)) (pw_or1 (pt_cmpR (op_neD hr.units) (pe_ix ix_list (pv 1) (pv 3) (fun _ _ => rfl)) (pe_tup (pa_cons (pv 2) (pa_cons (pv 4) pa_nil))) (nomark _)))))
        (pss_one (ps_expr (pe_calM (pv 0) T.cl c_Keeper_note (hr.mono (by decide)) (pa_cons (pe_tup (pa_cons pe_str (pa_cons (pv 2) (pa_cons (pv 3) (pa_cons (pv 4) pa_nil))))) pa_nil))))
        pss_nil)
      (pss_one (ps_expr (pe_calM (pv 0) T.cl c_Keeper_reply (hr.mono (by decide)) (pa_cons (pe_tup (pa_cons pe_str (pa_cons (pv 2) (pa_cons (pe_fld (pv 0) rfl) (pa_cons (pv 3) pa_nil))))) pa_nil)))))), ?_⟩
    have lenR : us.length = kn.row.length := by rw [dpA_len pr, List.length_map]
    have s0 : Same H H := fun _ _ z => z
    have ix : ∀ {n : Nat} {q : Int × En}, kn.row[n]? = some q → ∃ v, us[n]? = some v ∧ Dp K H v (pairD q) := fun {n q} hq => dpA_at' pr (by rw [List.getElem?_map, hq]; rfl)
    refine tIfS_of (b := kn.bars e p) (fun Kk kk => ?_) fun H0 s0 => ?_
    · refine ⟨_, rfl, _, rfl, rw_, _, rfl, .inl (SqL.of hr1), _, _, rfl, rfl, _, rfl, ?_⟩
      rw [lenR]
      unfold Kn.bars at kk
      refine ite2 (fun h => ?_) (fun h => ?_)
      · have h : (kn.row.length : Int) < (p : Int) := of_decide_eq_true h
        rw [decide_eq_true (by omega : kn.row.length < p)] at kk
        exact kk H s0
      · have h : ¬ (kn.row.length : Int) < (p : Int) := fun z => h (decide_eq_true z)
        rw [decide_eq_false (by omega : ¬ kn.row.length < p)] at kk
        refine ⟨_, rfl, _, _, rfl, rfl, _, rfl, ?_⟩
        refine ite2 (fun h2 => ?_) (fun h2 => ?_)
        · have h2 : (0 : Int) < (p : Int) := of_decide_eq_true h2
          rw [decide_eq_true (by omega : 0 < p)] at kk
          have hp1 : p - 1 < kn.row.length := by omega
          obtain ⟨b, hb, pb⟩ := ix (List.getElem?_eq_getElem hp1)
          obtain ⟨c, y, rfl, sq, _⟩ := dp_pair pb
          refine ⟨_, rfl, _, rfl, _, _, rfl, rfl, rw_, _, _, _, rfl, rfl, SqL.of hr1, atN (j := p - 1) (by omega) hb, c, _, 0, .int (kn.row[p - 1]).1, rfl, rfl, sq, rfl, _, rfl, ?_⟩
          have eb : (kn.row[p - 1]?.map (·.1)) = some (kn.row[p - 1]).1 := by rw [List.getElem?_eq_getElem hp1]; rfl
          rw [eb] at kk
          have ec : (!decide (V.int (kn.row[p - 1]).1 = V.int e)) = (!decide (some (kn.row[p - 1]).1 = some e)) := by
            congr 1
            exact decide_eq_decide.mpr ⟨fun z => by cases z; rfl, fun z => by cases z; rfl⟩
          refine ⟨rfl, _, rfl, ?_⟩
          first | exact kk H s0 | (rw [ec]; exact kk H s0)
        · have h2 : ¬ (0 : Int) < (p : Int) := fun z => h2 (decide_eq_true z)
          rw [decide_eq_false (by omega : ¬ 0 < p)] at kk
          exact kk H s0
    · have out : kn.bars e p = true → Q .non H0 := fun hb => k H0 (by rw [if_pos hb, if_pos hb]; show KeAt K CK H0 a ⟨ke.n, ke.rs, ke.lo ++ [], ke.wa ++ []⟩; rw [List.append_nil, List.append_nil]; exact KA.same s0) (Kp.same s0) (Ks.same s0)
      refine ite2 (fun hb => out hb) (fun hb => ?_)
      have hb : kn.bars e p = false := by simpa using hb
      rw [hb] at k
      have KA0 := KA.same s0
      have hr0 := s0 _ _ hr1
      have hpl : p ≤ kn.row.length := by
        unfold Kn.bars at hb
        simp only [Bool.or_eq_false_iff, decide_eq_false_iff_not] at hb
        omega
      refine ⟨fun σ' H' => σ' = [some (.ref a), some (.ref rw_), some (.int e), some (.int p), some xv] ∧ KeAt K CK H' a ⟨ke.n, ke.rs, ke.lo ++ oList (if kn.isNew e p x then some (.take e p x) else none), ke.wa⟩ ∧ Kp [a] H H' ∧ Ks H H', ?_, ?_⟩
      · refine tIfS_of (b := kn.isNew e p x) (fun Kk kk => ?_) fun H1 s1 => ?_
        · refine ⟨_, rfl, _, rfl, rw_, _, rfl, .inl (SqL.of hr0), rfl, _, rfl, ?_⟩
          rw [lenR]
          unfold Kn.isNew at kk
          refine ite2 (fun h => ?_) (fun h => ?_)
          · have h : V.int (p : Int) = V.int (kn.row.length : Int) := of_decide_eq_true h
            have h := V.int.inj h
            rw [decide_eq_true (by omega : p = kn.row.length)] at kk
            exact kk H0 (fun _ _ z => z)
          · have h : ¬ V.int (p : Int) = V.int (kn.row.length : Int) := fun z => h (decide_eq_true z)
            have np : ¬ p = kn.row.length := fun z => h (by rw [z])
            rw [decide_eq_false np] at kk
            have hp1 : p < kn.row.length := by omega
            obtain ⟨b, hb, pb⟩ := ix (List.getElem?_eq_getElem hp1)
            refine ⟨_, rfl, _, rfl, rw_, _, _, _, rfl, rfl, SqL.of hr0, atN (j := p) rfl hb, _, rfl, _, rfl, (by show 2 ≤ sizeLine; decide), fun u hu => ?_⟩
            have s2 : Same H0 (upd H0 u (.tup [.int e, xv])) := Same.new hu
            have d1 := dp_tp (Tp.same (Same.tr s0 s2)) _ _ (tp_pair _) pb
            have d2 : Dp K (upd H0 u (.tup [.int e, xv])) (.ref u) (pairD (e, x)) := dp_mkPair (SqT.of upd_same) (dp_tp (Tp.same (Same.tr s0 s2)) _ _ (tp_en x) hx)
            have sdP : ∀ q : Int × En, q.2.ok → sdD (pairD q) = true := fun q hq => by show sdA [.int q.1, q.2.d] = true; unfold sdA; rw [show sdA [q.2.d] = (sdD q.2.d && sdA []) from by unfold sdA; rfl, En.sd hq]; rfl
            have dpP : ∀ q : Int × En, (pairD q).depth ≤ 64 := fun q => by
              have := En.dep q.2
              show PyData.depth (.tuple _) ≤ 64
              rw [PyData.depth]
              show max (PyData.depth (.int q.1)) (max (PyData.depth q.2.d) (PyData.depthAll [])) + 1 ≤ 64
              have e0 : PyData.depth (.int q.1) = 0 := by rw [PyData.depth]
              have e1 : PyData.depthAll [] = 0 := rfl
              rw [e0, e1]
              omega
            have hm : kn.row[p] ∈ kn.row := List.getElem_mem hp1
            rw [List.getElem?_eq_getElem hp1] at kk
            refine rv_neDD d1 d2 (sdP _ (rok _ hm)) (sdP (e, x) xok) (dpP _) (dpP _) (b := decide (some kn.row[p] = some (e, x))) ?_ _ (Evl.Ex.refl _) _ fun H2 x2 => ⟨_, rfl, kk _ (Same.tr s2 x2)⟩
            rw [decide_eq_true_eq, pairD_inj]
            exact ⟨fun z => Option.some.inj z, fun z => by rw [z]⟩
        · have KA1 := KA0.same s1
          have s01 := Same.tr s0 s1
          refine ite2 (fun hn => ?_) (fun hn => ?_)
          · obtain ⟨dx, r, l, w, ha, h1, h2, h3⟩ := id KA1
            refine ⟨_, rfl, a, dx, _, rfl, ha, rfl, _, rfl, _, rfl, _, rfl, (by show 4 ≤ sizeLine; decide), fun u hu => ?_⟩
            have s2 := Same.tr s01 (Same.new (o := .tup [.str "take", .int e, .int p, xv]) hu)
            refine ⟨a, u, ke, .take e p x, rfl, KA1.same (Same.new hu), .tup (SqT.of upd_same) (.cons (.str _) (.cons (.int _) (.cons (.int _) (.cons (dp_tp (Tp.same s2) _ _ (tp_en x) hx) .nil)))), hlo, fun H2 K2 k2 t2 => ⟨rfl, ?_, (Kp.same s2).trans k2, (Ks.same s2).trans t2⟩⟩
            rw [if_pos hn]
            exact K2
          · refine ⟨rfl, ?_, Kp.same s01, Ks.same s01⟩
            rw [if_neg hn]
            show KeAt K CK H1 a ⟨ke.n, ke.rs, ke.lo ++ [], ke.wa⟩
            rw [List.append_nil]
            exact KA1
      · rintro σ' H2 ⟨rfl, K2, k2, t2⟩
        obtain ⟨dx, r, l, w, ha, h1, h2, h3⟩ := id K2
        refine ⟨_, rfl, a, dx, _, rfl, ha, rfl, _, rfl, _, rfl, a, CK, dx, _, _, rfl, ha, T.cl, T.nNum, rfl, _, rfl, (by show 4 ≤ sizeLine; decide), fun u hu => ?_⟩
        refine ⟨a, u, _, .taken e ke.n p, rfl, K2.same (Same.new hu), .tup (SqT.of upd_same) (.cons (.str _) (.cons (.int _) (.cons (.int _) (.cons (.int _) .nil)))), hwa, fun H3 K3 k3 t3 => k H3 K3 ((k2.trans (Kp.same (Same.new hu))).trans k3) ((t2.trans (Ks.same (Same.new hu))).trans t3)⟩
theorem scHd : FnScope ["self", "letter", "word", "epoch", "known"] ["self", "letter"] (defScope sKeHandle) := ⟨rfl, rfl, rfl, by decide +kernel, rfl, by decide +kernel, by decide +kernel⟩
/-- a letter to a keeper, laid out -/
theorem dp_toK {H : Hp} {v : V} {l : Ltr} (h : Dp K H v l.d) (hl : l.isAns = false) : ∃ c xs, v = .ref c ∧ SqT K H c xs ∧ xs[0]? = some (.str (match l with | .ask .. => "ask" | _ => "write")) ∧ xs[1]? = some (.int l.ep) ∧ xs[2]? = some (.int l.num) ∧
    (∀ e n p x, l = .write e n p x → ∃ xv, xs[3]? = some (.int p) ∧ xs[4]? = some xv ∧ Dp K H xv x.d) := by
  cases l with
  | ask e n =>
    obtain ⟨c, rfl, sq⟩ := dp_three h
    exact ⟨c, _, rfl, sq, rfl, rfl, rfl, fun _ _ _ _ z => by cases z⟩
  | write e n p x =>
    obtain ⟨c, y, rfl, sq, dy⟩ := dp_five h
    exact ⟨c, _, rfl, sq, rfl, rfl, rfl, fun _ _ _ _ z => by cases z; exact ⟨y, rfl, rfl, dy⟩⟩
  | _ => cases hl
theorem ok_hd {f : Addr} {fd : FuncData} (F : Fun K "handle" "Keeper.handle" sKeHandle f fd) (T : TxK K mg CK CN) (c_Keeper_kept : CalM P w K mg base CK 3 "kept" ["self"] (spKept K CK CN))
    (c_Keeper_note : CalM P w K mg base CK 1 "note" ["self", "record"] (spNote K CK)) (c_Keeper_reply : CalM P w K mg base CK 1 "reply" ["self", "told"] (spReply K CK)) (c_Keeper_take : CalM P w K mg base CK 2 "take" ["self", "row", "epoch", "place", "entry"] (spTk K CK)) :
    FnOk P w K mg base CX0 4 f fd ["self", "letter"] (spHd K CK) := by
  refine F.ok scHd (fun vs H Q E h => ?_) (fun cdv A outer s H vs Q E hr h => ?_)
  · obtain ⟨a, lv, B, many, i, k, l, rfl, _⟩ := h
    rfl
  · obtain ⟨a, lv, B, many, i, ke, l, rfl, KA, hlv, hans, ok, lin, hB, k⟩ := h
    refine ⟨_, (pss_cons (ps_par (i := 2) (j := 3) rfl scHd.nd rfl rfl (by decide) rfl rfl (pa_cons (pe_ix ix_tup (pv 1) pe_int (fun _ _ => rfl)) (pa_cons (pe_ix ix_tup (pv 1) pe_int (fun _ _ => rfl)) pa_nil)) (by rfl))
      (pss_cons (ps_set (i := 4) scHd.nd rfl (Or.inl rfl) (pe_calM0 (pv 0) T.cl c_Keeper_kept (hr.mono (by decide))))
      (pss_one (ps_if (pt_cmpR op_lt (pv 3) (pe_fld (pv 4) rfl) (nomark _))
        (pss_one (ps_expr (pe_calM (pv 0) T.cl c_Keeper_reply (hr.mono (by decide)) (pa_cons (pe_tup (pa_cons pe_str (pa_cons (pv 3) (pa_cons (pe_fld (pv 0) rfl) (pa_cons (pe_fld (pv 4) rfl) pa_nil))))) pa_nil))))
        (pss_one (ps_if (pt_cmpR op_eq (pv 2) pe_str (nomark _))
          (Evl.pss_cut (ps_if (pt_cmpR op_gt (pv 3) (pe_fld (pv 4) rfl) (nomark _))
            (pss_one (ps_expr (pe_calM (pv 0) T.cl c_Keeper_note (hr.mono (by decide)) (pa_cons (pe_tup (pa_cons pe_str (pa_cons (pv 3) pa_nil))) pa_nil))))
            pss_nil)
          (pss_one (ps_expr (pe_calM (pv 0) T.cl c_Keeper_reply (hr.mono (by decide)) (pa_cons (pe_tup (pa_cons pe_str (pa_cons (pv 3) (pa_cons (pe_fld (pv 0) rfl) (pa_cons (pe_tupleOf (by rfl) T.tuple (pe_fld (pv 4) rfl)) pa_nil))))) pa_nil)))))
          (pss_one (ps_expr (pe_calM (pv 0) T.cl c_Keeper_take (hr.mono (by decide)) (pa_cons (pe_fld (pv 4) rfl) (pa_cons (pv 3) (pa_cons (pe_ix ix_tup (pv 1) pe_int (fun _ _ => rfl)) (pa_cons (pe_ix ix_tup (pv 1) pe_int (fun _ _ => rfl)) pa_nil))))))))))))), ?_⟩
    obtain ⟨la, xs, rfl, sq, l0, l1, l2, l34⟩ := dp_toK hlv hans
    obtain ⟨dx, r, lo', w', ha, e1, e2, e3⟩ := id KA
    refine ⟨_, rfl, la, _, 0, _, rfl, rfl, sq, atN (j := 0) rfl l0, _, rfl, la, _, 1, _, rfl, rfl, sq, atN (j := 1) rfl l1, _, _, rfl, ?_⟩
    refine ⟨_, rfl, a, dx, _, rfl, ha, rfl, a, ke, rfl, KA, ok.wf, by have := ok.len; omega, fun kn H1 hkn s1 KN => ?_⟩
    have KA1 := KA.same s1
    have hrow := ok.row
    have hlwa := ok.lwa
    have hln := ok.len
    have ek : k = k := rfl
    have goal : ∀ H' : Hp, KeAt K CK H' a ⟨ke.n, ke.rs, ke.lo ++ oList (ke.kn.recOf l), ke.wa ++ oList (ke.kn.ansOf ke.n l)⟩ → Kp [a] H H' → Ks H H' → Q .non H' := k
    clear k ek
    generalize ke.kn = kd at KN goal hrow
    rw [List.length_append] at hln
    obtain ⟨dn, ln, hn, us, hrowL, pr⟩ := id KN
    obtain ⟨dx1, r1, lo1, w1, ha1, _, _, _⟩ := id KA1
    refine ⟨_, rfl, _, rfl, kn, CN, dn, _, _, rfl, hn, T.clN, T.nEp, rfl, _, _, rfl, rfl, _, rfl, ?_⟩
    refine ite2 (fun h => ?_) (fun h => ?_)
    · have h : l.ep < kd.ep := of_decide_eq_true h
      have er : kd.recOf l = none := by cases l <;> first | exact if_pos h | rfl
      have ea : kd.ansOf ke.n l = some (.refused l.ep ke.n kd.ep) := by cases l <;> first | exact if_pos h | cases hans
      rw [er, ea] at goal
      refine ⟨_, rfl, a, dx1, _, rfl, ha1, rfl, _, rfl, _, rfl, a, CK, dx1, _, _, rfl, ha1, T.cl, T.nNum, rfl, _, rfl, kn, CN, dn, _, _, rfl, hn, T.clN, T.nEp, rfl, (by show 4 ≤ sizeLine; decide), fun u hu => ?_⟩
      refine ⟨a, u, ke, .refused l.ep ke.n kd.ep, rfl, KA1.same (Same.new hu), .tup (SqT.of upd_same) (.cons (.str _) (.cons (.int _) (.cons (.int _) (.cons (.int _) .nil)))), by omega, fun H2 K2 k2 t2 => goal H2 ?_ ((Kp.same (Same.tr s1 (Same.new hu))).trans k2) ((Ks.same (Same.tr s1 (Same.new hu))).trans t2)⟩
      show KeAt K CK H2 a ⟨ke.n, ke.rs, ke.lo ++ [], _⟩
      rw [List.append_nil]
      exact K2
    have h : ¬ l.ep < kd.ep := fun z => h (decide_eq_true z)
    cases l with
    | ask e n =>
      refine ⟨_, rfl, rfl, _, rfl, ?_⟩
      refine ite2 (fun _ => ?_) (fun h => absurd (decide_eq_true rfl) h)
      have h : ¬ e < kd.ep := h
      have er : kd.recOf (.ask e n) = if e > kd.ep then some (.prom e) else none := if_neg h
      have ea : kd.ansOf ke.n (.ask e n) = some (.told e ke.n kd.row) := if_neg h
      rw [er, ea] at goal
      refine ⟨fun σ' H' => σ' = [some (.ref a), some (.ref la), some (.str "ask"), some (.int e), some (.ref kn)] ∧ KeAt K CK H' a ⟨ke.n, ke.rs, ke.lo ++ oList (if e > kd.ep then some (.prom e) else none), ke.wa⟩ ∧ Kp [a] H H' ∧ Ks H H' ∧ H' kn = some (.ins CN dn [("epoch", .int kd.ep), ("row", .ref ln)]) ∧ LD K H' ln (kd.row.map pairD), ?_, ?_⟩
      · refine ⟨_, rfl, _, rfl, kn, CN, dn, _, _, rfl, hn, T.clN, T.nEp, rfl, _, _, rfl, rfl, _, rfl, ?_⟩
        refine ite2 (fun h2 => ?_) (fun h2 => ?_)
        · have h2 : kd.ep < e := of_decide_eq_true h2
          refine ⟨_, rfl, a, dx1, _, rfl, ha1, rfl, _, rfl, (by show 2 ≤ sizeLine; decide), fun u hu => ?_⟩
          have s2 := Same.tr s1 (Same.new (o := .tup [.str "promise", .int e]) hu)
          have nka : kn ≠ a := (ne_of_none ha hkn).symm
          refine ⟨a, u, ke, .prom e, rfl, KA1.same (Same.new hu), .tup (SqT.of upd_same) (.cons (.str _) (.cons (.int _) .nil)), by omega, fun H2 K2 k2 t2 => ⟨rfl, ?_, (Kp.same s2).trans k2, (Ks.same s2).trans t2, ?_, ?_⟩⟩
          · rw [if_pos h2]; exact K2
          · exact k2 _ _ (Same.new hu _ _ hn) (by simp [nka])
          · refine ⟨us, k2 _ _ (Same.new hu _ _ hrowL) (by simp; exact ne_of hrowL ha1 (by intro z; cases z)), dpA_tp ((Tp.same (Same.new hu)).trans t2.tp) _ _ (tpAP _) pr⟩
        · have h2 : ¬ e > kd.ep := fun z => h2 (decide_eq_true z)
          refine ⟨rfl, ?_, Kp.same s1, Ks.same s1, hn, us, hrowL, pr⟩
          rw [if_neg h2]
          show KeAt K CK H1 a ⟨ke.n, ke.rs, ke.lo ++ [], ke.wa⟩
          rw [List.append_nil]
          exact KA1
      · rintro σ' H2 ⟨rfl, K2, k2, t2, hn2, us2, hrow2, pr2⟩
        obtain ⟨dx2, r2, lo2, w2, ha2, _, _, _⟩ := id K2
        refine ⟨_, rfl, a, dx2, _, rfl, ha2, rfl, _, rfl, _, rfl, a, CK, dx2, _, _, rfl, ha2, T.cl, T.nNum, rfl, _, rfl, kn, CN, dn, _, _, rfl, hn2, T.clN, T.nRow, rfl, .inl ⟨ln, _, rfl, SqL.of hrow2, fun q hq => ?_⟩⟩
        refine ⟨(by show 4 ≤ sizeLine; decide), fun u hu => ?_⟩
        have nqu : q ≠ u := ne_of_none upd_same hu
        have s3 : Same H2 (upd (upd H2 q (.tup us2)) u (.tup [.str "told", .int e, .int ke.n, .ref q])) := Same.tr (Same.new hq) (Same.new hu)
        have hq3 : upd (upd H2 q (.tup us2)) u (.tup [.str "told", .int e, .int ke.n, .ref q]) q = some (.tup us2) := by rw [upd_ne nqu, upd_same]
        refine ⟨a, u, _, .told e ke.n kd.row, rfl, K2.same s3, .tup (SqT.of upd_same) (.cons (.str _) (.cons (.int _) (.cons (.int _) (.cons (.tup (SqT.of hq3) (dpA_tp (Tp.same s3) _ _ (tpAP _) pr2)) .nil)))), by show ke.wa.length ≤ 100000; omega, fun H3 K3 k3 t3 => goal H3 K3 ((k2.trans (Kp.same s3)).trans k3) ((t2.trans (Ks.same s3)).trans t3)⟩
    | write e n p x =>
      refine ⟨_, rfl, rfl, _, rfl, ?_⟩
      refine ite2 (fun h => absurd (of_decide_eq_true h) (by show ¬ (V.str "write" = V.str "ask"); decide)) (fun _ => ?_)
      have h : ¬ e < kd.ep := h
      have er : kd.recOf (.write e n p x) = if kd.bars e p then none else if kd.isNew e p x then some (.take e p x) else none := if_neg h
      have ea : kd.ansOf ke.n (.write e n p x) = if kd.bars e p then none else some (.taken e ke.n p) := if_neg h
      rw [er, ea] at goal
      obtain ⟨xv, l3, l4, dxv⟩ := l34 e n p x rfl
      have sq1 := sqt_ks sq (Ks.same s1)
      refine ⟨_, rfl, a, dx1, _, rfl, ha1, rfl, _, rfl, kn, CN, dn, _, _, rfl, hn, T.clN, T.nRow, rfl, _, rfl, _, rfl, la, _, 3, _, rfl, rfl, sq1, atN (j := 3) rfl l3, _, rfl, la, _, 4, _, rfl, rfl, sq1, atN (j := 4) rfl l4, ?_⟩
      exact ⟨a, ln, ke, kd, e, p, x, xv, rfl, KA1, ⟨us, hrowL, pr⟩, dp_tp (Tp.same s1) _ _ (tp_en x) dxv, lin, hrow.2, by omega, by omega, fun H2 K2 k2 t2 => goal H2 K2 ((Kp.same s1).trans k2) ((Ks.same s1).trans t2)⟩
    | _ => cases hans
end
end Mc.Cn
namespace Mc
open PySem L2 PySem.Spec PyProof.Rows Evl
/-! ### list(d.values()) -/
def tListVals (te : TE) : TE := fun σ H Q => te σ H fun x H1 => ∃ (d : Addr) (kvs : List (L2.Key × V)), x = .ref d ∧ Rd H1 d (.dK kvs) ∧ ∀ p, H1 p = none → Q (.ref p) (upd H1 p (.lst (kvs.map Prod.snd)))
theorem vals_of_kv {kvs : List (L2.Key × V)} {vs : List (L2.Key × Value)} (r : KV kvs vs) : Vals (kvs.map Prod.snd) (vs.map Prod.snd) := by
  induction r with
  | nil => exact .nil
  | cons h _ ih => exact .cons h.2 ih
theorem items_snd {vs : List (L2.Key × Value)} {acc : Array Value} (h : ItemsOf (fun i v => ∃ k, vs[i]? = some (k, v)) acc vs.length) : acc.toList = vs.map Prod.snd := by
  refine List.ext_getElem? fun i => ?_
  rw [List.getElem?_map]
  by_cases hi : i < vs.length
  · have ha : i < acc.size := by rw [h.1]; exact hi
    have e : acc[i]? = some acc[i] := Array.getElem?_eq_getElem ha
    obtain ⟨k, hk⟩ := h.2 i _ e
    rw [hk, Array.getElem?_toList, e]
    rfl
  · rw [List.getElem?_eq_none (l := acc.toList) (by rw [Array.length_toList, h.1]; omega), List.getElem?_eq_none (l := vs) (by omega)]
    rfl
section
variable {X : Cx} {e : Expr} {te : TE} {p apos cpos pos : Pos}
theorem pe_listVals (hc : X.calm = true) (he : PE X e te) (hg : Gl X "list") (hm : X.mg "list" = none) (hbase : attributeBase e "values" X.env (eval e X.env) = eval e X.env := by rfl) (hline : (apos.endLine == cpos.line) = true := by rfl)
    (hs : starEach [.Call (.Attribute e "values" apos) [] [] cpos] X.env = (false, eval (.Call (.Attribute e "values" apos) [] [] cpos) X.env) :: starEach [] X.env := by rfl) :
    PE X (.Call (.Name "list" p) [.Call (.Attribute e "values" apos) [] [] cpos] [] pos) (tListVals te) := ⟨fun pins s σ H Q I hq => by
  refine wpAny_Call_Name_kw (ld_blt I hg hm boot_list (PyProof.Rows.callWith_type1 ?_ hs rfl))
  rw [hs]
  change wpAny _ _ (spliced ((false, eval (.Call (.Attribute e "values" apos) [] [] cpos) X.env) :: backTo pos (starEach [] X.env))) _ _ s
  refine Calls.spliced_cons (wpAny_Call_method (T := "dict") (id := "dict.values") hbase rfl hline F.plainAttrs_dict F.slot_dict_values F.type_dict_values (thn (he.run pins s σ H _ I hq) fun u s1 hv => ?_))
  obtain ⟨x, H1, I1, rx, d, kvs, rfl, hd, q⟩ := hv
  obtain rfl : u = Value.ref d := rx
  obtain ⟨z, lo, vs, rel, dd⟩ := dk_rd I1.hok hd
  obtain ⟨ep, hat⟩ := dd.dictAt
  have I2 : Inv X pins σ H1 { s1 with heap := s1.heap.push { cls := .type "dict_values", data := .fields #[.ref d] } } := I1.kept (t' := s1.toks) fun b ob w => Heap.get?_push_of_some _ w
  refine ⟨dd.typeIs, dd.mapOf.noDict, ?_⟩
  change wpAny _ _ (callWith cpos (.builtin "dict.values") [.ref d] [] []) _ X.xe s1
  refine method_meetsIn F.slot_dict_values F.entry_dict_values rfl (PySem.evalArgs_none ⟨rfl, dd.typeIs, F.args_dict_values_1 _, _, meets_dict_values (mixKind X.prog X.w) d lo, ⟨vs, dd⟩, ?_⟩)
  refine Calls.spliced_nil ?_
  refine PySem.W.kdl_call (PySem.W.kdl_values (knd := mixKind X.prog X.w) (kvs := vs) (ep := ep)) (I1.ok.hd hc) ⟨⟨_, Heap.get?_push_size _ rfl, rfl, rfl⟩, hat.push _⟩ (by rw [← rel.length]; exact z) fun h' tk acc c' hk hD hacc => ?_
  refine ⟨.ref _, upd H1 _ (.lst (kvs.map Prod.snd)), I2.laid (t' := tk) hk (Nat.le_refl _) ⟨by rw [List.length_map]; exact z, acc.toList, c', by rw [items_snd hacc]; exact vals_of_kv rel, by rw [Array.toArray_toList]; exact hD⟩, rfl, q _ (I2.hok.fresh (Nat.le_refl _))⟩⟩
end
section
variable {σ : L2.St} {H : Hp} {te : TE} {d : Addr} {kvs : List (L2.Key × V)}
theorem el_vals (h : Ev te σ H (.ref d)) (hd : Rd H d (.dK kvs)) : EvL (tListVals te) σ H (kvs.map Prod.snd) := fun H1 e Q q =>
  h H1 e _ fun H2 e2 => ⟨d, kvs, rfl, ex_rd (e.trans e2) hd, fun p hp => q p _ (fresh_back e2 hp) (e2.trans (Ex.new hp)) upd_same⟩
end
end Mc
namespace Mc
open PySem L2 PySem.Spec PyProof.Rows Evl
/-! comprehensions over any source; items that are new objects, told by a relation -/
section
variable {α : Type} {c : α → V} {ys : List α} {J : It} {n : Nat} {G : Hp → Prop} {te : TE} {vs : List Nat} {σ : L2.St} {H1 : Hp} {D : Addr} {Qd : Hp → Prop} {j : Nat} {tt : TT}
theorem prd_imp {α β : Type} {F G : α → β → Prop} (hFG : ∀ a b, F a b → G a b) : ∀ {xs : List α} {ys : List β}, Paired F xs ys → Paired G xs ys
  | _, _, .nil => .nil
  | _, _, .cons r t => .cons (hFG _ _ r) (prd_imp hFG t)
theorem prd_snoc {α β : Type} {F : α → β → Prop} : ∀ {xs : List α} {ys : List β} {x : α} {y : β}, Paired F xs ys → F x y → Paired F (xs ++ [x]) (ys ++ [y])
  | _, _, _, _, .nil, h => .cons h .nil
  | _, _, _, _, .cons r t, h => .cons r (prd_snoc t h)
theorem prd_get {α β : Type} {F : α → β → Prop} : ∀ {xs : List α} {ys : List β}, Paired F xs ys → ∀ {i : Nat} {x : α}, xs[i]? = some x → ∃ y, ys[i]? = some y ∧ F x y
  | _, _, .cons r t, 0, x, h => ⟨_, rfl, by cases Option.some.inj h; exact r⟩
  | _, _, .cons r t, i + 1, x, h => prd_get t (by simpa using h)
theorem prd_mem {α β : Type} {F : α → β → Prop} : ∀ {xs : List α} {ys : List β}, Paired F xs ys → ∀ {y : β}, y ∈ ys → ∃ x ∈ xs, F x y
  | _, _, .cons r t, y, h => (List.mem_cons.mp h).elim (fun e => ⟨_, .head _, e ▸ r⟩) fun h => by
    obtain ⟨x, hx, q⟩ := prd_mem t h
    exact ⟨x, .tail _ hx, q⟩
theorem lc_R (w : Walk J n G (YAt (ys.map c))) (p : α → Bool) (R : α → V → Hp → Prop) (per : ∀ y v H H', R y v H → Same H H' → R y v H') (hn : n = ys.length) (hD : H1 D = none) (hG : ∀ H', Same H1 H' → G H') (hz : ys.length ≤ sizeLine)
    (test : ∀ (i : Nat) (y : α) (H' : Hp) (k : Bool → Hp → Prop), ys[i]? = some y → Same H1 H' → (∀ H4, Same H' H4 → k (p y) H4) → tt ((wipe σ vs).set j (some (c y))) H' k)
    (turn : ∀ (i : Nat) (y : α) (H' : Hp) (k : VK), ys[i]? = some y → p y = true → Same H1 H' → (∀ v H4, Same H' H4 → R y v H4 → k v H4) → te ((wipe σ vs).set j (some (c y))) H' k)
    (hd : ∀ us H', Same H1 H' → H' D = some (.lst us) → Paired (fun y v => R y v H') (ys.filter p) us → Qd H') (hw : ∀ v, wipe ((wipe σ vs).set j (some v)) vs = wipe σ vs := by intro _; rfl)
    (perD : ∀ y v H u, R y v H → H D = some (.lst u) → ∀ u', R y v (upd H D (.lst u'))) :
    ∃ W : Nat → Nat → Hp → Prop, (∃ m, W 0 m (upd H1 D (.lst []))) ∧ ∀ i m H, W i m H →
      (J.stop i H ∧ Qd H) ∨ (J.go i H ∧ ∃ Nx : Hp → Prop, (∀ H', Nx H' → ∃ m', m' < m ∧ W (i + 1) m' H') ∧ ∀ x H', J.yld i H x H' → gName j x (wipe σ vs) H' fun σ2 H2 => wipe σ2 vs = wipe σ vs ∧ tt σ2 H2 fun b H3 =>
        if b = true then te σ2 H3 fun y H4 => ∃ acc, H4 D = some (.lst acc) ∧ acc.length < sizeLine ∧ Nx (upd H4 D (.lst (acc ++ [y]))) else Nx H3) := by
  refine lc_it w (fun i H' => Same H1 H' ∧ ∃ us, H' D = some (.lst us) ∧ Paired (fun y v => R y v H') ((ys.take i).filter p) us) ⟨Same.new hD, [], upd_same, .nil⟩ (fun i H' _ z => hG H' z.1) ?_ ?_
  · rintro i x H H' hi ⟨s1, us, d1, pr⟩ ⟨rfl, hx⟩
    rw [List.getElem?_map] at hx
    cases e : ys[i]? with
    | none => rw [e] at hx; cases hx
    | some y =>
      rw [e] at hx
      obtain rfl := Option.some.inj hx
      have et : (ys.take (i + 1)).filter p = (ys.take i).filter p ++ (if p y = true then [y] else []) := by
        rw [List.take_add_one, e, List.filter_append]
        show _ ++ [y].filter p = _
        rw [List.filter_cons]
        split <;> rfl
      refine ⟨hw _, test i y _ _ e s1 fun H3 s3 => ?_⟩
      by_cases hp : p y = true
      · rw [if_pos hp]
        refine turn i y _ _ e hp (s1.trans s3) fun v H4 s4 hv => ⟨us, s4 _ _ (s3 _ _ d1), ?_, ?_, us ++ [v], upd_same, ?_⟩
        · have h1 := List.length_filter_le p (ys.take i)
          have h3 : (ys.take i).length < ys.length := by
            have := (List.getElem?_eq_some_iff.mp e).1
            rw [List.length_take]; omega
          have := Paired.length pr
          omega
        · exact fun b o z => by
            have nb : b ≠ D := ne_of_none z hD
            rw [upd_ne nb]
            exact s4 _ _ (s3 _ _ (s1 _ _ z))
        · rw [et, if_pos hp]
          exact prd_snoc (prd_imp (fun y v h => perD _ _ _ _ (per _ _ _ _ (per _ _ _ _ h s3) s4) (s4 _ _ (s3 _ _ d1)) _) pr) (perD _ _ _ _ hv (s4 _ _ (s3 _ _ d1)) _)
      · rw [if_neg hp]
        refine ⟨s1.trans s3, us, s3 _ _ d1, ?_⟩
        rw [et, if_neg hp, List.append_nil]
        exact prd_imp (fun y v h => per _ _ _ _ h s3) pr
  · rintro H ⟨s1, us, d1, pr⟩
    subst hn
    rw [List.take_length] at pr
    exact hd us H s1 d1 pr
end
/-! ### sources -/
/-- what is walked: these values, and it stands while the heap grows -/
def EvI (wi : TI) (σ : L2.St) (H : Hp) (vals : List V) : Prop := ∀ H1, Ex H H1 → ∀ R : It → Hp → Prop, (∀ J G H2, Ex H1 H2 → Walk J vals.length G (YAt vals) → (∀ H', Ex H2 H' → G H') → R J H2) → wi σ H1 R
section
variable {K : PySem.W.Frag} {σ : L2.St} {H : Hp} {tl te : TE} {t : TT} {a : Addr} {vals : List V} {wi : TI} {Q : VK} {ta : TA}
theorem EvI.mono {H' : Hp} (e : Ex H H') (h : EvI wi σ H vals) : EvI wi σ H' vals := fun H1 a R r => h H1 (e.trans a) R r
theorem ei_L (hl : Ev tl σ H (.ref a)) (h : SqL K H a vals) : EvI (iList K tl) σ H vals := fun H1 e R r => hl H1 e _ fun H2 e2 => ⟨a, rfl, ⟨_, ex_l (e.trans e2) h⟩, r _ _ H2 e2 walk_list fun H' e3 => ex_l ((e.trans e2).trans e3) h⟩
theorem ei_T (hl : Ev tl σ H (.ref a)) (h : SqT K H a vals) : EvI (iTup K tl) σ H vals := fun H1 e R r => hl H1 e _ fun H2 e2 => ⟨a, rfl, ⟨_, ex_t (e.trans e2) h⟩, r _ _ H2 e2 walk_tup fun H' e3 => ex_t ((e.trans e2).trans e3) h⟩
/-- over a new list, a new tuple -/
theorem ei_N (hl : EvL tl σ H vals) : EvI (iList K tl) σ H vals := fun H1 e R r => hl H1 e _ fun p H2 _ e2 h2 => ⟨p, rfl, ⟨_, sq_of h2⟩, r _ _ H2 e2 walk_list fun H' e3 => sq_of (e3 _ _ h2)⟩
theorem ei_U (hl : EvU tl σ H vals) : EvI (iTup K tl) σ H vals := fun H1 e R r => hl H1 e _ fun p H2 _ e2 h2 => ⟨p, rfl, ⟨_, st_of h2⟩, r _ _ H2 e2 walk_tup fun H' e3 => st_of (e3 _ _ h2)⟩
theorem ei_K {β : Type} {g : β → V} {l : List (PySem.Str × β)} {o : Obj} (hl : Ev tl σ H (.ref a)) (h : H a = some (.frz o (.dK (kvT g l)))) : EvI (iKeys tl) σ H ((keysT l).map V.str) := fun H1 e R r => hl H1 e _ fun H2 e2 => ⟨a, o, rfl, .inl ⟨_, e2 _ _ (e _ _ h), r _ (fun H => H a = some (.frz o (.dK (kvT g l)))) H2 e2 (by rw [List.length_map]; unfold keysT; rw [List.length_map]; exact (show Walk _ _ _ _ from by have := walk_kT (g := g) (l := l) (d := a) (o := o); unfold keysT at this; rwa [List.length_map] at this)) fun H' e3 => e3 _ _ (e2 _ _ (e _ _ h))⟩⟩
theorem ei_r1 {n : Int} (h : EvA ta σ H [.int n]) (h0 : -(2 ^ 62) ≤ n) (h1 : n < 2 ^ 62) : EvI (iRng1 ta) σ H ((List.range n.toNat).map fun i => V.int (i : Nat)) := fun H1 e R r => h H1 e _ fun H2 e2 => ⟨n, rfl, h0, h1, r _ _ H2 e2 (by
  have := walk_rng (lo := 0) (n := n.toNat)
  simp only [Int.zero_add] at this
  rw [List.length_map, List.length_range]
  exact this) fun _ _ => trivial⟩
theorem ei_r2 {lo hi : Int} (h : EvA ta σ H [.int lo, .int hi]) (b : -(2 ^ 62) ≤ lo ∧ lo < 2 ^ 62 ∧ -(2 ^ 62) ≤ hi ∧ hi < 2 ^ 62) : EvI (iRng2 ta) σ H ((List.range (hi - lo).toNat).map fun i => V.int (lo + (i : Nat))) := fun H1 e R r => h H1 e _ fun H2 e2 => ⟨lo, hi, rfl, b, r _ _ H2 e2 (by rw [List.length_map, List.length_range]; exact walk_rng) fun _ _ => trivial⟩
variable {α : Type} {ys : List α} {j : Nat} {vs : List Nat} {c : α → V}
theorem el_mI (f : α → V) (hi : EvI wi σ H (ys.map c)) (hz : ys.length ≤ 100000) (turn : ∀ (i : Nat) y, ys[i]? = some y → ∀ H', Ex H H' → Ev te ((wipe σ vs).set j (some (c y))) H' (f y)) (hw : ∀ v, wipe ((wipe σ vs).set j (some v)) vs = wipe σ vs := by intro _; rfl) :
    EvL (tLc wi (gName j) tYes te vs) σ H (ys.map f) := fun H1 e Q q => hi H1 e _ fun J G H2 e2 w hG D hD =>
  lc_m (j := j) (c := c) (ys := ys) w f (by rw [List.length_map]) hD hG (sz_of hz) (fun i y H' k hy s hk => turn i y hy H' ((e.trans e2).trans s) H' (Ex.refl _) k hk) (fun H' s hD' => q D H' (fresh_back e2 hD) (e2.trans s) hD') hw
theorem el_fI (p : α → Bool) (f : α → V) (hi : EvI wi σ H (ys.map c)) (hz : ys.length ≤ 100000) (test : ∀ (i : Nat) y, ys[i]? = some y → ∀ H', Ex H H' → EvT t ((wipe σ vs).set j (some (c y))) H' (p y))
    (turn : ∀ (i : Nat) y, ys[i]? = some y → p y = true → ∀ H', Ex H H' → Ev te ((wipe σ vs).set j (some (c y))) H' (f y)) (hw : ∀ v, wipe ((wipe σ vs).set j (some v)) vs = wipe σ vs := by intro _; rfl) :
    EvL (tLc wi (gName j) t te vs) σ H ((ys.filter p).map f) := fun H1 e Q q => hi H1 e _ fun J G H2 e2 w hG D hD =>
  lc_f (j := j) (c := c) (ys := ys) w p f (by rw [List.length_map]) hD hG (sz_of hz) (fun i y H' k hy s hk => test i y hy H' ((e.trans e2).trans s) H' (Ex.refl _) k hk) (fun i y H' k hy hp s hk => turn i y hy hp H' ((e.trans e2).trans s) H' (Ex.refl _) k hk) (fun H' s hD' => q D H' (fresh_back e2 hD) (e2.trans s) hD') hw
/-- a value that has some property behind it -/
def EvP (te : TE) (σ : L2.St) (H : Hp) (P : V → Hp → Prop) : Prop := ∀ H1, Ex H H1 → ∀ Q : VK, (∀ v H2, Ex H1 H2 → P v H2 → Q v H2) → te σ H1 Q
theorem EvU.p {xs : List V} (h : EvU te σ H xs) : EvP te σ H fun v H' => ∃ p, v = .ref p ∧ H' p = some (.tup xs) := fun H1 e Q q => h H1 e _ fun p H2 _ e2 h2 => q _ H2 e2 ⟨p, rfl, h2⟩
theorem EvL.p {xs : List V} (h : EvL te σ H xs) : EvP te σ H fun v H' => ∃ p, v = .ref p ∧ H' p = some (.lst xs) := fun H1 e Q q => h H1 e _ fun p H2 _ e2 h2 => q _ H2 e2 ⟨p, rfl, h2⟩
/-- a new list whose items are told by a relation -/
theorem el_RI (p : α → Bool) (R : α → V → Hp → Prop) (per : ∀ y v H H', R y v H → Same H H' → R y v H') (perD : ∀ y v H D u, R y v H → H D = some (.lst u) → (∀ y' v', R y' v' H → True) → ∀ u', R y v (upd H D (.lst u')))
    (hi : EvI wi σ H (ys.map c)) (hz : ys.length ≤ 100000) (test : ∀ (i : Nat) y, ys[i]? = some y → ∀ H', Ex H H' → EvT t ((wipe σ vs).set j (some (c y))) H' (p y))
    (turn : ∀ (i : Nat) y, ys[i]? = some y → p y = true → ∀ H', Ex H H' → EvP te ((wipe σ vs).set j (some (c y))) H' (R y)) (hw : ∀ v, wipe ((wipe σ vs).set j (some v)) vs = wipe σ vs := by intro _; rfl) :
    ∀ H1, Ex H H1 → ∀ Q : VK, (∀ D us H2, H1 D = none → Ex H1 H2 → H2 D = some (.lst us) → Paired (fun y v => R y v H2) (ys.filter p) us → Q (.ref D) H2) → tLc wi (gName j) t te vs σ H1 Q := fun H1 e Q q => hi H1 e _ fun J G H2 e2 w hG D hD =>
  lc_R (j := j) (c := c) (ys := ys) w p R per (by rw [List.length_map]) hD hG (sz_of hz) (fun i y H' k hy s hk => test i y hy H' ((e.trans e2).trans s) H' (Ex.refl _) k hk) (fun i y H' k hy hp s hk => turn i y hy hp H' ((e.trans e2).trans s) H' (Ex.refl _) k fun v H4 e4 hr => hk v H4 e4 hr)
    (fun us H' s hD' pr => q D us H' (fresh_back e2 hD) (e2.trans s) hD' pr) hw fun y v H u hr hu u' => perD y v H D u hr hu (fun _ _ _ => trivial) u'
/-- new tuples of values -/
def NewTup {α : Type} (f : α → List V) : α → V → Hp → Prop := fun y v H => ∃ p, v = .ref p ∧ H p = some (.tup (f y))
theorem el_uI (p : α → Bool) (f : α → List V) (hi : EvI wi σ H (ys.map c)) (hz : ys.length ≤ 100000) (test : ∀ (i : Nat) y, ys[i]? = some y → ∀ H', Ex H H' → EvT t ((wipe σ vs).set j (some (c y))) H' (p y))
    (turn : ∀ (i : Nat) y, ys[i]? = some y → p y = true → ∀ H', Ex H H' → EvU te ((wipe σ vs).set j (some (c y))) H' (f y)) (hw : ∀ v, wipe ((wipe σ vs).set j (some v)) vs = wipe σ vs := by intro _; rfl) :
    ∀ H1, Ex H H1 → ∀ Q : VK, (∀ D us H2, H1 D = none → Ex H1 H2 → H2 D = some (.lst us) → Paired (fun y v => NewTup f y v H2) (ys.filter p) us → Q (.ref D) H2) → tLc wi (gName j) t te vs σ H1 Q :=
  el_RI p (NewTup f) (fun y v H H' ⟨q, e, h⟩ s => ⟨q, e, s _ _ h⟩) (fun y v H D u ⟨q, e, h⟩ hu _ u' => ⟨q, e, by rw [upd_ne fun z => by rw [z, hu] at h; cases h]; exact h⟩) hi hz test (fun i y hy hp H' e => EvU.p (turn i y hy hp H' e)) hw
theorem et_yes : EvT tYes σ H true := fun H1 _ Q q => q H1 (Ex.refl _)
end
end Mc
namespace Mc
open PySem L2 PySem.Spec PyProof.Rows
section
variable {X : Cx}
theorem sw_dict {kx vx : Expr} {gs : List Comprehension} {scope : Scope} {pos py : Pos} {y : PySem.Str} {n : Nat} {env : Env} (h1 : env.scope.kind = .function) (h2 : env.scope.names.lookup y = some .local) (h3 : (py.line == pos.line) = true)
    (h4 : (scope.names.any fun (n, k) => n == y && (k == .local || k == .cell)) = false) : swapsWith (.DictComp kx vx gs scope pos) (some (.Name y py)) n env = pure true := by
  have a : env.kindOf y = some .local := h2
  have b : env.blockKind = .function := by simp only [Env.blockKind, h1]; rfl
  simp only [swapsWith, a, b, h4, Expr.pos, h3]; rfl
/-- name = {..} on one line, the name a plain local -/
theorem ps_setDc {i : Nat} {y : PySem.Str} {py : Pos} {kx vx tg iter : Expr} {ifs : List Expr} {scope : Scope} {own : List (PySem.Str × Nat)} {pos spos : Pos} {wi : TI} {g : TG} {tt : TT} {tk tv : TE} (hc : X.calm = true) (hN : X.N.Nodup) (hy : X.N[i]? = some y) (hl : X.env.scope.names.lookup y = some .local)
    (hsw : swapsWith (.DictComp kx vx [⟨tg, iter, ifs, 0⟩] scope pos) (some (.Name y py)) spos.line X.env = pure true) (hi : PI X tg iter wi) (ok : BlkOk X.N X.env.scope scope own)
    (pg : ∀ (s : Shared) (H : Hp) (C : Addr) (cl : List (PySem.Str × Addr)) (fp : List Addr), PG (X.blk s H scope (compEnvC scope cl C X.env) fp) tg g)
    (pt : ∀ (s : Shared) (H : Hp) (C : Addr) (cl : List (PySem.Str × Addr)) (fp : List Addr), PTs (X.blk s H scope (compEnvC scope cl C X.env) fp) ifs tt)
    (pk : ∀ (s : Shared) (H : Hp) (C : Addr) (cl : List (PySem.Str × Addr)) (fp : List Addr), PE (X.blk s H scope (compEnvC scope cl C X.env) fp) kx tk)
    (pe : ∀ (s : Shared) (H : Hp) (C : Addr) (cl : List (PySem.Str × Addr)) (fp : List Addr), PE (X.blk s H scope (compEnvC scope cl C X.env) fp) vx tv) (hs : ∀ x, foldedSetIterable iter X.env x = pure x := by intro _; rfl) :
    PS X (.Assign [.Name y py] (.DictComp kx vx [⟨tg, iter, ifs, 0⟩] scope pos) spos) (tAsg (tDc wi g tt tk tv (own.map (·.2))) (gName i)) := ⟨fun pins s σ H D I h => by
  have h' : tDc wi g tt tk tv (own.map (·.2)) σ H (fun x H1 => gName i x σ H1 D.nx) := h
  rw [exec_Assign_Name_used _ _ _ _ hsw]
  refine wpAny_bind (wpAny_standAt (wpAny_bind ?_))
  change wpAny _ X.A (comprehension (.DictComp kx vx [⟨tg, iter, ifs, 0⟩] scope pos) scope X.env (firstIterPos [⟨tg, iter, ifs, 0⟩] pos) newDict false (eval iter X.env) (some (assign (.Name y py) X.env)) >>= fun _ => pure ()) _ _ _
  refine wpAny_bind ?_
  refine thn (dc_core (Qf := fun _ t => SP X pins D .next t) hc hN I hi ok pg pt pk pe hs h' ?_) fun _ t ht => wpAny_pure (wpAny_pure ht)
  intro L C t m H' It q hn fo
  refine wpAny_assign_Name (store_ok2 (v := V.ref L) It hN hy (.inl hl) rfl (fun t2 I2 ⟨c, sb, wh⟩ => ?_) (.inr hl))
  obtain ⟨f0, f1, f2, f3, f4, f5⟩ := fo
  have ne : C ≠ c := wh.elim (fun z => z ▸ f1) fun z e => f4 y c z e.symm
  exact ⟨m, hn.sameBut sb ne, fun t3 sb3 => ⟨_, H', I2.turned (t' := t2.toks) (fun b o n e => (sb3.2 b n).trans e) f0 f1 f3 f4 f5, q⟩⟩⟩
end
end Mc
namespace Mc
open PySem L2 PySem.Spec PyProof.Rows Evl
/-! ### a dict that is walked where it is made: it stays locked -/
def tFrz (t : TE) : TE := fun σ H Q => t σ H fun x H1 => ∃ d u, x = .ref d ∧ H1 d = some u ∧ Mut (some u) ∧ ∀ o, Q x (upd H1 d (.frz o u))
theorem pe_frz {X : Cx} {e : Expr} {t : TE} (h : PE X e t) : PE X e (tFrz t) := ⟨fun pins s σ H Q I hw => thn (h.run pins s σ H _ I hw) fun v s1 hv => by
  obtain ⟨x, H1, I1, r1, d, u, rfl, hd, mu, q⟩ := hv
  obtain ⟨od, I2⟩ := I1.lock hd mu
  exact ⟨_, _, I2, r1, q od⟩⟩
/-! ### xs.count(text) -/
theorem cntS : ∀ {xs : List PySem.Str} {its : List Value} {k : PySem.Str}, Vals (xs.map V.str) its → its.countP (isS k) = xs.count k
  | [], _, _, .nil => rfl
  | x :: xs, _ :: us, k, .cons ⟨t, e⟩ r => by
    subst e
    rw [List.countP_cons, List.count_cons, cntS (k := k) r]
    have e2 : isS k (.str x t) = (x == k) := by
      show (x.cps.toList == k.cps.toList) = (x == k)
      by_cases h : x = k
      · subst h; simp
      · have n1 : ¬ x.cps.toList = k.cps.toList := fun z => h (str_ext z)
        rw [beq_eq_false_iff_ne.mpr n1, beq_eq_false_iff_ne.mpr h]
    rw [e2]
section
variable {X : Cx} {K : PySem.W.Frag}
def rCntS (K : PySem.W.Frag) : V → List V → Hp → VK → Prop := fun x xs H Q => ∃ (p : Addr) (ys : List PySem.Str) (k : PySem.Str), x = .ref p ∧ xs = [.str k] ∧ SqL K H p (ys.map V.str) ∧ Q (.int (ys.count k : Nat)) H
theorem mt_lcountS : MtR X "list.count" (rCntS X.K) := by
  intro pins s σ H x xs v us Q I rx rxs h
  obtain ⟨p, ys, k, rfl, rfl, hs, q⟩ := h
  cases rx
  obtain ⟨u, rfl, ru⟩ := rxs.one
  obtain ⟨t, rfl⟩ := ru
  obtain ⟨its, rv, ⟨⟨cls, dd, data, sl⟩, n, ho, hc, hdn, hd⟩, hlen⟩ := I.list hs
  simp only at hc hd
  subst hc hd
  refine call_meets PySem.F.slot_list_count ⟨_, ho, rfl⟩ PySem.F.entry_list_count (PySem.F.args_list_count_2 _ _) (SeqAt.list_countAt p its.toArray n dd sl (.str k t) (isS k)) ⟨ho, fun y hy => ?_, ?_⟩
  · obtain ⟨i, hi⟩ := List.mem_iff_getElem?.mp (show y ∈ its by simpa using hy)
    cases hx : ys[i]? with
    | none => rw [rv.none_of (by rw [List.getElem?_map, hx]; rfl)] at hi; cases hi
    | some z =>
      obtain ⟨w', h1, ⟨t', h2⟩⟩ := rv.get (i := i) (x := .str z) (by rw [List.getElem?_map, hx]; rfl)
      rw [hi] at h1; cases h1
      rw [h2]
      exact (SeqRoads2.EqGives.str z k t' t).at _ _
  · refine ⟨.int (ys.count k : Nat), H, I.tok _, ⟨s.toks, ?_⟩, q⟩
    show Value.int ((its.toArray.toList.countP (isS k) : Nat) : Int) s.toks = Value.int ((ys.count k : Nat) : Int) s.toks
    rw [List.toList_toArray, cntS rv]
theorem mt_lcountSK (h : X.K = K) : MtR X "list.count" (rCntS K) := by subst h; exact mt_lcountS
end
/-! ### {k: e for k in ..} as a map -/
section
variable {f : PySem.Str → V} {ys : List PySem.Str} {J : It} {n : Nat} {G : Hp → Prop} {te : TE} {vs : List Nat} {σ : L2.St} {H1 : Hp} {D : Addr} {Qd : Hp → Prop} {j : Nat}
def mkD (f : PySem.Str → V) (ys : List PySem.Str) : List (L2.Key × V) := ys.map fun y => (Sum.inr y, f y)
theorem mkD_put {y : PySem.Str} (h : y ∉ ys) (f : PySem.Str → V) : putK (mkD f ys) (Sum.inr y) (f y) = mkD f (ys ++ [y]) := by
  have e1 : mkD f ys = kvT id (ys.map fun y => (y, f y)) := by unfold mkD kvT; rw [List.map_map]; rfl
  have e2 := put_new (f := (id : V → V)) (l := ys.map fun y => (y, f y)) (k := y) (v := f y) (by rw [keysT_mk]; exact h)
  rw [e1]
  refine e2.trans ?_
  unfold mkD kvT
  rw [List.map_append, List.map_map, List.map_append]
  rfl
theorem dc_m (w : Walk J n G (YAt (ys.map V.str))) (f : PySem.Str → V) (hn : n = ys.length) (nd : ys.Nodup) (hD : H1 D = none) (hG : ∀ H', Same H1 H' → G H') (hz : ys.length ≤ sizeLine)
    (turn : ∀ (i : Nat) (y : PySem.Str) (H' : Hp) (k : VK), ys[i]? = some y → Same H1 H' → (∀ H4, Same H' H4 → k (f y) H4) → te ((wipe σ vs).set j (some (.str y))) H' k)
    (hd : ∀ H', Same H1 H' → H' D = some (.dK (mkD f ys)) → Qd H') (hj : ∀ v, ((wipe σ vs).set j (some v))[j]? = some (some v) := by intro _; rfl) (hw : ∀ v, wipe ((wipe σ vs).set j (some v)) vs = wipe σ vs := by intro _; rfl) :
    ∃ W : Nat → Nat → Hp → Prop, (∃ m, W 0 m (upd H1 D (.dK []))) ∧ ∀ i m H, W i m H →
      (J.stop i H ∧ Qd H) ∨ (J.go i H ∧ ∃ Nx : Hp → Prop, (∀ H', Nx H' → ∃ m', m' < m ∧ W (i + 1) m' H') ∧ ∀ x H', J.yld i H x H' → gName j x (wipe σ vs) H' fun σ2 H2 => wipe σ2 vs = wipe σ vs ∧ tYes σ2 H2 fun b H3 =>
        if b = true then tVar j σ2 H3 fun y H4 => te σ2 H4 fun z H5 => ∃ kvs k, y = kV k ∧ H5 D = some (.dK kvs) ∧ kvs.length < sizeLine ∧ Nx (upd H5 D (.dK (putK kvs k z))) else Nx H3) := by
  refine ⟨fun i m H => m = n - i ∧ i ≤ n ∧ Same H1 H ∧ H D = some (.dK (mkD f (ys.take i))), ⟨n, by simp, Nat.zero_le _, Same.new hD, upd_same⟩, ?_⟩
  rintro i m H ⟨rfl, hi, s1, d1⟩
  by_cases hlt : i < n
  · refine .inr ⟨w.goes i H hlt (hG H s1), fun H' => Same H1 H' ∧ H' D = some (.dK (mkD f (ys.take (i + 1)))), fun H' p' => ⟨n - (i + 1), by omega, rfl, hlt, p'⟩, fun x H' y => ?_⟩
    obtain ⟨rfl, hx⟩ := w.yields i H x H' hlt (hG H s1) y
    rw [List.getElem?_map] at hx
    cases e : ys[i]? with
    | none => rw [e] at hx; cases hx
    | some c =>
      rw [e] at hx
      obtain rfl := Option.some.inj hx
      refine ⟨hw _, yes_ite ⟨_, hj _, turn i c _ _ e s1 fun H4 s4 => ⟨_, Sum.inr c, rfl, s4 _ _ d1, ?_, ?_, ?_⟩⟩⟩
      · unfold mkD; rw [List.length_map, List.length_take]; omega
      · exact fun b o z => by
          have nb : b ≠ D := ne_of_none z hD
          rw [upd_ne nb]
          exact s4 _ _ (s1 _ _ z)
      · rw [upd_same, mkD_put (nd_take nd e), List.take_add_one, e]
        rfl
  · obtain rfl : i = n := by omega
    subst hn
    rw [List.take_length] at d1
    exact .inl ⟨w.stops H (hG H s1), hd H s1 d1⟩
/-- a new dict -/
def EvD (te : TE) (σ : L2.St) (H : Hp) (kvs : List (L2.Key × V)) : Prop := ∀ H1, Ex H H1 → ∀ Q : VK, (∀ p H2, H1 p = none → Ex H1 H2 → H2 p = some (.dK kvs) → Q (.ref p) H2) → te σ H1 Q
theorem mkD_kvT {β : Type} {g : β → V} {h : PySem.Str → β} (ys : List PySem.Str) : mkD (fun y => g (h y)) ys = kvT g (ys.map fun y => (y, h y)) := by unfold mkD kvT; rw [List.map_map]; rfl
section
variable {K : PySem.W.Frag} {H : Hp} {tl : TE} {a : Addr}
theorem ed_N (f : PySem.Str → V) (nd : ys.Nodup) (hl : EvL tl σ H (ys.map V.str)) (hz : ys.length ≤ 100000) (turn : ∀ (i : Nat) y, ys[i]? = some y → ∀ H', Ex H H' → Ev te ((wipe σ vs).set j (some (.str y))) H' (f y)) (hj : ∀ v, ((wipe σ vs).set j (some v))[j]? = some (some v) := by intro _; rfl) (hw : ∀ v, wipe ((wipe σ vs).set j (some v)) vs = wipe σ vs := by intro _; rfl) :
    EvD (tDc (iList K tl) (gName j) tYes (tVar j) te vs) σ H (mkD f ys) := fun H1 e Q q => hl H1 e _ fun a H2 ha e2 h2 => ⟨a, rfl, ⟨_, sq_of h2⟩, fun D hD =>
  dc_m (j := j) (ys := ys) walk_list f (by rw [List.length_map]) nd hD (fun H' s => sq_of (s _ _ h2)) (sz_of hz) (fun i y H' k hy s hk => turn i y hy H' ((e.trans e2).trans s) H' (Ex.refl _) k hk) (fun H' s hD' => q D H' (fresh_back e2 hD) (e2.trans s) hD') hj hw⟩
theorem ed_K {β : Type} {g : β → V} {l : List (PySem.Str × β)} {o : Obj} (f : PySem.Str → V) (nd : (keysT l).Nodup) (hl : Ev tl σ H (.ref a)) (h : H a = some (.frz o (.dK (kvT g l)))) (hz : l.length ≤ 100000) (turn : ∀ (i : Nat) y, (keysT l)[i]? = some y → ∀ H', Ex H H' → Ev te ((wipe σ vs).set j (some (.str y))) H' (f y)) (hj : ∀ v, ((wipe σ vs).set j (some v))[j]? = some (some v) := by intro _; rfl) (hw : ∀ v, wipe ((wipe σ vs).set j (some v)) vs = wipe σ vs := by intro _; rfl) :
    EvD (tDc (iKeys tl) (gName j) tYes (tVar j) te vs) σ H (mkD f (keysT l)) := fun H1 e Q q => hl H1 e _ fun H2 e2 => ⟨a, o, rfl, .inl ⟨_, e2 _ _ (e _ _ h), fun D hD =>
  dc_m (j := j) (ys := keysT l) walk_kT f rfl nd hD (fun H' s => s _ _ (e2 _ _ (e _ _ h))) (by unfold keysT; rw [List.length_map]; exact sz_of hz) (fun i y H' k hy s hk => turn i y hy H' ((e.trans e2).trans s) H' (Ex.refl _) k hk) (fun H' s hD' => q D H' (fresh_back e2 hD) (e2.trans s) hD') hj hw⟩⟩
theorem ed_lock {kvs xs : List (L2.Key × V)} (h : H a = some (.dK kvs)) (k : ∀ od, EvD te σ (upd H a (.frz od (.dK kvs))) xs) : EvD (tLockE te) σ H xs := fun H1 e Q q => by
  have h1 := e _ _ h
  refine ⟨a, _, h1, trivial, fun od => k od _ (ex_lock e) _ fun p H2 hp e2 h2 => ?_⟩
  have na : p ≠ a := fun z => by rw [z, upd_same] at hp; cases hp
  exact ⟨e2 _ _ upd_same, q p _ (by rw [upd_ne na] at hp; exact hp) (ex_unlock h1 e2) (by rw [upd_ne na]; exact h2)⟩
end
end
end Mc
namespace Mc.Cn
open PySem L2 PySem.Spec PyProof.Rows Evl
/-! ### dicts with numbers as keys -/
section
variable {β : Type} {f : β → V} {l : List (Nat × β)} {k : Nat} {v : β}
def kvI (f : β → V) (l : List (Nat × β)) : List (L2.Key × V) := l.map fun x => (Sum.inl (x.1 : Int), f x.2)
def getI (l : List (Nat × β)) (k : Nat) : Option β := (l.find? fun x => decide (x.1 = k)).map (·.2)
theorem getI_cons (x : Nat × β) : getI (x :: l) k = if x.1 = k then some x.2 else getI l k := by
  unfold getI
  rw [List.find?_cons]
  by_cases e : x.1 = k
  · rw [decide_eq_true e, if_pos e]; rfl
  · rw [decide_eq_false e, if_neg e]
theorem inl_inj {a b : Nat} : ((Sum.inl (a : Int) : L2.Key) = Sum.inl (b : Int)) ↔ a = b := ⟨fun z => Int.ofNat.inj (Sum.inl.inj z), fun z => by rw [z]⟩
theorem val_I : valV (kvI f l) (Sum.inl (k : Int) : L2.Key) = (getI l k).map f := by
  induction l with
  | nil => rfl
  | cons x l ih =>
    rw [getI_cons]
    by_cases e : x.1 = k
    · rw [if_pos e]
      exact valV_pos (p := ((Sum.inl (x.1 : Int) : L2.Key), f x.2)) (inl_inj.mpr e)
    · rw [if_neg e, ← ih]
      exact valV_neg (p := ((Sum.inl (x.1 : Int) : L2.Key), f x.2)) fun z => e (inl_inj.mp z)
theorem getI_none : getI l k = none ↔ k ∉ l.map (·.1) := by
  induction l with
  | nil => exact ⟨fun _ h => (nomatch h), fun _ => rfl⟩
  | cons x l ih =>
    rw [getI_cons, List.map_cons]
    by_cases e : x.1 = k
    · rw [if_pos e]
      exact ⟨fun h => (nomatch h), fun h => absurd (by rw [← e]; exact .head _) h⟩
    · rw [if_neg e, ih]
      exact ⟨fun h z => (List.mem_cons.mp z).elim (fun q => e q.symm) h, fun h z => h (.tail _ z)⟩
theorem putK_I (nd : (l.map (·.1)).Nodup) : putK (kvI f l) (Sum.inl (k : Int) : L2.Key) (f v) = kvI f (putR k v l) := by
  by_cases m : k ∈ l.map (·.1)
  · have ha : (kvI f l).any (fun p => decide (p.1 = (Sum.inl (k : Int) : L2.Key))) = true ∨ True := .inr trivial
    unfold putK
    rw [if_pos (by
      cases e : getI l k with
      | none => exact absurd m (getI_none.mp e)
      | some v' => rw [valV_any, val_I, e]; rfl)]
    clear ha
    have nom : ∀ {l' : List (Nat × β)}, k ∉ l'.map (·.1) → (kvI f l').map (fun x => if x.1 = (Sum.inl (k : Int) : L2.Key) then (x.1, f v) else x) = kvI f l' := by
      intro l' hm
      refine (List.map_congr_left fun x hx => ?_).trans (List.map_id _)
      obtain ⟨y, hy, rfl⟩ := List.mem_map.mp hx
      dsimp only
      rw [if_neg fun z => hm (List.mem_map.mpr ⟨y, hy, inl_inj.mp z⟩)]
      rfl
    induction l with
    | nil => simp at m
    | cons x l ih =>
      have nd' := List.nodup_cons.mp nd
      unfold putR
      by_cases e : x.1 = k
      · rw [if_pos e]
        show (if (Sum.inl (x.1 : Int) : L2.Key) = Sum.inl (k : Int) then _ else _) :: (kvI f l).map _ = _
        rw [if_pos (inl_inj.mpr e), nom (by rw [← e]; exact nd'.1)]
        show ((Sum.inl (x.1 : Int) : L2.Key), f v) :: kvI f l = ((Sum.inl (k : Int) : L2.Key), f v) :: kvI f l
        rw [e]
      · rw [if_neg e]
        show (if (Sum.inl (x.1 : Int) : L2.Key) = Sum.inl (k : Int) then _ else _) :: (kvI f l).map _ = _
        rw [if_neg fun z => e (inl_inj.mp z), ih nd'.2 (by
          rw [List.map_cons] at m
          rcases List.mem_cons.mp m with z | z
          · exact absurd z.symm e
          · exact z)]
        rfl
  · rw [putK_new _ (by rw [val_I, getI_none.mpr m]; rfl)]
    have : ∀ {l' : List (Nat × β)}, k ∉ l'.map (·.1) → putR k v l' = l' ++ [(k, v)] := by
      intro l'
      induction l' with
      | nil => exact fun _ => rfl
      | cons x l' ih =>
        intro hm
        rw [List.map_cons] at hm
        unfold putR
        rw [if_neg fun z => hm (by rw [← z]; simp), ih fun z => hm (List.mem_cons_of_mem _ z)]
        rfl
    rw [this m]
    unfold kvI
    rw [List.map_append]
    rfl
theorem kvI_len : (kvI f l).length = l.length := List.length_map _
theorem walk_kI {g : β → V} {d : Addr} {o : Obj} : Walk (Itk d o (kvI g l)) l.length (fun H => H d = some (.frz o (.dK (kvI g l)))) (YAt (l.map fun x => V.int (x.1 : Int))) := by
  rw [← kvI_len (f := g) (l := l)]
  refine walk_keys.mono (fun _ h => h) ?_
  rintro i H x H' hi _ ⟨rfl, k, v, hk, rfl⟩
  refine ⟨rfl, ?_⟩
  unfold kvI at hk
  rw [List.getElem?_map] at hk
  rw [List.getElem?_map]
  cases e : l[i]? with
  | none => rw [e] at hk; cases hk
  | some z => rw [e] at hk; cases Option.some.inj hk; rfl
theorem dgetI {H : Hp} {a : Addr} (h : Rd H a (.dK (kvI f l))) : DGet H a (.int (k : Int)) ((getI l k).map f) := .inl ⟨_, Sum.inl (k : Int), h, rfl, val_I.symm⟩
end
/-! ### lists and tuples of data, made anew -/
def EvLD (K : PySem.W.Frag) (te : TE) (σ : L2.St) (H : Hp) (ds : List PyData) : Prop := ∀ H1, Ex H H1 → ∀ Q : VK, (∀ D H2, H1 D = none → Ex H1 H2 → LD K H2 D ds → Q (.ref D) H2) → te σ H1 Q
def EvTD (K : PySem.W.Frag) (te : TE) (σ : L2.St) (H : Hp) (ds : List PyData) : Prop := ∀ H1, Ex H H1 → ∀ Q : VK, (∀ D H2, H1 D = none → Ex H1 H2 → TD K H2 D ds → Q (.ref D) H2) → te σ H1 Q
section
variable {K : PySem.W.Frag} {σ : L2.St} {H : Hp} {tl te : TE} {t : L2.TT} {a : Addr} {wi : TI} {α : Type} {ys : List α} {j : Nat} {vs : List Nat} {c : α → V}
theorem dpA_prd {f : α → PyData} {H : Hp} : ∀ {xs : List α} {us : List V}, Paired (fun y v => Dp K H v (f y)) xs us → DpAll K H us (xs.map f)
  | _, _, .nil => .nil
  | _, _, .cons a b => .cons a (dpA_prd b)
theorem prd_dpA {f : α → PyData} {H : Hp} : ∀ {xs : List α} {us : List V}, DpAll K H us (xs.map f) → Paired (fun y v => Dp K H v (f y)) xs us
  | [], _, h => by cases h; exact .nil
  | _ :: _, _, h => by cases h with | cons a b => exact .cons a (prd_dpA b)
theorem eld_lc (p : α → Bool) (f : α → PyData) (ft : ∀ y, tpD (f y) = true) (hi : EvI wi σ H (ys.map c)) (hz : ys.length ≤ 100000) (test : ∀ (i : Nat) y, ys[i]? = some y → ∀ H', Ex H H' → EvT t ((wipe σ vs).set j (some (c y))) H' (p y))
    (turn : ∀ (i : Nat) y, ys[i]? = some y → p y = true → ∀ H', Ex H H' → EvP te ((wipe σ vs).set j (some (c y))) H' fun v H2 => Dp K H2 v (f y)) (hw : ∀ v, wipe ((wipe σ vs).set j (some v)) vs = wipe σ vs := by intro _; rfl) :
    EvLD K (tLc wi (gName j) t te vs) σ H ((ys.filter p).map f) := fun H1 e Q q =>
  el_RI p (fun y v H => Dp K H v (f y)) (fun y v H H' h s => dp_tp (Tp.same s) _ _ (ft y) h) (fun y v H D u h hu _ u' => dp_tp (Tp.lst hu) _ _ (ft y) h) hi hz test turn hw H1 e Q fun D us H2 hD e2 h2 pr => q D H2 hD e2 ⟨us, h2, dpA_prd pr⟩
theorem eld_lock {kvs : List (L2.Key × V)} {ds : List PyData} (td : tpA ds = true) (h : H a = some (.dK kvs)) (k : ∀ od, EvLD K te σ (upd H a (.frz od (.dK kvs))) ds) : EvLD K (tLockE te) σ H ds := fun H1 e Q q => by
  have h1 := e _ _ h
  refine ⟨a, _, h1, trivial, fun od => ?_⟩
  have e1 : Ex (upd H a (.frz od (.dK kvs))) (upd H1 a (.frz od (.dK kvs))) := fun b o z => by
    by_cases n : b = a
    · rw [n, upd_same] at z ⊢; exact z
    · rw [upd_ne n] at z ⊢; exact e _ _ z
  refine k od _ e1 _ fun D H2 hD e2 h2 => ?_
  have hDa : D ≠ a := fun z => by rw [z, upd_same] at hD; cases hD
  have fa : H2 a = some (.frz od (.dK kvs)) := e2 _ _ upd_same
  obtain ⟨us, hus, dus⟩ := h2
  have k3 : ∀ b o, b ≠ a → H2 b = some o → upd H2 a (.dK kvs) b = some o := fun b o n z => by rw [upd_ne n]; exact z
  refine ⟨fa, q D _ (by rw [upd_ne hDa] at hD; exact hD) (fun b o z => ?_) ⟨us, k3 _ _ hDa hus, dpA_tp (Tp.at fa (fun _ z => by cases z) fun _ _ z => by cases z) _ _ td dus⟩⟩
  by_cases n : b = a
  · subst n; rw [h1] at z; rw [upd_same]; exact z
  · exact k3 _ _ n (e2 _ _ (by rw [upd_ne n]; exact z))
theorem etd_tup {ds : List PyData} (h : EvLD K te σ H ds) (td : tpA ds = true) : EvTD K (tThen te (kTup K)) σ H ds := fun H1 e _ q => h H1 e _ fun p H2 hp e2 ⟨us, h2, du⟩ => .inl ⟨p, us, rfl, SqL.of h2, fun t ht => q t _ (fresh_back e2 ht) (e2.trans (Ex.new ht)) ⟨us, upd_same, dpA_tp (Tp.new ht) _ _ td du⟩⟩
theorem ei_kI {β : Type} {g : β → V} {l : List (Nat × β)} {o : Obj} (hl : Ev tl σ H (.ref a)) (h : H a = some (.frz o (.dK (kvI g l)))) : EvI (iKeys tl) σ H (l.map fun x => V.int (x.1 : Int)) := fun H1 e R r => hl H1 e _ fun H2 e2 => ⟨a, o, rfl, .inl ⟨_, e2 _ _ (e _ _ h), r _ (fun H => H a = some (.frz o (.dK (kvI g l)))) H2 e2 (by rw [List.length_map]; exact walk_kI) fun H' e3 => e3 _ _ (e2 _ _ (e _ _ h))⟩⟩
/-- {i: e for i in ..} over numbers -/
theorem ed_I {ns : List Nat} {β : Type} {g : β → V} (f : Nat → β) (nd : ns.Nodup) (hi : EvI wi σ H (ns.map fun i : Nat => V.int (i : Int))) (hz : ns.length ≤ 100000) (turn : ∀ (i : Nat) y, ns[i]? = some y → ∀ H', Ex H H' → Ev te ((wipe σ vs).set j (some (.int (y : Int)))) H' (g (f y)))
    (hj : ∀ v, ((wipe σ vs).set j (some v))[j]? = some (some v) := by intro _; rfl) (hw : ∀ v, wipe ((wipe σ vs).set j (some v)) vs = wipe σ vs := by intro _; rfl) :
    EvD (tDc wi (gName j) tYes (tVar j) te vs) σ H (kvI g (ns.map fun y => (y, f y))) := fun H1 e Q q => hi H1 e _ fun J G H2 e2 w hG D hD => by
  refine dc_it w (fun n H' => Ex H2 H' ∧ H' D = some (.dK (kvI g ((ns.take n).map fun y => (y, f y))))) ⟨Ex.new hD, upd_same⟩ (fun n H' _ p => hG H' p.1) ?_ ?_
  · rintro n x H5 H6 hn ⟨s5, hD5⟩ ⟨rfl, hx⟩
    rw [List.getElem?_map] at hx
    obtain ⟨y, hy, rfl⟩ := Option.map_eq_some_iff.mp hx
    refine ⟨hw _, ?_⟩
    refine et_yes _ (Ex.refl _) _ fun H7 x7 => ?_
    refine ite2 (fun _ => ?_) (fun z => absurd rfl z)
    refine ⟨_, hj _, turn n y hy _ (((e.trans e2).trans s5).trans x7) _ (Ex.refl _) _ fun H8 x8 => ?_⟩
    have hD8 := x8 _ _ (x7 _ _ hD5)
    refine ⟨_, Sum.inl (y : Int), rfl, hD8, ?_, fun b o z => by rw [upd_ne (ne_of_none z hD)]; exact x8 _ _ (x7 _ _ (s5 _ _ z)), ?_⟩
    · rw [kvI_len, List.length_map, List.length_take]
      have hn2 : n < ns.length := (List.getElem?_eq_some_iff.mp hy).1
      exact sz_lt (by omega)
    · rw [upd_same]
      have fst_id : ∀ xs : List Nat, (xs.map fun y => (y, f y)).map (·.1) = xs := fun xs => by rw [List.map_map]; exact List.map_id xs
      have ny : y ∉ ((ns.take n).map fun y => (y, f y)).map (·.1) := by rw [fst_id]; exact nd_take nd hy
      have nd2 : (((ns.take n).map fun y => (y, f y)).map (·.1)).Nodup := by
        rw [fst_id]
        exact nd.sublist (List.take_sublist _ _)
      rw [putK_new _ (by rw [val_I, getI_none.mpr ny]; rfl), List.take_add_one, hy, List.map_append]
      unfold kvI
      rw [List.map_append]
      rfl
  · rintro H5 ⟨s5, hD5⟩
    rw [List.length_map, List.take_length] at hD5
    exact q D H5 (fresh_back e2 hD) (e2.trans s5) hD5
end
end Mc.Cn
namespace Mc.Cn
open PySem L2 PySem.Spec PyProof.Rows Evl
section
variable {prog : Program} {w : World} {A : Around} {E : Value → Shared → Prop} {s : Shared}
theorem ext_store {l b : Addr} {xs ys : Array Value} {n1 : Nat} {Q : Value → Shared → Prop} (e1 : s.heap.get? l = some { cls := .type "list", data := .seq xs n1 }) (e2 : IsTup s.heap b ys)
    (hz : xs.size + ys.size ≤ sizeLine) (q : Q .none { s with heap := s.heap.update l (Obj.mapSeq fun z => z ++ ys) }) : wpAny (model prog w) A (call (.builtin "list.extend") [.ref l, .ref b]) Q E s := by
  have L1 : s.heap.IsList l xs := PySem.IsL.isList e1
  have hnot : ¬(!xs.isEmpty && Builtin.List.listTooLong (xs.size + ys.size)) = true := by
    rw [notLongL hz, Bool.and_false]; exact Bool.false_ne_true
  obtain ⟨o, e3, e4, n, e5⟩ := e2
  have tT : s.TypeIs (.ref b) "tuple" := ⟨o, e3, e4⟩
  have sz : ((fun z : Array Value => z ++ ys) xs).size ≤ sizeLine + 1 := by
    simp only [Array.size_append]; omega
  refine wpAny_call_entry F.slot_list_extend L1.typeIs F.entry_list_extend ?_ (F.args_list_extend_2 _ _)
  show wpAny _ _ (Builtin.List.listExtendWith (.ref l) (.ref b) .none) _ _ s
  unfold Builtin.List.listExtendWith
  refine wpAny_bind (wpAny_typeOf tT ?_)
  first | refine PySem.W.KFB.if_so (by simp) ?_ | rw [if_pos (by simp)]
  unfold Builtin.List.listItems
  refine wpAny_bind (wpAny_bind (wpAny_seqItems e3 e5 (wpAny_pure (wpAny_bind (wpAny_bind (wpAny_seqItems e1 rfl (wpAny_pure ?_)))))))
  dsimp only
  rw [if_neg hnot]
  unfold Builtin.List.listUpdate
  refine wpAny_bind (wpAny_updateSeq (hz := by omega) (_hz' := sz) e1 rfl ?_)
  exact wpAny_pure ⟨.none, rfl, q⟩
/-- sorted(xs, reverse=True) of numbers -/
def rSortRev (K : PySem.W.Frag) : List V → List V → Hp → VK → Prop := fun vs zs H Q => ∃ (a : Addr) (ns : List Int), vs = [.ref a] ∧ zs = [.bl true] ∧ SqL K H a (ns.map V.int) ∧ ns.length < 64 ∧
  ∀ (ns' : List Int) (p : Addr), ns'.Perm ns → ns'.Pairwise (· ≥ ·) → H p = none → Q (.ref p) (upd H p (.lst (ns'.map V.int)))
theorem ints_of {xs : List V} {us : List Value} {ns : List Int} (h : Vals xs us) (e : xs = ns.map V.int) : IntsAre us ns := by
  induction h generalizing ns with
  | nil => cases ns with
    | nil => exact .nil
    | cons n ns => cases e
  | cons r t ih => cases ns with
    | nil => cases e
    | cons n ns =>
      cases e
      obtain ⟨t', rfl⟩ := r
      exact .cons n t' (ih rfl)
theorem vals_of {us : List Value} {ns : List Int} (h : IntsAre us ns) : Vals (ns.map V.int) us := by
  induction h with
  | nil => exact .nil
  | cons n t _ ih => exact .cons ⟨t, rfl⟩ ih
end
/-- xs.extend(t), t a tuple -/
def rExtendT (K : PySem.W.Frag) : V → List V → Hp → VK → Prop := fun x vs H Q => ∃ l b xs zs, x = .ref l ∧ vs = [.ref b] ∧ H l = some (.lst xs) ∧ SqT K H b zs ∧ xs.length + zs.length ≤ sizeLine ∧ Q .non (upd H l (.lst (xs ++ zs)))
theorem mt_extendT {X : Cx} : MtM X "list.extend" (rExtendT X.K) := by
  intro pins s σ H x ys v us Q I rx ry h
  obtain ⟨l, b, xs, zs, rfl, rfl, hl, hb, hz, q⟩ := h
  cases rx
  obtain rfl := Vals.ref1 ry
  obtain ⟨z, its, n, rv, hl', e1⟩ := I.lstM hl
  obtain ⟨its2, rv2, hT, hz2⟩ := I.tuple hb
  refine ext_store e1 hT (by rw [List.size_toArray, List.size_toArray, ← hl', ← rv2.length]; exact hz) ?_
  refine ⟨.non, _, I.lset (its' := its ++ its2) (t' := s.toks) hl e1 (by simp) (Vals.append rv rv2) (by rw [List.length_append]; exact hz), rfl, q⟩
theorem cr_sortRev {X : Cx} : CallRK X (.builtin "sorted") [PySem.Str.ofString "reverse"] (rSortRev X.K) := by
  intro pins s σ H vs zs us ws Q I r rz h
  obtain ⟨a, ns, rfl, rfl, hs, h64, q⟩ := h
  obtain ⟨its, rv, hl, hz⟩ := I.list hs
  obtain rfl := Vals.ref1 r
  obtain ⟨u, rfl, ru⟩ := vals1 rz
  obtain rfl : u = Value.bool true := ru
  refine sorted_ints_rev hl.isList (ints_of rv rfl) (by rw [← rv.length, List.length_map]; exact h64) fun out ns' hi pm od => ?_
  obtain ⟨n, hn⟩ := sortedAll_at s.heap its out
  refine ⟨.ref (s.heap.objs.size + 1), upd H (s.heap.objs.size + 1) (.lst (ns'.map V.int)), I.laid (t' := s.toks) (fun b o e => sortedAll_old e) (Nat.le_succ _) ⟨?_, out.toList, n, vals_of hi, ?_⟩, rfl, q ns' _ pm ?_ (I.hok.fresh (Nat.le_succ _))⟩
  · rw [List.length_map, pm.length_eq, sizeLine_eq]; omega
  · simpa using hn
  · simpa [Ordered] using od
section
variable {K : PySem.W.Frag} {σ : L2.St} {H : Hp} {ta te td ty tl : TE} {β : Type} {f : β → V} {l : List (Nat × β)} {d : Addr} {k : Nat}
theorem ev_dgetI {b : β} (hd : Ev td σ H (.ref d)) (hk : Ev ty σ H (.int (k : Nat))) (h : Rd H d (.dK (kvI f l))) (e : getI l k = some b) : Ev (tDGet td ty) σ H (f b) := fun H1 e1 Q q =>
  hd H1 e1 _ fun H2 e2 => hk H2 (e1.trans e2) _ fun H3 e3 => ⟨d, f b, rfl, by have := dgetI (k := k) (ex_rd ((e1.trans e2).trans e3) h); rw [e] at this; exact this, q H3 (e2.trans e3)⟩
theorem has_I : ((getI l k).map f).isSome = decide (k ∈ l.map (·.1)) := by
  cases e : getI l k with
  | none => exact (decide_eq_false (getI_none.mp e)).symm
  | some b =>
    refine (decide_eq_true ?_).symm
    exact Decidable.byContradiction fun z => by rw [getI_none.mpr z] at e; cases e
theorem ev_dnotinI (hk : Ev ty σ H (.int (k : Nat))) (hd : Ev td σ H (.ref d)) (h : Rd H d (.dK (kvI f l))) : Ev (tDNotIn ty td) σ H (.bl (!decide (k ∈ l.map (·.1)))) := fun H1 e1 Q q =>
  hk H1 e1 _ fun H2 e2 => hd H2 (e1.trans e2) _ fun H3 e3 => ⟨d, _, rfl, dgetI (k := k) (ex_rd ((e1.trans e2).trans e3) h), by rw [has_I]; exact q H3 (e2.trans e3)⟩
theorem eu_tupN {xs : List V} (h : EvL te σ H xs) : EvU (tThen te (kTup K)) σ H xs := fun H1 e _ q => h H1 e _ fun p H2 hp e2 h2 => .inl ⟨p, xs, rfl, sq_of h2, fun t ht => q t _ (fresh_back e2 ht) (e2.trans (Ex.new ht)) upd_same⟩
theorem cutN (xs : List V) (n : Nat) : cutV xs none (some (n : Nat)) = xs.take n := by
  unfold cutV
  rw [show HT.sIx xs.length 0 none = 0 from rfl, HT.sIx_nat, List.drop_zero, Nat.sub_zero]
  by_cases h : n ≤ xs.length
  · rw [Nat.min_eq_left h]
  · rw [Nat.min_eq_right (by omega), List.take_of_length_le (Nat.le_refl _), List.take_of_length_le (by omega)]
/-- sorted(xs, reverse=True) of a new list of numbers -/
theorem el_srtR {ns zs : List Int} (h : EvL te σ H (ns.map V.int)) (hz : ns.length < 64) (pm : zs.Perm ns) (srt : zs.Pairwise (· ≥ ·)) : EvL (tCKw (rSortRev K) (tCons te tNil) (tCons (tC (.bl true)) tNil)) σ H (zs.map V.int) := fun H1 e Q q =>
  h H1 e _ fun l H2 hl e2 h2 => ⟨l, ns, rfl, rfl, sq_of h2, hz, fun ys p pm2 s hp => by
    have : ys = zs := List.Perm.eq_of_pairwise (le := (· ≥ ·)) (fun a b _ _ h k => Int.le_antisymm k h) s srt (pm2.trans pm.symm)
    rw [this]
    exact q p _ (fresh_back e2 hp) (e2.trans (Ex.new hp)) upd_same⟩
end
end Mc.Cn
namespace Mc.Cn
open PySem L2 PySem.Spec PyProof.Rows Evl
/-! Sequencer: __init__, to_send, write_to, settled; most_of -/
abbrev sMostOf : Stmt := top 10
abbrev sSqI : Stmt := inClass (top 15) 0
abbrev sSqSend : Stmt := inClass (top 15) 1
abbrev sSqWrite : Stmt := inClass (top 15) 2
abbrev sSqSettled : Stmt := inClass (top 15) 5
/-- where a sequencer lies -/
structure Ft where
  a : Addr
  r : Addr
  d : Addr
  t : Addr
def Ft.l (z : Ft) : List Addr := [z.a, z.r, z.d, z.t]
def tkl (tk : List Nat) : List (Nat × Nat) := (List.range tk.length).map fun i => (i, tk.getD i 0)
def vN (n : Nat) : V := .int n
def SqF (s : SqS) (z : Ft) : List (PySem.Str × V) := [("epoch", .int s.ep), ("many", .int s.many), ("stand", .str s.st.s), ("row", .ref z.r), ("rows", .ref z.d), ("taken", .ref z.t)]
structure SqAt (K : PySem.W.Frag) (C : Addr) (H : Hp) (z : Ft) (s : SqS) : Prop where
  self : ∃ dx, H z.a = some (.ins C dx (SqF s z))
  row : LD K H z.r (s.row.map En.d)
  rows : ∃ us : List (Nat × V), H z.d = some (.dK (kvI id us)) ∧ Paired (fun u q => u.1 = q.1 ∧ Dp K H u.2 (rowD q.2)) us s.rows
  tk : H z.t = some (.dK (kvI vN (tkl s.tk)))
  ne : z.d ≠ z.t
theorem SqAt.stay {K : PySem.W.Frag} {C : Addr} {H H' : Hp} {z : Ft} {s : SqS} (x : SqAt K C H z s) (h : Ks H H') (e : ∀ b ∈ z.l, ∀ o, H b = some o → H' b = some o) : SqAt K C H' z s := by
  obtain ⟨⟨dx, h1⟩, h2, ⟨us, h3, h4⟩, h5, h6⟩ := x
  refine ⟨⟨dx, e _ (by simp [Ft.l]) _ h1⟩, h2.stay h.tp (fun vs q => e _ (by simp [Ft.l]) _ q) (tpAE _), ⟨us, e _ (by simp [Ft.l]) _ h3, Paired.mapP h4 fun a b q => ⟨q.1, dp_tp h.tp _ _ (tp_row _) q.2⟩⟩, e _ (by simp [Ft.l]) _ h5, h6⟩
theorem SqAt.same {K : PySem.W.Frag} {C : Addr} {H H' : Hp} {z : Ft} {s : SqS} (x : SqAt K C H z s) (h : Same H H') : SqAt K C H' z s := x.stay (Ks.same h) fun _ _ _ e => h _ _ e
theorem getI_tk {tk : List Nat} {n : Nat} (h : n < tk.length) : getI (tkl tk) n = some (tk.getD n 0) := by
  have key : ∀ (xs : List Nat) (f : Nat → Nat), n ∈ xs → getI (xs.map fun i => (i, f i)) n = some (f n) := by
    intro xs f
    induction xs with
    | nil => exact fun z => nomatch z
    | cons x xs ih =>
      intro z
      rw [List.map_cons, getI_cons]
      by_cases e : x = n
      · subst e; rw [if_pos rfl]
      · rw [if_neg e]
        exact ih ((List.mem_cons.mp z).elim (fun q => absurd q.symm e) id)
  exact key _ (fun i => tk.getD i 0) (List.mem_range.mpr h)
theorem tkl_keys (tk : List Nat) : (tkl tk).map (·.1) = List.range tk.length := by unfold tkl; rw [List.map_map]; exact List.map_id _
structure TxS (K : PySem.W.Frag) (mg : PySem.Str → Option Value) (CS : Addr) : Prop where
  cl : Cls K CS
  nEp : NoAttr K CS "epoch"
  nMa : NoAttr K CS "many"
  nSt : NoAttr K CS "stand"
  nRow : NoAttr K CS "row"
  nRs : NoAttr K CS "rows"
  nTk : NoAttr K CS "taken"
  len : mg "len" = none
  tuple : mg "tuple" = none
  list : mg "list" = none
  range : mg "range" = none
  sorted : mg "sorted" = none
  max : mg "max" = none
def spMost : Sp := fun vs H Q _ => ∃ n : Nat, vs = [.int n] ∧ Q (.int (most n : Nat)) H
def spSqI (K : PySem.W.Frag) (C : Addr) : Sp := fun vs H Q _ => ∃ (p dx : Addr) (e : Int) (many : Nat), vs = [.ref p, .int e, .int many] ∧ H p = some (.ins C dx []) ∧ many ≤ 1000 ∧
  ∀ (z : Ft) (H' : Hp), z.a = p → SqAt K C H' z (SqS.new e many) → H z.r = none → H z.d = none → H z.t = none → Kp [p] H H' → Ks H H' → Q .non H'
/-- a sequencer that is read, its table of takes locked or not -/
def SqRd (K : PySem.W.Frag) (C : Addr) (H : Hp) (z : Ft) (s : SqS) : Prop := (∃ dx, H z.a = some (.ins C dx (SqF s z))) ∧ LD K H z.r (s.row.map En.d) ∧ Rd H z.t (.dK (kvI vN (tkl s.tk)))
def spWrite (K : PySem.W.Frag) (C : Addr) : Sp := fun vs H Q _ => ∃ (z : Ft) (s : SqS) (n : Nat), vs = [.ref z.a, .int n] ∧ SqRd K C H z s ∧ n < s.tk.length ∧ s.tk.getD n 0 < s.row.length ∧
  ∀ (t : Addr) (H' : Hp), H t = none → Same H H' → Dp K H' (.ref t) (s.writeTo n).d → Q (.ref t) H'
def spSend (K : PySem.W.Frag) (C : Addr) : Sp := fun vs H Q _ => ∃ (z : Ft) (s : SqS) (B many : Nat), vs = [.ref z.a] ∧ SqAt K C H z s ∧ SOk B many s ∧ many ≤ 1000 ∧ B ≤ 90000 ∧
  ∀ (t : Addr) (H' : Hp), H t = none → Same H H' → TD K H' t (s.toSend.map Ltr.d) → Q (.ref t) H'
def spSettled (K : PySem.W.Frag) (C : Addr) : Sp := fun vs H Q _ => ∃ (z : Ft) (s : SqS) (B many : Nat), vs = [.ref z.a] ∧ SqAt K C H z s ∧ SOk B many s ∧ many ≤ 60 ∧ B ≤ 90000 ∧
  ∀ (t : Addr) (H' : Hp), H t = none → Same H H' → TD K H' t (s.settled.map En.d) → Q (.ref t) H'
section
variable {P : Program} {w : World} {K : PySem.W.Frag} {mg : PySem.Str → Option Value} {base : Heap} {CS : Addr}
theorem scMost : FnScope ["many"] ["many"] (defScope sMostOf) := ⟨rfl, rfl, rfl, by decide +kernel, rfl, by decide +kernel, by decide +kernel⟩
theorem ok_most {f : Addr} {fd : FuncData} (F : Fun K "most_of" "most_of" sMostOf f fd) : FnOk P w K mg base CX0 1 f fd ["many"] spMost := by
  refine F.ok scMost (fun vs H Q E h => ?_) (fun cdv A outer s H vs Q E hr h => ?_)
  · obtain ⟨n, rfl, _⟩ := h
    rfl
  · obtain ⟨n, rfl, q⟩ := h
    refine ⟨_, (pss_one (ps_ret (pe_op op_add (pe_op op_fdiv (pv 0) pe_int) pe_int))), ?_⟩
    refine ⟨_, rfl, _, _, rfl, rfl, ⟨by decide, by decide⟩, _, _, rfl, rfl, ?_⟩
    have e : (n : Int) / 2 + 1 = ((most n : Nat) : Int) := by
      unfold most
      omega
    show Q (.int ((n : Int) / 2 + 1)) H
    rw [e]
    exact q
theorem scSqI : FnScope ["self", "epoch", "many", "number"] ["self", "epoch", "many"] (defScope sSqI) := ⟨rfl, rfl, rfl, by decide +kernel, rfl, by decide +kernel, by decide +kernel⟩
theorem ok_sqi {f : Addr} {fd : FuncData} (F : Fun K "__init__" "Sequencer.__init__" sSqI f fd) (T : TxS K mg CS) : FnOk P w K mg base CX0 1 f fd ["self", "epoch", "many"] (spSqI K CS) := by
  refine F.ok scSqI (fun vs H Q E h => ?_) (fun cdv A outer s H vs Q E hr h => ?_)
  · obtain ⟨p, dx, e, many, rfl, _⟩ := h
    rfl
  · obtain ⟨p, dx, e, many, rfl, hp, hm, k⟩ := h
    refine ⟨_, (pss_cons (ps_fld (pv 0) (pv 1) rfl)
      (pss_cons (ps_fld (pv 0) (pv 2) rfl)
      (pss_cons (ps_fld (pv 0) pe_str rfl)
      (pss_cons (ps_fld (pv 0) (pe_lst pa_nil) rfl)
      (pss_cons (ps_fld (pv 0) pe_dnewK rfl)
      (pss_one (ps_fld (pv 0) (pe_dc (own := [("number", 3)]) (g := gName 3) (tt := tYes) rfl scSqI.nd (pi_range1 (by rfl) T.range (pa_cons (pv 2) pa_nil)) (blkOk_by (own := [("number", 3)]) (N := ["self", "epoch", "many", "number"]) (sc := defScope sSqI) (by decide +kernel)) (fun _ _ _ _ _ => pg_name (i := 3) scSqI.nd rfl (Or.inl rfl)) (fun _ _ _ _ _ => pts_nil) (fun _ _ _ _ _ => (pv 3)) (fun _ _ _ _ _ => pe_int)) rfl))))))), ?_⟩
    refine ⟨_, rfl, _, rfl, p, CS, dx, [], rfl, hp, T.cl, T.nEp, (by show 0 < 1000; decide), ?_⟩
    refine ⟨_, rfl, _, rfl, p, CS, dx, _, rfl, upd_same, T.cl, T.nMa, (by show 1 < 1000; decide), ?_⟩
    refine ⟨_, rfl, p, CS, dx, _, rfl, upd_same, T.cl, T.nSt, (by show 2 < 1000; decide), ?_⟩
    have k1 : ∀ {o1 o2 : HO}, Kp [p] H (upd (upd H p o1) p o2) := (Kp.at (by simp)).trans (Kp.at (by simp))
    have t1 : Ks H (upd H p (.ins CS dx [("epoch", .int e)])) := Ks.ins hp
    generalize e3 : upd (upd (upd H p _) p _) p _ = H3
    have h3 : H3 p = some (.ins CS dx [("epoch", .int e), ("many", .int many), ("stand", .str "asking")]) := by rw [← e3]; exact upd_same
    have k3 : Kp [p] H H3 := by rw [← e3]; exact ((Kp.at (by simp)).trans (Kp.at (by simp))).trans (Kp.at (by simp))
    have t3 : Ks H H3 := by rw [← e3]; exact (t1.trans (Ks.ins upd_same)).trans (Ks.ins upd_same)
    have n3 : ∀ b, b ≠ p → H3 b = none → H b = none := fun b nb z => by rw [← e3, upd_ne nb, upd_ne nb, upd_ne nb] at z; exact z
    clear e3 t1 k1
    refine ⟨Nat.zero_le _, fun L hL => ?_⟩
    have npL : p ≠ L := ne_of_none h3 hL
    have hL0 := n3 L npL.symm hL
    refine ⟨_, rfl, p, CS, dx, _, rfl, (by rw [upd_ne npL]; exact h3), T.cl, T.nRow, (by show 3 < 1000; decide), ?_⟩
    generalize e4 : upd (upd H3 L _) p _ = H4
    have h4 : H4 p = some (.ins CS dx [("epoch", .int e), ("many", .int many), ("stand", .str "asking"), ("row", .ref L)]) := by rw [← e4]; exact upd_same
    have l4 : H4 L = some (.lst []) := by rw [← e4, upd_ne npL.symm]; exact upd_same
    have k4 : Kp [p] H3 H4 := by rw [← e4]; exact (Kp.same (Same.new hL)).trans (Kp.at (by simp))
    have t4 : Ks H3 H4 := by rw [← e4]; exact (Ks.new hL).trans (Ks.ins (by rw [upd_ne npL]; exact h3))
    have n4 : ∀ b, b ≠ p → H4 b = none → H3 b = none := fun b nb z => by
      rw [← e4, upd_ne nb] at z
      by_cases c : b = L
      · subst c; exact hL
      · rw [upd_ne c] at z; exact z
    clear e4
    intro D hD
    have npD : p ≠ D := ne_of_none h4 hD
    have nLD : L ≠ D := ne_of_none l4 hD
    have hD0 := n3 D npD.symm (n4 D npD.symm hD)
    refine ⟨_, rfl, p, CS, dx, _, rfl, (by rw [upd_ne npD]; exact h4), T.cl, T.nRs, (by show 4 < 1000; decide), ?_⟩
    generalize e5 : upd (upd H4 D _) p _ = H5
    have h5 : H5 p = some (.ins CS dx [("epoch", .int e), ("many", .int many), ("stand", .str "asking"), ("row", .ref L), ("rows", .ref D)]) := by rw [← e5]; exact upd_same
    have l5 : H5 L = some (.lst []) := by rw [← e5, upd_ne npL.symm, upd_ne nLD]; exact l4
    have d5 : H5 D = some (.dK []) := by rw [← e5, upd_ne npD.symm]; exact upd_same
    have k5 : Kp [p] H4 H5 := by rw [← e5]; exact (Kp.same (Same.new hD)).trans (Kp.at (by simp))
    have t5 : Ks H4 H5 := by rw [← e5]; exact (Ks.new hD).trans (Ks.ins (by rw [upd_ne npD]; exact h4))
    have n5 : ∀ b, b ≠ p → H5 b = none → H4 b = none := fun b nb z => by
      rw [← e5, upd_ne nb] at z
      by_cases c : b = D
      · subst c; exact hD
      · rw [upd_ne c] at z; exact z
    clear e5
    have hi : EvI (iRng1 (tCons (tVar 2) tNil)) (start ["self", "epoch", "many", "number"] [.ref p, .int e, .int many]) H5 ((List.range many).map fun i : Nat => V.int (i : Int)) := by
      have := ei_r1 (ta := tCons (tVar 2) tNil) (σ := start ["self", "epoch", "many", "number"] [.ref p, .int e, .int many]) (H := H5) (n := (many : Int)) (ea_cons (ev_var rfl) ea_nil) (by omega) (by omega)
      rwa [Int.toNat_natCast] at this
    dsimp only
    refine ed_I (j := 3) (vs := [3]) (g := vN) (fun _ => 0) List.nodup_range hi (by rw [List.length_range]; omega) (fun i y _ H' _ => ev_c) (fun _ => rfl) (fun _ => rfl) H5 (Ex.refl _) _ fun t H6 ht x6 ht6 => ?_
    have npt : p ≠ t := ne_of_none h5 ht
    have ht0 := n3 t npt.symm (n4 t npt.symm (n5 t npt.symm ht))
    refine ⟨_, rfl, p, CS, dx, _, rfl, x6 _ _ h5, T.cl, T.nTk, (by show 5 < 1000; decide), ?_⟩
    have k6 := Ks.ins (o' := .ins CS dx (putF "taken" (.ref t) [("epoch", .int e), ("many", .int many), ("stand", .str "asking"), ("row", .ref L), ("rows", .ref D)])) (x6 _ _ h5)
    refine k ⟨p, L, D, t⟩ _ rfl ⟨⟨dx, upd_same⟩, ⟨[], by rw [upd_ne npL.symm]; exact x6 _ _ l5, .nil⟩, ⟨[], by rw [upd_ne npD.symm]; exact x6 _ _ d5, .nil⟩, ?_, ?_⟩ hL0 hD0 ht0 ((((k3.trans k4).trans k5).trans (Kp.same x6)).trans (Kp.at (by simp))) ((((t3.trans t4).trans t5).trans (Ks.same x6)).trans k6)
    · show upd H6 p _ t = some (.dK (kvI vN (tkl (List.replicate many 0))))
      have ek : tkl (List.replicate many 0) = (List.range many).map fun y => (y, 0) := by
        unfold tkl
        rw [List.length_replicate]
        refine List.map_congr_left fun i hi => ?_
        have := List.mem_range.mp hi
        rw [List.getD_eq_getElem?_getD, List.getElem?_replicate, if_pos this]
        rfl
      rw [upd_ne npt.symm, ht6, ek]
    · show D ≠ t
      exact ne_of_none d5 ht
theorem scWrite : FnScope ["self", "number", "place"] ["self", "number"] (defScope sSqWrite) := ⟨rfl, rfl, rfl, by decide +kernel, rfl, by decide +kernel, by decide +kernel⟩
theorem ok_write {f : Addr} {fd : FuncData} (F : Fun K "write_to" "Sequencer.write_to" sSqWrite f fd) (T : TxS K mg CS) : FnOk P w K mg base CX0 1 f fd ["self", "number"] (spWrite K CS) := by
  refine F.ok scWrite (fun vs H Q E h => ?_) (fun cdv A outer s H vs Q E hr h => ?_)
  · obtain ⟨z, s, n, rfl, _⟩ := h
    rfl
  · obtain ⟨z, sq, n, rfl, ⟨⟨dx, h1⟩, ⟨us, h2, hP⟩, h3⟩, hn, hl, k⟩ := h
    have hu := hu_of hr
    refine ⟨_, (pss_cons (ps_set (i := 2) scWrite.nd rfl (Or.inl rfl) (pe_dget hu (pe_fld (pv 0) rfl) (pv 1) (fun _ _ => rfl)))
      (pss_one (ps_ret (pe_tup (pa_cons pe_str (pa_cons (pe_fld (pv 0) rfl) (pa_cons (pv 1) (pa_cons (pv 2) (pa_cons (pe_ix ix_list (pe_fld (pv 0) rfl) (pv 2) (fun _ _ => rfl)) pa_nil))))))))), ?_⟩
    refine ⟨_, rfl, z.a, CS, dx, _, _, rfl, h1, T.cl, T.nTk, rfl, _, rfl, z.t, vN (sq.tk.getD n 0), rfl, ?_, ?_⟩
    · have := dgetI (k := n) h3
      rw [getI_tk hn] at this
      exact this
    have hv : ∃ v, us[sq.tk.getD n 0]? = some v ∧ Dp K H v (sq.row.getD (sq.tk.getD n 0) (.int 0)).d := by
      refine dpA_at' hP ?_
      rw [List.getElem?_map, List.getD_eq_getElem?_getD (l := sq.row), List.getElem?_eq_getElem hl]; rfl
    obtain ⟨v, hv, dv⟩ := hv
    refine ⟨_, rfl, z.a, CS, dx, _, _, rfl, h1, T.cl, T.nEp, rfl, _, rfl, _, rfl, _, rfl, z.a, CS, dx, _, _, rfl, h1, T.cl, T.nRow, rfl, _, rfl, z.r, _, _, _, rfl, rfl, SqL.of h2, atN (j := sq.tk.getD n 0) rfl hv, (by show 5 ≤ sizeLine; decide), fun t ht => ?_⟩
    exact k t _ ht (Same.new ht) (.tup (SqT.of upd_same) (.cons (.str _) (.cons (.int _) (.cons (.int _) (.cons (.int _) (.cons (dp_tp (Tp.new ht) _ _ (tp_en _) dv) .nil))))))
end
end Mc.Cn
namespace Mc.Cn
open PySem L2 PySem.Spec PyProof.Rows Evl
/-! Sequencer.to_send, settled -/
section
variable {P : Program} {w : World} {K : PySem.W.Frag} {mg : PySem.Str → Option Value} {base : Heap} {CS : Addr}
theorem scSend : FnScope ["self", "number"] ["self"] (defScope sSqSend) := ⟨rfl, rfl, rfl, by decide +kernel, rfl, by decide +kernel, by decide +kernel⟩
theorem tk_vals (tk : List Nat) : (tkl tk).map (fun x => V.int (x.1 : Int)) = (List.range tk.length).map fun i : Nat => V.int (i : Int) := by
  unfold tkl
  rw [List.map_map]
  rfl
theorem rd_lock {H : Hp} {a : Addr} {od : Obj} {kvs : List (L2.Key × V)} : Rd (upd H a (.frz od (.dK kvs))) a (.dK kvs) := .inr ⟨od, upd_same⟩
theorem prd_keys {H : Hp} : ∀ {us : List (Nat × V)} {rs : List (Nat × Row)}, Paired (fun u q => u.1 = q.1 ∧ Dp K H u.2 (rowD q.2)) us rs → us.map (·.1) = rs.map (·.1)
  | _, _, .nil => rfl
  | _, _, .cons a b => by rw [List.map_cons, List.map_cons, a.1, prd_keys b]
theorem ok_send {f : Addr} {fd : FuncData} (F : Fun K "to_send" "Sequencer.to_send" sSqSend f fd) (T : TxS K mg CS) (c_Sequencer_write_to : CalM P w K mg base CS 1 "write_to" ["self", "number"] (spWrite K CS)) : FnOk P w K mg base CX0 2 f fd ["self"] (spSend K CS) := by
  refine F.ok scSend (fun vs H Q E h => ?_) (fun cdv A outer s H vs Q E hr h => ?_)
  · obtain ⟨z, s, B, many, rfl, _⟩ := h
    rfl
  · obtain ⟨z, sq, B, many, rfl, SA, ok, hm, hB, k⟩ := h
    have hu := hu_of hr
    refine ⟨_, (pss_cons (ps_if (pt_cmpR op_eq (pe_fld (pv 0) rfl) pe_str (nomark _))
        (pss_one (ps_ret (pe_tupleOf (by rfl) T.tuple (pe_lock (pe_lc (own := [("number", 1)]) (g := gName 1) rfl scSend.nd (pi_keys (pe_fld (pv 0) rfl)) (blkOk_by (own := [("number", 1)]) (N := ["self", "number"]) (sc := defScope sSqSend) (by decide +kernel)) (fun _ _ _ _ _ => pg_name (i := 1) scSend.nd rfl (Or.inl rfl)) (fun _ _ _ _ _ => pts_one (pt_cmp (pc_dnotin hu (pv 1) (pe_fldK (K := K) rfl (pv 0) rfl)))) (fun _ _ _ _ _ => (pe_tup (pa_cons pe_str (pa_cons (pe_fldK (K := K) rfl (pv 0) rfl) (pa_cons (pv 1) pa_nil))))))))))
        pss_nil)
      (pss_cons (ps_if (pt_cmpR op_eq (pe_fld (pv 0) rfl) pe_str (nomark _))
        (pss_one (ps_ret (pe_tupleOf (by rfl) T.tuple (pe_lock (pe_lc (own := [("number", 1)]) (g := gName 1) rfl scSend.nd (pi_keys (pe_fld (pv 0) rfl)) (blkOk_by (own := [("number", 1)]) (N := ["self", "number"]) (sc := defScope sSqSend) (by decide +kernel)) (fun _ _ _ _ _ => pg_name (i := 1) scSend.nd rfl (Or.inl rfl)) (fun _ _ _ _ _ => pts_one (pt_cmpR op_lt (pe_dget hu (pe_fldK (K := K) rfl (pv 0) rfl) (pv 1) (fun _ _ => rfl)) (pe_callB (call_len_seqK (K := K) rfl) (by rfl) T.len PySem.boot_len (pa_cons (pe_fldK (K := K) rfl (pv 0) rfl) pa_nil)) (nomark _))) (fun _ _ _ _ _ => (pe_calM (pv 0) T.cl c_Sequencer_write_to (hr.mono (by decide)) (pa_cons (pv 1) pa_nil))))))))
        pss_nil)
      (pss_one (ps_ret (pe_tup pa_nil))))), ?_⟩
    obtain ⟨⟨dx, h1⟩, ⟨es, h2, hE⟩, ⟨us, h3, hU⟩, h4, h5⟩ := id SA
    have nat : z.a ≠ z.t := ne_of h1 h4 (by intro e; cases e)
    have nrt : z.r ≠ z.t := ne_of h2 h4 (by intro e; cases e)
    have et : (sq.tk.length) = sq.many := by rw [ok.tk, ok.mny]
    have hsm : sq.many ≤ 1000 := by rw [ok.mny]; exact hm
    refine ⟨_, rfl, z.a, CS, dx, _, _, rfl, h1, T.cl, T.nSt, rfl, rfl, _, rfl, ?_⟩
    have evs : ∀ {f : PySem.Str} {v : V} {σ : L2.St} {H' : Hp} {od : Obj}, σ[0]? = some (some (.ref z.a)) → NoAttr K CS f → (SqF sq z).lookup f = some v → Ex (upd H z.t (.frz od (.dK (kvI vN (tkl sq.tk))))) H' → Ev (tFld K (tVar 0) f) σ H' v := fun {f v σ H' od} h0 na hl x H1 e1 Q q =>
      ⟨_, h0, z.a, CS, dx, _, _, rfl, e1 _ _ (x _ _ (by rw [upd_ne nat]; exact h1)), T.cl, na, hl, q H1 (Ex.refl _)⟩
    cases e : sq.st with
    | asking =>
      refine ite2 (fun _ => ?_) (fun h => absurd (decide_eq_true rfl) h)
      have hs : sq.toSend = ((List.range sq.many).filter fun n => !decide (n ∈ sq.rows.map (·.1))).map (Ltr.ask sq.ep) := by unfold SqS.toSend; rw [e]
      refine etd_tup (ds := sq.toSend.map Ltr.d) ?_ (tpAL _) H (Ex.refl _) _ fun t H1 ht x1 td => k t H1 ht x1 td
      refine eld_lock (tpAL _) h4 fun od => ?_
      rw [hs, List.map_map]
      have hi := ei_kI (tl := tFld K (tVar 0) "taken") (σ := start ["self", "number"] [.ref z.a]) (H := upd H z.t (.frz od (.dK (kvI vN (tkl sq.tk))))) (evs (od := od) rfl T.nTk rfl (Ex.refl _)) upd_same
      rw [tk_vals, et] at hi
      refine eld_lc (j := 1) (vs := [1]) _ (Ltr.d ∘ Ltr.ask sq.ep) (fun y => tp_ltr _) hi (by rw [List.length_range]; omega) (fun i y hy H' x => ?_) (fun i y hy hp H' x => ?_) (fun _ => rfl)
      · have ek := prd_keys hU
        have ed : upd H z.t (.frz od (.dK (kvI vN (tkl sq.tk)))) z.d = some (.dK (kvI id us)) := by rw [upd_ne h5]; exact h3
        have := ev_dnotinI (k := y) (ty := tVar 1) (td := tFld K (tVar 0) "rows") (σ := (wipe (start ["self", "number"] [.ref z.a]) [1]).set 1 (some (.int (y : Nat)))) (ev_var rfl) (evs rfl T.nRs rfl x) (.inl (x _ _ ed))
        rw [ek] at this
        exact et_B this
      · have := eu_tup (ea_cons (ev_c (v := .str "ask")) (ea_cons (evs (σ := (wipe (start ["self", "number"] [.ref z.a]) [1]).set 1 (some (.int (y : Nat)))) rfl T.nEp rfl x) (ea_cons (ev_var (i := 1) rfl) ea_nil))) (by show 3 ≤ 100000; decide)
        refine fun H1 e1 Q q => this H1 e1 _ fun p H2 hp x2 h2 => q _ H2 x2 ?_
        exact .tup (SqT.of h2) (.cons (.str _) (.cons (.int _) (.cons (.int _) .nil)))
    | leading =>
      refine ite2 (fun h => absurd (of_decide_eq_true h) (by show ¬ (V.str "leading" = V.str "asking"); decide)) (fun _ => ?_)
      refine ⟨_, rfl, z.a, CS, dx, _, _, rfl, h1, T.cl, T.nSt, rfl, ?_, _, rfl, ?_⟩
      · exact rfl
      rw [e]
      refine ite2 (fun _ => ?_) (fun h => absurd (decide_eq_true rfl) h)
      have hs : sq.toSend = ((List.range sq.many).filter fun n => decide (sq.tk.getD n 0 < sq.row.length)).map sq.writeTo := by unfold SqS.toSend; rw [e]
      refine etd_tup (ds := sq.toSend.map Ltr.d) ?_ (tpAL _) H (Ex.refl _) _ fun t H1 ht x1 td => k t H1 ht x1 td
      refine eld_lock (tpAL _) h4 fun od => ?_
      rw [hs, List.map_map]
      have hi := ei_kI (tl := tFld K (tVar 0) "taken") (σ := start ["self", "number"] [.ref z.a]) (H := upd H z.t (.frz od (.dK (kvI vN (tkl sq.tk))))) (evs (od := od) rfl T.nTk rfl (Ex.refl _)) upd_same
      rw [tk_vals, et] at hi
      have er : upd H z.t (.frz od (.dK (kvI vN (tkl sq.tk)))) z.r = some (.lst es) := by rw [upd_ne nrt]; exact h2
      refine eld_lc (j := 1) (vs := [1]) _ (Ltr.d ∘ sq.writeTo) (fun y => tp_ltr _) hi (by rw [List.length_range]; omega) (fun i y hy H' x => ?_) (fun i y hy hp H' x => ?_) (fun _ => rfl)
      · have hy' : y < sq.tk.length := by rw [et]; exact List.mem_range.mp (List.mem_of_getElem? hy)
        have d1 := ev_dgetI (f := vN) (k := y) (td := tFld K (tVar 0) "taken") (ty := tVar 1) (σ := (wipe (start ["self", "number"] [.ref z.a]) [1]).set 1 (some (.int (y : Nat)))) (evs rfl T.nTk rfl x) (ev_var rfl) (ex_rd x rd_lock) (getI_tk hy')
        have d2 := ev_len (K := K) (evs (σ := (wipe (start ["self", "number"] [.ref z.a]) [1]).set 1 (some (.int (y : Nat)))) rfl T.nRow rfl x) (SqL.of (x _ _ er))
        have el : es.length = sq.row.length := by rw [dpA_len hE, List.length_map]
        rw [el] at d2
        have := et_test (ev_op d1 d2 (rv_I0 (g := fun i j => V.bl (decide (i < j)))))
        have eq : decide (((sq.tk.getD y 0 : Nat) : Int) < ((sq.row.length : Nat) : Int)) = decide (sq.tk.getD y 0 < sq.row.length) := decide_eq_decide.mpr (by omega)
        rw [eq] at this
        exact this
      · have hy' : y < sq.tk.length := by rw [et]; exact List.mem_range.mp (List.mem_of_getElem? hy)
        refine fun H1 e1 Q q => ?_
        refine ⟨_, rfl, z.a, dx, _, rfl, e1 _ _ (x _ _ (by rw [upd_ne nat]; exact h1)), rfl, _, rfl, z, sq, y, rfl, ⟨⟨dx, e1 _ _ (x _ _ (by rw [upd_ne nat]; exact h1))⟩, ⟨es, e1 _ _ (x _ _ er), ?_⟩, ex_rd (x.trans e1) rd_lock⟩, hy', of_decide_eq_true hp, fun t H2 ht s2 d2 => q _ H2 s2 d2⟩
        have s0 : Ks (upd H z.t (.frz od (.dK (kvI vN (tkl sq.tk))))) H1 := Ks.same (x.trans e1)
        exact dpA_tp ((Tp.dK h4).trans s0.tp) _ _ (tpAE _) hE
    | stopped =>
      refine ite2 (fun h => absurd (of_decide_eq_true h) (by show ¬ (V.str "stopped" = V.str "asking"); decide)) (fun _ => ?_)
      refine ⟨_, rfl, z.a, CS, dx, _, _, rfl, h1, T.cl, T.nSt, rfl, ?_, _, rfl, ?_⟩
      · exact rfl
      rw [e]
      refine ite2 (fun h => absurd (of_decide_eq_true h) (by show ¬ (V.str "stopped" = V.str "leading"); decide)) (fun _ => ?_)
      have hs : sq.toSend = [] := by unfold SqS.toSend; rw [e]
      refine ⟨Nat.zero_le _, fun t ht => k t _ ht (Same.new ht) ?_⟩
      rw [hs]
      exact ⟨[], upd_same, .nil⟩
theorem scSettled : FnScope ["self", "counts"] ["self"] (defScope sSqSettled) := ⟨rfl, rfl, rfl, by decide +kernel, rfl, by decide +kernel, by decide +kernel⟩
theorem desc_perm (xs : List Nat) : (desc xs).Perm xs := List.mergeSort_perm _ _
theorem desc_srt (xs : List Nat) : (desc xs).Pairwise (· ≥ ·) := (List.pairwise_mergeSort (le := fun a b => decide (b ≤ a)) (fun a b c h1 h2 => by simp at *; omega) (fun a b => by simp; omega) xs).imp fun h => by simpa using h
theorem ok_settled {f : Addr} {fd : FuncData} (F : Fun K "settled" "Sequencer.settled" sSqSettled f fd) (T : TxS K mg CS) (c_most_of : Cal P w K mg base 1 "most_of" ["many"] spMost) : FnOk P w K mg base CX0 2 f fd ["self"] (spSettled K CS) := by
  refine F.ok scSettled (fun vs H Q E h => ?_) (fun cdv A outer s H vs Q E hr h => ?_)
  · obtain ⟨z, s, B, many, rfl, _⟩ := h
    rfl
  · obtain ⟨z, sq, B, many, rfl, SA, ok, hm, hB, k⟩ := h
    refine ⟨_, (pss_cons (ps_set (i := 1) scSettled.nd rfl (Or.inl rfl) (pe_callBK cr_sortRev (by rfl) T.sorted boot_sorted (pa_cons (pe_listVals rfl (pe_fld (pv 0) rfl) (by rfl) T.list) pa_nil) (pk_cons pe_bl pk_nil)))
      (pss_one (ps_ret (pe_tupleOf (by rfl) T.tuple (pe_slice sl_list (pe_fld (pv 0) rfl) po_none (po_some (pe_ix ix_list (pv 1) (pe_op op_sub (pe_cal c_most_of (hr.mono (by decide)) rfl (pa_cons (pe_fld (pv 0) rfl) pa_nil)) pe_int) (fun _ _ => rfl)))))))), ?_⟩
    obtain ⟨⟨dx, h1⟩, ⟨es, h2, hE⟩, ⟨us, h3, hU⟩, h4, h5⟩ := id SA
    have et : sq.tk.length = many := ok.tk
    have ev0 : EvL (tListVals (tFld K (tVar 0) "taken")) (start ["self", "counts"] [.ref z.a]) H ((sq.tk.map fun n : Nat => (n : Int)).map V.int) := by
      have := el_vals (te := tFld K (tVar 0) "taken") (σ := start ["self", "counts"] [.ref z.a]) (ev_fld (ev_var (v := .ref z.a) rfl) h1 T.cl T.nTk rfl) (Rd.of h4)
      have e : (kvI vN (tkl sq.tk)).map Prod.snd = (sq.tk.map fun n : Nat => (n : Int)).map V.int := by
        unfold kvI tkl
        rw [List.map_map, List.map_map, List.map_map]
        refine List.ext_getElem? fun i => ?_
        rw [List.getElem?_map, List.getElem?_map]
        by_cases c : i < sq.tk.length
        · rw [List.getElem?_range c, List.getElem?_eq_getElem c]
          show some (V.int (sq.tk.getD i 0 : Nat)) = some (V.int (sq.tk[i] : Nat))
          rw [List.getD_eq_getElem?_getD, List.getElem?_eq_getElem c]; rfl
        · rw [List.getElem?_eq_none (by rw [List.length_range]; omega), List.getElem?_eq_none (by omega)]; rfl
      rwa [e] at this
    have ev1 := el_srtR (K := K) (zs := (desc sq.tk).map fun n : Nat => (n : Int)) ev0 (by rw [List.length_map]; omega) ((desc_perm _).map _) (List.pairwise_map.mpr ((desc_srt sq.tk).imp fun h => Int.ofNat_le.mpr h))
    refine q_asgL ev1 fun p H1 hp x1 hp1 => ?_
    have hmost : most sq.many - 1 < (desc sq.tk).length := by
      rw [(desc_perm _).length_eq, et, ok.mny]
      have := ok.pos
      unfold most
      omega
    have evm : Ev (tCall spMost [] E0 (tCons (tFld K (tVar 0) "many") tNil)) ((start ["self", "counts"] [.ref z.a]).set 1 (some (.ref p))) H1 (.int (most sq.many : Nat)) := ev_call (vs := [.int sq.many]) (ea_cons (ev_fld (ev_var (v := .ref z.a) rfl) (x1 _ _ h1) T.cl T.nMa rfl) ea_nil) fun H2 x2 Q q _ => ⟨sq.many, rfl, q H2 (Ex.refl _)⟩
    have evi : Ev (tOp (rIxL K) (tVar 1) (tOp (rI0 fun i j => V.int (i - j)) (tCall spMost [] E0 (tCons (tFld K (tVar 0) "many") tNil)) (tC (.int 1)))) ((start ["self", "counts"] [.ref z.a]).set 1 (some (.ref p))) H1 (.int (sq.cnt : Nat)) := by
      refine ev_op (ev_var rfl) (ev_op evm ev_c rv_I0) (rv_ixL (SqL.of hp1) (atN (j := most sq.many - 1) (by unfold most; omega) ?_))
      rw [List.getElem?_map, List.getElem?_map, List.getElem?_eq_getElem hmost]
      show some (V.int (((desc sq.tk)[most sq.many - 1] : Nat) : Int)) = some (V.int (((desc sq.tk).getD (most sq.many - 1) 0 : Nat) : Int))
      rw [List.getD_eq_getElem?_getD, List.getElem?_eq_getElem hmost]; rfl
    have evs := eu_tupN (K := K) (el_sl (K := K) (ev_fld (ev_var (i := 0) (v := .ref z.a) rfl) (x1 _ _ h1) T.cl T.nRow rfl) eo_none (eo_some evi) (SqL.of (x1 _ _ h2)))
    rw [cutN] at evs
    refine s_retU evs fun t H2 ht x2 ht2 => k t H2 (fresh_back x1 ht) (x1.trans x2) ⟨_, ht2, ?_⟩
    show DpAll K H2 _ ((sq.row.take sq.cnt).map En.d)
    rw [List.map_take]
    exact dpA_take _ (dpA_tp (Tp.same (x1.trans x2)) _ _ (tpAE _) hE)
end
end Mc.Cn
namespace Mc
open PySem L2 PySem.Spec PyProof.Rows LamX NdefX
/-! ### lambdas with parameters: made, kept as objects with a name, called -/
/-- the object at f is the lambda F with that body (F.body is not looked at) -/
def LmO (f : Addr) (F : NF) (bd : Expr) : HO := .ext fun h => ∃ (pm ctv : Value), h.get? f = some (PySem.W.kla_obj "<lambda>" F.qual F.params bd F.scope F.cl pm F.c ctv)
theorem lmO_ne {f : Addr} {F : NF} {bd : Expr} (ps : Array Value) : LmO f F bd ≠ .tbl ps := fun z => by
  unfold LmO at z
  cases z
theorem lmO_at {P : Program} {w : World} {H : Hp} {h : Heap} {f : Addr} {F : NF} {bd : Expr} (hok : HOk P w H h) (e : H f = some (LmO f F bd)) : ∃ (pm ctv : Value), h.get? f = some (PySem.W.kla_obj "<lambda>" F.qual F.params bd F.scope F.cl pm F.c ctv) := by
  obtain ⟨z, _, _⟩ := hok f _ e
  exact z
section
variable {X : Cx} {pins : List (Addr × Obj)} {σ : L2.St} {H : Hp} {s : Shared}
theorem inv_lm {F : NF} {bd : Expr} {t' : Nat} {pm ctv : Value} (I : Inv X pins σ H s) :
    Inv X pins σ (upd H s.heap.objs.size (LmO s.heap.objs.size F bd)) { s with heap := s.heap.push (PySem.W.kla_obj "<lambda>" F.qual F.params bd F.scope F.cl pm F.c ctv), toks := t' } := by
  refine I.laid (a := s.heap.objs.size) (fun b u e => Heap.get?_push_of_some _ e) (Nat.le_refl _) ?_
  have e : (s.heap.push (PySem.W.kla_obj "<lambda>" F.qual F.params bd F.scope F.cl pm F.c ctv)).get? s.heap.objs.size = some (PySem.W.kla_obj "<lambda>" F.qual F.params bd F.scope F.cl pm F.c ctv) := Heap.get?_push_size _ rfl
  exact ⟨⟨pm, ctv, e⟩, ⟨_, e⟩, fun h1 h2 ⟨p, t, z⟩ st => ⟨p, t, st _ z⟩⟩
/-- the lambda of X's def over that scope, its code object at c -/
abbrev lamF (X : Cx) (params : Arguments) (scope : Scope) (c : Addr) : NF := ⟨"<lambda>", X.env.qual ++ "<lambda>", params, [], scope, cloFrom X.env.cells scope.names [], c⟩
theorem lam_mk {T : List NTab} {nm : Nat → Nat → PySem.Str} {c P : Addr} {params : Arguments} {bd : Expr} {scope : Scope} {pos : Pos} {E : Value → Shared → Prop} {Q : Value → Shared → Prop} (I : Inv X pins σ H s) (TB : TabB X.base X.mg c P) (hcode : X.env.code = .ref c)
    (hm : (P, nm) ∈ T) (hn : nm pos.line pos.col = X.env.qual ++ "<lambda>") (hu : ∀ p ∈ T, p.1 = P → p.2 = nm) (hT : TabsN T H) (hdef : defaultsOf params X.env = ([], [])) (hfree : ∀ y ∈ scope.names, y.2 = .free → ∃ c, X.env.cells.lookup y.1 = some c)
    (h : ∀ (f c' : Addr) (H1 : Hp) (s' : Shared), Inv X pins σ H1 s' → ExtN H H1 → (∀ b, H1 b = none → H b = none) → TabsN T H1 → H f = none → H1 f = some (LmO f (lamF X params scope c') bd) → H1 c' = some (CodeO c' (X.env.qual ++ "<lambda>")) → Q (.ref f) s') :
    wpAny (model X.prog X.w) X.A (eval (.Lambda params bd scope pos) X.env) Q E s := by
  obtain ⟨ps, hP, ht, ha⟩ := (show TabN H P nm from hT _ hm)
  refine PySem.W.kla_eval hdef ?_
  have bP : s.heap.BuiltinsAt X.mg P := TB.bm.keeps I.bk
  have hP' : s.heap.get? P = some { cls := .none, data := .fields ps } := I.hok P _ hP
  cases hc : codeAmong pos ps.toList with
  | none =>
    refine PySem.W.kla_makeFunction (mg := X.mg) (c := c) (P := P) (ps := ps) (closure_ok hfree) I.ok.glob (I.mod.glob.keeps I.bk) hcode (TB.code.keeps I.bk) hP' ht hc TB.gP bP fun c' ctv h' tk hx hge hlt hrec htb => ?_
    obtain ⟨c2, oc, vs, t, e2, hoc, hd, hv⟩ := hrec
    cases e2
    have nC : H c' = none := I.hok.fresh hge
    have I1 := inv_table (t' := tk) (more := #[rawInt pos.line, rawInt pos.col, .ref c']) (h' := h') I hP (fun b o hb e => hx b o hb e) htb hge ⟨oc, vs, t, hoc, hd, hv⟩
    generalize eH1 : upd (upd H P (.tbl (ps ++ #[rawInt pos.line, rawInt pos.col, .ref c']))) c' (CodeO c' (X.env.qual ++ "<lambda>")) = H1 at I1
    have hE : ExtN H H1 := fun b o e n => by
      rw [← eH1, upd_ne (ne_of_none e nC), upd_ne (fun z => n ps (Option.some.inj (e.symm.trans (by rw [z]; exact hP))))]
      exact e
    have hcc : H1 c' = some (CodeO c' (X.env.qual ++ "<lambda>")) := by rw [← eH1]; exact upd_same
    have T1 : TabsN T H1 := fun p hp => by
      by_cases hb : p.1 = P
      · rw [hu p hp hb, hb]
        refine ⟨ps ++ #[rawInt pos.line, rawInt pos.col, .ref c'], by rw [← eH1, upd_ne (ne_of_none hP nC), upd_same], ?_, fun p' cv hcv => ?_⟩
        · rw [show (ps ++ #[rawInt pos.line, rawInt pos.col, .ref c']).toList = ps.toList ++ [rawInt pos.line, rawInt pos.col, .ref c'] by simp]
          exact PySem.TriplesOk_snoc _ _ _ _ ht
        · rw [show (ps ++ #[rawInt pos.line, rawInt pos.col, .ref c']).toList = ps.toList ++ [rawInt pos.line, rawInt pos.col, .ref c'] by simp] at hcv
          rcases among_app2 _ ht hcv with z | ⟨z, z1, z2⟩
          · obtain ⟨c0, e1, e2⟩ := ha p' cv z
            exact ⟨c0, e1, hE _ _ e2 codeO_ne⟩
          · exact ⟨c', z, by rw [← z1, ← z2, hn]; exact hcc⟩
      · obtain ⟨ps', a1, a2, a3⟩ := hT p hp
        refine ⟨ps', by rw [← eH1, upd_ne (ne_of_none a1 nC), upd_ne hb]; exact a1, a2, fun p' cv hcv => ?_⟩
        obtain ⟨c0, e1, e2⟩ := a3 p' cv hcv
        exact ⟨c0, e1, hE _ _ e2 codeO_ne⟩
    have nF : H1 h'.objs.size = none := I1.hok.fresh (Nat.le_refl _)
    have I2 := inv_lm (F := lamF X params scope c') (bd := bd) (t' := tk) (pm := (X.mg "__name__").getD .none) (ctv := ctv) I1
    refine h h'.objs.size c' _ _ I2 (fun b o e n => ?_) (fun b e => ?_) (T1.ext fun b o e => ?_) (I.hok.fresh (Nat.le_trans hge (Nat.le_of_lt hlt))) upd_same ?_
    · exact (upd_ne (ne_of_none (hE b o e n) nF)).trans (hE b o e n)
    · have e1 := upd_none e
      rw [← eH1] at e1
      exact upd_none (upd_none e1)
    · exact (upd_ne (ne_of_none e nF)).trans e
    · exact (upd_ne (Nat.ne_of_lt hlt)).trans hcc
  | some cv =>
    obtain ⟨c', e, hco⟩ := ha pos cv hc
    subst e
    rw [hn] at hco
    refine PySem.W.kla_makeFunctionHit (mg := X.mg) (c := c) (P := P) (ps := ps) (closure_ok hfree) I.ok.glob (I.mod.glob.keeps I.bk) hcode (TB.code.keeps I.bk) hP' ht hc bP fun ctv h' tk hx hsz => ?_
    have I1 : Inv X pins σ H { s with heap := h', toks := tk } := I.kept hx
    have nF : H h'.objs.size = none := I1.hok.fresh (Nat.le_refl _)
    have I2 := inv_lm (F := lamF X params scope c') (bd := bd) (t' := tk) (pm := (X.mg "__name__").getD .none) (ctv := ctv) I1
    exact h h'.objs.size c' _ _ I2 (fun b o e n => (upd_ne (ne_of_none e nF)).trans e) (fun b e => upd_none e) (hT.ext fun b o e => (upd_ne (ne_of_none e nF)).trans e) nF upd_same ((upd_ne (ne_of_none hco nF)).trans hco)
end
/-- the reading of a lambda: a new object -/
def tLamP (T : List NTab) (mk : Addr → NF) (bd : Expr) : TE := fun σ H Q => TabsN T H ∧ ∀ (f c' : Addr) (H1 : Hp), ExtN H H1 → (∀ b, H1 b = none → H b = none) → TabsN T H1 → H f = none → H1 f = some (LmO f (mk c') bd) → H1 c' = some (CodeO c' (mk c').qual) → Q (.ref f) H1
section
variable {X : Cx}
theorem pe_lam {T : List NTab} {nm : Nat → Nat → PySem.Str} {c P : Addr} {params : Arguments} {bd : Expr} {scope : Scope} {pos : Pos} (TB : TabB X.base X.mg c P) (hcode : X.env.code = .ref c)
    (hm : (P, nm) ∈ T) (hn : nm pos.line pos.col = X.env.qual ++ "<lambda>") (hu : ∀ p ∈ T, p.1 = P → p.2 = nm) (hdef : defaultsOf params X.env = ([], []))
    (hfree : ∀ y ∈ scope.names, y.2 = .free → X.env.scope.names.lookup y.1 = some .cell ∨ X.env.scope.names.lookup y.1 = some .free) : PE X (.Lambda params bd scope pos) (tLamP T (lamF X params scope) bd) := by
  refine ⟨fun pins s σ H Q I h => ?_⟩
  obtain ⟨hT, q⟩ := h
  exact lam_mk I TB hcode hm hn hu hT hdef (fun y hy e => I.ok.has _ (hfree y hy e)) fun f c' H1 s' I1 h1 h2 h3 h4 h5 h6 => ⟨.ref f, H1, I1, rfl, q f c' H1 h1 h2 h3 h4 h5 h6⟩
end
/-! ### what a lambda promises -/
structure LOk (P : Program) (w : World) (K : PySem.W.Frag) (mg : PySem.Str → Option Value) (base : Heap) (CX : CXT) (k : Nat) (f : Addr) (F : NF) (bd : Expr) (ps fr : List PySem.Str) (sp : List (Option V) → Sp) : Prop where
  len : ∀ ws vs H Q E, sp ws vs H Q E → vs.length = ps.length
  run : ∀ (A : Around) (outer : List Env) (s : Shared) (H : Hp) (us : List Value) (vs : List V) (ws : List (Option V)) (Q : VK) (E : XK), Room k A → Env0 P w K mg base A outer s H → H f = some (LmO f F bd) → H F.c = some (CodeO F.c F.qual) →
    CellsAt F.cl fr ws s.heap H → Vals vs us → sp ws vs H Q E → codeAny (model P w) A (.call (.ref f) ⟨us, []⟩) (CR CX outer P w H s Q E) s
section
variable {CX : CXT} {P : Program} {w : World} {K : PySem.W.Frag} {mg : PySem.Str → Option Value} {base : Heap} {N ps fr : List PySem.Str} {F : NF} {bd : Expr} {f : Addr} {k : Nat} {sp : List (Option V) → Sp}
theorem lok_of (S : NScope N ps fr F.scope) (hb : ∀ (pm ctv : Value) (us : List Value), us.length = ps.length → bindArgs (PySem.W.kla_fn "<lambda>" F.qual F.params bd F.scope F.cl pm (.ref F.c) ctv) ⟨us, []⟩ = pure (ps.zip us)) (len : ∀ ws vs H Q E, sp ws vs H Q E → vs.length = ps.length)
    (hbody : ∀ (A : Around) (outer : List Env) (s : Shared) (H : Hp) (vs : List V) (ws : List (Option V)) (Q : VK) (E : XK), Room k (A.deeper (envF F f s.heap.objs.size)) → H f = some (LmO f F bd) → H F.c = some (CodeO F.c F.qual) → ws.length = fr.length → sp ws vs H Q E →
      ∃ t, PE (ncx CX P w K mg base N F f A outer s H E) bd t ∧ t (startF N vs ws) H Q) : LOk P w K mg base CX (k + 1) f F bd ps fr sp := by
  refine ⟨len, fun A outer s H us vs ws Q E hr e0 hf hc C r hsp => ?_⟩
  have hl := len _ _ _ _ _ hsp
  have lim : s.heap.NoLimit := e0.mod.nolimit.keeps fun b o e => (e0.bs b o e).1
  obtain ⟨pm, ctv, ho⟩ := lmO_at e0.hok hf
  refine PySem.W.kla_callFunE hr.depth ho rfl S.co S.gen rfl (codeO_at e0.hok hc) ?_
  rw [hb pm ctv us (by rw [← r.length]; exact hl)]
  refine wpAny_pure (wpAny_newFunctionEnv S.nocell (fun ⟨n, _⟩ hy => S.par n (List.of_mem_zip hy).1) (fun h₁ hns hsb => ⟨lim.fresh _ hsb, ?_⟩) S.kind)
  show codeAny _ _ (.expr bd (envF F f s.heap.objs.size)) _ _
  have kp : ∀ b o, s.heap.get? b = some o → h₁.get? b = some o := fun b o e => hsb.extBut b o (Nat.ne_of_lt (Heap.lt_size e)) (Heap.get?_push_of_some _ e)
  obtain ⟨t, ht, hq⟩ := hbody A outer s H vs ws Q E (hr.deeper _) hf hc C.len hsp
  have I : Inv (ncx CX P w K mg base N F f A outer s H E) [] (startF N vs ws) H { s with heap := h₁, toks := s.toks + (ps.zip us).length } := inv_startN S hr.hd e0 hl r C hns kp
  refine PySem.W.kla_codeExpr (wpAny_mono (ht.run [] _ (startF N vs ws) H Q I hq) (fun v s' hs => ?_) fun e s' hs => hs)
  obtain ⟨v', H', J, rv, q⟩ := hs
  exact ⟨v', H', J.os, J.bare, J.base, J.hok, rv, q⟩
end
end Mc
namespace Mc
open PySem L2 PySem.Spec PyProof.Rows FbM LamX NdefX
/-! ### sorted(d, key=lambda x: ..), d a dict with text keys, the lambda gives an int and the key -/
/-- what is asked of the callable at each key -/
def CallsKey (X : Cx) (A : Around) (pins : List (Addr × Obj)) (σ : L2.St) (q : Addr) (kf : PySem.Str → Int) (ks : List PySem.Str) (H : Hp) : Prop :=
  ∀ (s' : Shared) (H' : Hp) (y : PySem.Str) (t : Tok), y ∈ ks → Inv X pins σ H' s' → Same H H' → codeAny (model X.prog X.w) A (.call (.ref q) ⟨[.str y t], []⟩) (CR CX0 X.stack X.prog X.w H' s' (fun v H2 => ∃ p, v = .ref p ∧ H' p = none ∧ H2 = upd H' p (.tup [.int (kf y), .str y])) E0) s'
section
variable {X : Cx} {pins : List (Addr × Obj)} {σ : L2.St} {H : Hp} {s : Shared} {k : Nat} {q a kS : Addr} {kf : PySem.Str → Int} {ks : List PySem.Str} {vs : List Value} {A : Around} {E : Value → Shared → Prop} {e1 : Nat} {P : PySem.Fin → Shared → Prop}
theorem kl_rest (hr : Room k A) (hcall : CallsKey X A pins σ q kf ks H) (I : Inv X pins σ H s) (ra : Rec X pins a) (rk : Rec X pins kS) (na : H a = none) (nk : H kS = none)
    (hka : kS ≠ a) (ek : s.heap.get? kS = some (seqObj "list" #[] 0)) (ea : s.heap.get? a = some (seqObj "list" #[] e1)) (hv : StrsAre vs ks) (h64 : ks.length < 64)
    (done : ∀ s' H' out c, Inv X pins σ H' s' → Same H H' → H' a = none → s'.heap.get? a = some (seqObj "list" (List.toArray out) c) → PySem.W.KeyedOut false (ks.map (kdM kf)) vs out → P (.done (.ret .none)) s') :
    wpAny (model X.prog X.w) A (ksk_rest a (.ref q) false vs.toArray e1 (.ref kS)) P E s := by
  have hlen : vs.length = ks.length := hv.len_eq
  have h16 : vs.length ≤ sizeLine := by rw [hlen, sizeLine_eq]; omega
  unfold ksk_rest
  refine wpAny_bind (wpAny_rule ?_)
  rw [List.forIn_toArray]
  refine wpAny_bind (ksk_fold (fun i s' => ∃ H' kA e, Inv X pins σ H' s' ∧ Same H H' ∧ H' a = none ∧ H' kS = none ∧ s'.heap.get? kS = some (seqObj "list" kA e) ∧ s'.heap.get? a = some (seqObj "list" #[] e1) ∧
    PySem.W.EachIs (fun v x => ∃ p, v = Value.ref p ∧ H' p = some (.tup [.int (kf x), .str x])) kA.toList (ks.take i)) vs 0 s ⟨H, #[], 0, I, fun _ _ h => h, na, nk, ek, ea, by rw [List.take_zero]; exact PySem.W.EachIs.nil⟩ ?step ?done)
  case step =>
    rintro j x s' hx ⟨H', kA, e, I', sm, na', nk', ek', ea', hk⟩
    rw [Nat.zero_add] at hk ⊢
    obtain ⟨y, t, rfl, hy⟩ := hv.item j x hx
    have hz : kA.size ≤ ks.length := by
      have h1 := hk.length
      rw [Array.length_toList, List.length_take] at h1
      omega
    have h64' : kA.size < 64 := by omega
    refine wpAny_bind (wpAny_attempt ?_)
    refine wpAny_call (codeAny_mono (hcall s' H' y t (List.mem_of_getElem? hy) I' sm) fun rr s2 hrr => ?_)
    cases rr with
    | error er => exact False.elim hrr
    | ok fl =>
      cases fl with
      | next => exact False.elim hrr
      | brk => exact False.elim hrr
      | cont => exact False.elim hrr
      | ret v =>
        obtain ⟨v', H2, os, bare, un, hok, rv', p, ev, hp, eH⟩ := (show CE X.stack X.prog X.w H' s' _ v s2 from hrr)
        subst ev
        cases rv'
        have I2 : Inv X pins σ H2 s2 := I'.call' os un hok bare (fun b z => absurd z List.not_mem_nil)
        have sm2 : Same H' H2 := fun b u e => by
          rw [eH, upd_ne (ne_of_none e hp)]
          exact e
        have keep : ∀ {b : Addr} {ob : Obj}, Rec X pins b → H' b = none → s'.heap.get? b = some ob → s2.heap.get? b = some ob := fun rb ub eb => un.keep _ _ eb ub rb.fr List.not_mem_nil
        have fr2 : ∀ {b : Addr} {ob : Obj}, H' b = none → s'.heap.get? b = some ob → H2 b = none := fun ub eb => un.free _ _ eb ub List.not_mem_nil
        have nk2 := keep rk nk' ek'
        have na2 := keep ra na' ea'
        have uk2 := fr2 nk' ek'
        have ua2 := fr2 na' ea'
        try dsimp only
        obtain ⟨h2, g2, d2, t2, o2⟩ := s2
        obtain ⟨c2, hc2⟩ : ∃ c2, (h2.update kS (Obj.mapSeq (·.push (.ref p)))).get? kS = some (seqObj "list" (kA.push (.ref p)) c2) := ⟨_, get?_update_seq nk2 (·.push (.ref p))⟩
        have sb : Heap.SameBut kS h2 (h2.update kS (Obj.mapSeq (·.push (.ref p)))) := Heap.SameBut.update ..
        refine wpAny_bind (listUpdate_at nk2 rfl ?_ (by rw [sizeLine_eq]; omega) (by rw [Array.size_push, sizeLine_eq]; omega))
        refine wpAny_pure ⟨rfl, H2, kA.push (.ref p), c2, rk.turn (t' := t2) I2 uk2 fun c ob hc e => sb.extBut c ob hc e, fun b u e => sm2 b u (sm b u e), ua2, uk2, hc2, sb.extBut _ _ hka.symm na2, ?_⟩
        have ek3 : ks.take (j + 1) = ks.take j ++ [y] := by rw [List.take_add_one, hy]; rfl
        have ea3 : (kA.push (Value.ref p)).toList = kA.toList ++ [.ref p] := by simp
        rw [ek3, ea3]
        refine PySem.W.each_snoc ⟨p, rfl, by rw [eH, upd_same]⟩ (hk.mono fun u d z => ?_)
        obtain ⟨p', ep, z⟩ := z
        exact ⟨p', ep, sm2 _ _ z⟩
  case done =>
    rintro s' ⟨H', kA, e, I', sm, na', nk', ek', ea', hk⟩
    have hk' : PySem.W.EachIs (fun v k => ∃ as, Reads s'.heap v k as) kA.toList (ks.map (kdM kf)) := by
      have e3 : ks.take (0 + vs.length) = ks := List.take_of_length_le (by omega)
      rw [e3] at hk
      refine PySem.W.each_map (kdM kf) (hk.mono fun v x z => ?_)
      obtain ⟨p, rfl, z⟩ := z
      exact ⟨[], tup_reads I'.hok z⟩
    have hsz : kA.size = vs.length := by
      have h1 := hk'.length
      rw [Array.length_toList, List.length_map] at h1
      omega
    refine wpAny_bind (listItems_at ek' rfl ?_)
    have hal : PySem.W.AllAlike (ks.map (kdM kf)) := PySem.W.AllAlike.of fun _ _ => by simp [kdM, PySem.W.alike, PySem.W.alikeAll]
    refine PySem.W.keyH_end (κ := PySem.W.dataKind s'.heap (ks.map (kdM kf))) (h₁ := rid s'.heap kS) (b := false) (fun b ob hb z => ?_) rid_none ek' ea' hka (PySem.W.SortsAt.data hk' hal (PySem.W.Sortable.tuples fun _ => ⟨_, _, rfl⟩) ?_) hsz h16 fun h' tk c kp hD => ?_
    · by_cases hbk : b = kS
      · subst hbk
        rw [rid_none] at z
        cases z
      · exact (rid_ne hbk).symm.trans z
    · intro d hd
      obtain ⟨x, _, rfl⟩ := List.mem_map.mp hd
      have h2 : (kdM kf x).depth = 1 := by simp [kdM, PyData.depth, PyData.depthAll]
      have := hr.units
      omega
    · have keep : ∀ b ob, b ≠ a → b ≠ kS → s'.heap.get? b = some ob → h'.get? b = some ob := fun b ob ha hk z => kp b ob ha ((rid_ne hk).trans z)
      have nb : ∀ {b u}, H' b = some u → b ≠ a ∧ b ≠ kS := fun {b u} z => ⟨fun e => (by rw [e, na'] at z; cases z), fun e => (by rw [e, nk'] at z; cases z)⟩
      refine done _ H' (PySem.W.sortVals (PySem.W.dataKind s'.heap (ks.map (kdM kf))) false kA.toList vs) c ?_ sm na' hD ⟨s'.heap, kA.toList, hal, rfl, hk'⟩
      obtain ⟨h1, g1, d1, t1, o1⟩ := s'
      refine I'.call' (ch := [a, kS]) rfl ⟨fun b ob z n _ hx => ?_, fun b ob z n _ hx => ⟨ob.slots, ?_⟩, fun b ob z n hx => n, fun b ob z hx => ⟨ob, ?_⟩, fun b xs z => z, fun b ob u z => z, fun b pz z => ⟨#[], by rw [z]; simp⟩⟩ (fun b u z => ?_) I'.bare fun b hb => ?_
      · exact keep b ob (fun e => hx (by simp [e])) (fun e => hx (by simp [e])) z
      · exact keep b ob (fun e => hx (by simp [e])) (fun e => hx (by simp [e])) z
      · exact keep b ob (fun e => hx (by simp [e])) (fun e => hx (by simp [e])) z
      · refine (I'.hok b u z).stay (fun cc v hc q => ?_) (fun _ q => q) fun _ _ q => q
        rcases hc with e | e
        · rw [e] at q ⊢
          exact keep b v (nb z).1 (nb z).2 q
        · exact keep cc v (nb e).1 (nb e).2 q
      · rcases List.mem_cons.mp hb with e | e
        · subst e
          exact ⟨.inr ra.ge, ra.nl, ra.ce, ra.pn⟩
        · obtain rfl := List.mem_singleton.mp e
          exact ⟨.inr rk.ge, rk.nl, rk.ce, rk.pn⟩
theorem sortedKL (hcalm : X.calm = true) (hr : Room k X.A.in1.in1) (hcall : CallsKey X X.A.in1.in1 pins σ q kf ks H) {d : Addr} {kvs : List (Key × V)} {Q : VK} (I : Inv X pins σ H s) (hd : Rd H d (.dK kvs)) (hks : kvs.map (·.1) = ks.map Sum.inr) (h64 : ks.length < 64)
    (fin : ∀ (ys : List PySem.Str) p H', Same H H' → ys.Perm ks → ys.Pairwise (rkLe kf) → H' p = none → Q (.ref p) (upd H' p (.lst (ys.map V.str)))) :
    wpAny (model X.prog X.w) X.A (call (.builtin "sorted") [.ref d] [(PySem.Str.ofString "key", .ref q)]) (EP X pins σ Q) X.xe s := by
  obtain ⟨z, lo, vs, rel, dd⟩ := dk_rd I.hok hd
  obtain ⟨ep, hat⟩ := dd.dictAt
  have hkeys : vs.map (·.1) = ks.map Sum.inr := rel.keys.symm.trans hks
  have hl : vs.length = ks.length := by
    have e := congrArg List.length hkeys
    rw [List.length_map, List.length_map] at e
    exact e
  have h16 : vs.length ≤ sizeLine := by rw [hl, sizeLine_eq]; omega
  refine call_function_entry_kw kind_sorted plain_sorted entry_sorted (ksk_s1 _ _) ?_
  unfold Builtin.«sorted»
  refine wpAny_bind (m := checkCount "sorted" 1 1 _) (wpAny_pure ?_)
  refine wpAny_bind (PySem.W.kdu_collect (A := X.A.in1) (PySem.W.kdl_dict (knd := mixKind X.prog X.w) (kvs := vs) (ep := ep) lo) (I.ok.hd hcalm) hat h16 fun h1 tk acc hk hacc => ?_)
  have hal : acc.toList.length = ks.length := by rw [Array.length_toList, hacc.1, hl]
  have hS : StrsAre acc.toList ks := strs_at hal fun j v e => by
    obtain ⟨kx, x, w1, w2⟩ := hacc.2 j v (by rw [← Array.getElem?_toList]; exact e)
    have w3 : (vs.map (·.1))[j]? = some kx := by rw [List.getElem?_map, w1]; all_goals rfl
    rw [hkeys, List.getElem?_map] at w3
    cases w4 : ks[j]? with
    | none => rw [w4] at w3; cases w3
    | some y =>
      rw [w4] at w3
      obtain rfl : Sum.inr y = kx := Option.some.inj w3
      obtain ⟨t, ev⟩ := Value.isStrOf_shape (x := y) (v := v) w2
      exact ⟨y, t, rfl, ev⟩
  have I1 : Inv X pins σ H { s with heap := h1, toks := tk } := I.kept hk
  refine wpAny_bind (wpAny_newList ?_ (by rw [hal, sizeLine_eq]; omega))
  have hoL : (h1.push (seqObj "list" acc.toList.toArray 0)).get? h1.objs.size = some (seqObj "list" acc.toList.toArray 0) := Heap.get?_push_size _ rfl
  have I2 : Inv X pins σ H { s with heap := h1.push (seqObj "list" acc.toList.toArray 0), toks := tk } := I1.kept (t' := tk) fun b u e => Heap.get?_push_of_some _ e
  have ra : Rec X pins h1.objs.size := rec_new I1 (Nat.le_refl _)
  have na : H h1.objs.size = none := I1.hok.fresh (Nat.le_refl _)
  show wpAny _ _ _ _ _ { s with heap := h1.push (seqObj "list" acc.toList.toArray 0), toks := tk }
  refine wpAny_bind (wpAny_holding (wpAny_call_entry_kw slot_list_sort ⟨_, hoL, rfl⟩ entry_list_sort ?body (ksk_l1 _ _)))
  case body =>
    rw [ksk_t1]
    unfold ksk_tree
    refine wpAny_bind (listItems_at hoL rfl ?_)
    have hz : acc.toList.toArray.size ≤ sizeLine := by rw [List.size_toArray, hal, sizeLine_eq]; omega
    refine wpAny_bind (listUpdate_at hoL rfl ?_ hz (Nat.zero_le _))
    obtain ⟨e1, ho1⟩ : ∃ e1, ((h1.push (seqObj "list" acc.toList.toArray 0)).update h1.objs.size (Obj.mapSeq fun _ => (#[] : Array Value))).get? h1.objs.size = some (seqObj "list" #[] e1) := ⟨_, get?_update_seq hoL fun _ => #[]⟩
    refine wpAny_bind (seqEpoch_at ho1 rfl ?_)
    refine wpAny_bind (wpAny_newTuple ?_ (by show acc.toList.length ≤ _; rw [hal, sizeLine_eq]; omega))
    refine wpAny_bind (wpAny_newList ?_ (Nat.zero_le _))
    refine wpAny_holding ?_
    have sb : Heap.SameBut h1.objs.size (h1.push (seqObj "list" acc.toList.toArray 0)) ((h1.push (seqObj "list" acc.toList.toArray 0)).update h1.objs.size (Obj.mapSeq fun _ => (#[] : Array Value))) := Heap.SameBut.update ..
    have I3 := ra.turn (t' := tk) I2 na fun c ob hc e => sb.extBut c ob hc e
    have I4 := I3.kept (t' := tk) fun b u e => Heap.get?_push_of_some (seqObj "tuple" acc.toList.toArray 0) e
    have I5 := I4.kept (t' := tk) fun b u e => Heap.get?_push_of_some (seqObj "list" #[] 0) e
    have lt1 : h1.objs.size < (((h1.push (seqObj "list" acc.toList.toArray 0)).update h1.objs.size (Obj.mapSeq fun _ => (#[] : Array Value))).push (seqObj "tuple" acc.toList.toArray 0)).objs.size := by
      rw [size_push', Heap.size_update, size_push']
      omega
    refine kl_rest (k := k) (kf := kf) (ks := ks) hr hcall I5 ra (rec_new I4 (Nat.le_refl _)) na (I4.hok.fresh (Nat.le_refl _)) (Nat.ne_of_gt lt1) (Heap.get?_push_size _ rfl)
      (Heap.get?_push_of_some _ (Heap.get?_push_of_some _ ho1)) hS h64 fun s' H' out c J sm na' hD ko => ?_
    have eo := PySem.W.keyedOut_each (kdM kf) ko (each_strs hS)
    have pm := List.mergeSort_perm ks (PySem.W.dataLe false (kdM kf))
    have hlo : (ks.mergeSort (PySem.W.dataLe false (kdM kf))).length ≤ sizeLine := by rw [pm.length_eq, sizeLine_eq]; omega
    refine ⟨_, rfl, wpAny_pure ⟨_, rfl, .ref h1.objs.size, upd H' h1.objs.size (.lst ((ks.mergeSort (PySem.W.dataLe false (kdM kf))).map V.str)), adopt J ra na' ⟨?_, out, c, each_vals eo, hD⟩, rfl, fin _ _ H' sm pm (kdM_sorted ks) na'⟩⟩
    rw [List.length_map]
    exact hlo
/-- sorted(e, key=lambda x: ..) -/
def tSrtL (T : List NTab) (mk : Addr → NF) (bd : Expr) (js : List Nat) (sp : Addr → Addr → List (Option V) → Sp) (ta : TE) : TE := fun σ H Q => ta σ H fun x H1 => TabsN T H1 ∧ ∀ (f c' : Addr) (H2 : Hp), ExtN H1 H2 → (∀ b, H2 b = none → H1 b = none) → TabsN T H2 → H1 f = none → H2 f = some (LmO f (mk c') bd) → H2 c' = some (CodeO c' (mk c').qual) →
  ∃ (d : Addr) (kvs : List (Key × V)) (ks : List PySem.Str) (kf : PySem.Str → Int), x = .ref d ∧ Rd H2 d (.dK kvs) ∧ kvs.map (·.1) = ks.map Sum.inr ∧ ks.length < 64 ∧
  (∀ y ∈ ks, ∀ H', Same H2 H' → sp f c' (js.map (slotAt σ)) [.str y] H' (fun v H3 => ∃ p, v = .ref p ∧ H' p = none ∧ H3 = upd H' p (.tup [.int (kf y), .str y])) E0) ∧
  ∀ (ys : List PySem.Str) p H', Same H2 H' → ys.Perm ks → ys.Pairwise (rkLe kf) → H' p = none → Q (.ref p) (upd H' p (.lst (ys.map V.str)))
variable {fr : List PySem.Str} {js : List Nat} {sp : Addr → Addr → List (Option V) → Sp} {e : Expr} {ta : TE} {p pos kpos lpos : Pos} {T : List NTab} {nm : Nat → Nat → PySem.Str} {c P' : Addr} {params : Arguments} {bd : Expr} {scope : Scope} {x0 : PySem.Str}
theorem pe_srtL (hcalm : X.calm = true) (TB : TabB X.base X.mg c P') (hcode : X.env.code = .ref c) (hm' : (P', nm) ∈ T) (hn : nm lpos.line lpos.col = X.env.qual ++ "<lambda>") (hu' : ∀ p ∈ T, p.1 = P' → p.2 = nm) (hdef : defaultsOf params X.env = ([], []))
    (hfree : ∀ y ∈ scope.names, y.2 = .free → X.env.scope.names.lookup y.1 = some .cell ∨ X.env.scope.names.lookup y.1 = some .free)
    (L : ∀ f c', LOk X.prog X.w X.K X.mg X.base CX0 k f (lamF X params scope c') bd [x0] fr (sp f c')) (cp : X.Ok → Caps X (cloFrom X.env.cells scope.names []) fr js) (hr : Room (k + 2) X.A) (hg : Gl X "sorted") (hm : X.mg "sorted" = none) (he : PE X e ta)
    (hs1 : starEach [e] X.env = (false, eval e X.env) :: starEach [] X.env := by rfl)
    (hst : backTo pos (starEach [e] X.env) = (false, eval e X.env) :: backTo pos (starEach [] X.env) := by rfl) (hpl : (backTo pos (starEach [e] X.env)).any (·.1) = false := by rfl)
    (hall : (backToKw pos (keywordEach [⟨some "key", .Lambda params bd scope lpos, kpos⟩] X.env)).all (·.1.isSome) = true := by rfl) (hno : (backToKw pos (keywordEach [⟨some "key", .Lambda params bd scope lpos, kpos⟩] X.env)).any (·.1.isNone) = false := by rfl)
    (hks : (backToKw pos (keywordEach [⟨some "key", .Lambda params bd scope lpos, kpos⟩] X.env)).filterMap (·.1) = [PySem.Str.ofString "key"] := by rfl) :
    PE X (.Call (.Name "sorted" p) [e] [⟨some "key", .Lambda params bd scope lpos, kpos⟩] pos) (tSrtL T (lamF X params scope) bd js sp ta) := by
  refine ⟨fun pins s σ H Q I h => ?_⟩
  refine wpAny_Call_Name_kw (ld_blt I hg hm rfl ?_ (by decide) (by decide))
  show wpAny _ _ (callWith pos (.builtin "sorted") [] _ _) _ _ _
  refine callWith_kw (thn ((pa_cons he pa_nil hs1).run pos pins s σ H (fun vs H1 => match vs with
    | [x] => TabsN T H1 ∧ ∀ (f c' : Addr) (H2 : Hp), ExtN H1 H2 → (∀ b, H2 b = none → H1 b = none) → TabsN T H2 → H1 f = none → H2 f = some (LmO f (lamF X params scope c') bd) → H2 c' = some (CodeO c' (lamF X params scope c').qual) →
        ∃ (d : Addr) (kvs : List (Key × V)) (ks : List PySem.Str) (kf : PySem.Str → Int), x = .ref d ∧ Rd H2 d (.dK kvs) ∧ kvs.map (·.1) = ks.map Sum.inr ∧ ks.length < 64 ∧
        (∀ y ∈ ks, ∀ H', Same H2 H' → sp f c' (js.map (slotAt σ)) [.str y] H' (fun v H3 => ∃ p, v = .ref p ∧ H' p = none ∧ H3 = upd H' p (.tup [.int (kf y), .str y])) E0) ∧
        ∀ (ys : List PySem.Str) p H', Same H2 H' → ys.Perm ks → ys.Pairwise (rkLe kf) → H' p = none → Q (.ref p) (upd H' p (.lst (ys.map V.str)))
    | _ => False) I h) fun us s1 hu => ?_) hst hpl hall hno
  obtain ⟨vs, H1, I1, r1, q1⟩ := hu
  match vs, q1 with
  | [x], q1 =>
    obtain ⟨hT, q1⟩ := q1
    refine wpAny_evalAll_cons (wpAny_bind (lam_mk I1 TB hcode hm' hn hu' hT hdef (fun y hy e => I1.ok.has _ (hfree y hy e)) fun f c' H2 s2 I2 x1 x2 T2 n1 hf hc => ?_))
    obtain ⟨d, kvs, ks, kf, rfl, hd, hk, h64, tu, fin⟩ := q1 f c' H2 x1 x2 T2 n1 hf hc
    refine wpAny_bind (wpAny_standAt (wpAny_pure ?_))
    refine wpAny_evalAll_nil ?_
    rw [hks]
    obtain rfl := Vals.ref1 r1
    have I3 := I2.tok s2.toks
    refine sortedKL hcalm hr.in1.in1 (q := f) (kf := kf) (ks := ks) (fun s' H' y t hy I' sm => ?_) I2 hd hk h64 fin
    have e0 := I'.env0
    have e1' : Env0 X.prog X.w X.K X.mg X.base X.A.in1.in1 X.stack s' H' := ⟨I2.ok.frames, e0.mod, e0.bs, e0.bsz, e0.funs, e0.frf, e0.hok, e0.bare⟩
    exact (L f c').run X.A.in1.in1 X.stack s' H' _ [.str y] _ _ E0 hr.in1.in1 e1' (sm _ _ hf) (sm _ _ hc) (cells_of I' (cp I'.ok)) (.cons ⟨t, rfl⟩ .nil) (tu y hy H' sm)
end
end Mc
namespace Mc
open PySem L2 PySem.Spec PyProof.Rows FbM LamX NdefX
/-! ### min(xs, key=lambda x: ..), max(..): xs a list or a tuple -/
structure Feed (X : Cx) (xs : List V) (it : Addr) (G : Hp → Prop) (tn : Nat → Heap → Prop) : Prop where
  same : ∀ H H', G H → Same H H' → G H'
  keep : ∀ i h h', tn i h → (∀ o, h.get? it = some o → h'.get? it = some o) → tn i h'
  obj : ∀ i h, tn i h → ∃ o, h.get? it = some o
  item : ∀ (A : Around) (pins : List (Addr × Obj)) (s : Shared) (σ : L2.St) (H : Hp) (Q : Option Value → Shared → Prop) (E : Value → Shared → Prop) (i : Nat) (x : V), Inv X pins σ H s → tn i s.heap → G H → xs[i]? = some x →
    (∀ u h', RelV x u → tn (i + 1) h' → Heap.SameBut it s.heap h' → Q (some u) { s with heap := h' }) → wpAny (model X.prog X.w) A (pyNext (.ref it)) Q E s
  done : ∀ (A : Around) (pins : List (Addr × Obj)) (s : Shared) (σ : L2.St) (H : Hp) (Q : Option Value → Shared → Prop) (E : Value → Shared → Prop) (i : Nat), A.handled = none → Inv X pins σ H s → tn i s.heap → G H → xs.length ≤ i →
    (∀ h', Heap.ExtBut it s.heap h' → Q none { s with heap := h' }) → wpAny (model X.prog X.w) A (pyNext (.ref it)) Q E s
theorem rd_sm {H H' : Hp} {a : Addr} {u : HO} (h : Rd H a u) (s : Same H H') : Rd H' a u := h.elim (fun z => .inl (s _ _ z)) fun ⟨o, z⟩ => .inr ⟨o, s _ _ z⟩
theorem feed_list {X : Cx} {xs : List V} (a it : Addr) : Feed X xs it (fun H => SqL X.K H a xs) (fun i h => h.IsListIter it a i) where
  same := fun H H' g s => g.elim (fun z => .inl (rd_sm z s)) .inr
  keep := fun i h h' st k => st.at fun o e => k o e
  obj := fun i h ⟨o, e, _, _⟩ => ⟨o, e⟩
  item := fun A pins s σ H Q E i x I st hq hx k => by
    obtain ⟨its, rv, p, hz⟩ := I.list hq
    obtain ⟨u, hu, ru⟩ := rv.get hx
    exact wpAny_pyNext_list_item st p.isList (x := u) (by simpa using hu) fun h' st' sb => k u h' ru st' sb
  done := fun A pins s σ H Q E i hh I st hq hi k => by
    obtain ⟨its, rv, p, hz⟩ := I.list hq
    have hl := rv.length
    exact wpAny_pyNext_list_end hh st p.isList (by simp; omega) k
theorem feed_tup {X : Cx} {xs : List V} (a it : Addr) : Feed X xs it (fun H => SqT X.K H a xs) (fun i h => h.IsTupleIter it a i) where
  same := fun H H' g s => g.elim (fun z => .inl (rd_sm z s)) .inr
  keep := fun i h h' st k => st.at fun o e => k o e
  obj := fun i h ⟨o, e, _, _⟩ => ⟨o, e⟩
  item := fun A pins s σ H Q E i x I st hq hx k => by
    obtain ⟨its, rv, p, hz⟩ := I.tuple hq
    obtain ⟨u, hu, ru⟩ := rv.get hx
    exact wpAny_pyNext_tuple_item st (show s.heap.IsTuple a its.toArray from p) (x := u) (by simpa using hu) fun h' st' sb => k u h' ru st' sb
  done := fun A pins s σ H Q E i hh I st hq hi k => by
    obtain ⟨its, rv, p, hz⟩ := I.tuple hq
    have hl := rv.length
    exact wpAny_pyNext_tuple_end hh st (show s.heap.IsTuple a its.toArray from p) (by simp; omega) k
/-- what is asked of the callable at each item -/
def CallsV (X : Cx) (A : Around) (pins : List (Addr × Obj)) (σ : L2.St) (q : Addr) (xs : List V) (KV : Nat → V → Hp → Prop) (H : Hp) : Prop :=
  ∀ (s' : Shared) (H' : Hp) (i : Nat) (x : V) (u : Value), xs[i]? = some x → RelV x u → Inv X pins σ H' s' → Same H H' → codeAny (model X.prog X.w) A (.call (.ref q) ⟨[u], []⟩) (CR CX0 X.stack X.prog X.w H' s' (fun v H2 => Same H' H2 ∧ KV i v H2) E0) s'
/-- keys are compared -/
def CmpV (X : Cx) (A : Around) (op : CmpOp) (KV : Nat → V → Hp → Prop) (bt : Nat → Nat → Bool) : Prop :=
  ∀ (pins : List (Addr × Obj)) (σ : L2.St) (H : Hp) (s : Shared) (i j : Nat) (x y : V) (u v : Value) (Q : Value → Shared → Prop) (E : Value → Shared → Prop), Inv X pins σ H s → KV i x H → RelV x u → KV j y H → RelV y v → Q (.bool (bt i j)) s → wpAny (model X.prog X.w) A (richCompare op u v) Q E s
/-- the first best -/
structure FstBest (bt : Nat → Nat → Bool) (n i : Nat) : Prop where
  no : ∀ j, j < n → bt j i = false
  yes : ∀ j, j < i → bt i j = true
section
variable {X : Cx} {pins : List (Addr × Obj)} {σ : L2.St} {H : Hp} {s : Shared} {k : Nat} {q it S : Addr} {xs : List V} {KV : Nat → V → Hp → Prop} {bt : Nat → Nat → Bool} {G : Hp → Prop} {tn : Nat → Heap → Prop} {A : Around} {E : Value → Shared → Prop} {R : Result → Shared → Prop}
theorem seq_keep {h h' : Heap} {a : Addr} {o : Obj} (e : h.get? a = some o) (sb : Heap.SameBut it h h') (ne : a ≠ it) : h'.get? a = some o := (sb.2 a ne).trans e

theorem min_loop (hh : A.in1.handled = none) (F : Feed X xs it G tn) (ri : Rec X pins it) (rs : Rec X pins S) (hSI : S ≠ it) (hcall : CallsV X A.in1 pins σ q xs KV H) (hcmp : CmpV X A.in1 .Lt KV bt) (hKV : ∀ i v H1 H2, KV i v H1 → Same H1 H2 → KV i v H2)
    (hT : ∀ i j l, bt i j = true → bt l j = false → bt i l = true) (hA : ∀ i j, bt i j = true → bt j i = false) (hI : ∀ i, bt i i = false)
    (hR : ∀ i x u s' H', Inv X pins σ H' s' → Same H H' → xs[i]? = some x → RelV x u → FstBest bt xs.length i → R (.ok (.ret u)) s') :
    ∀ (r j i : Nat) (s' : Shared) (H' : Hp) (vb kb : Value) (xb yb : V) (c : Nat), xs.length - (j + 1) = r → j + 1 ≤ xs.length → Inv X pins σ H' s' → Same H H' → G H' → H' it = none → H' S = none → tn (j + 1) s'.heap →
      s'.heap.get? S = some (seqObj "list" #[vb, kb] c) → xs[i]? = some xb → RelV xb vb → KV i yb H' → RelV yb kb → i ≤ j → FstBest bt (j + 1) i →
      codeAny (model X.prog X.w) A (.builtin "min.loop" ⟨[.ref it, .ref q, .ref S], []⟩) R s' := by
  have hname : (toString "min" ++ toString ".loop" : String) = "min.loop" := by decide
  intro r
  induction r with
  | zero =>
    intro j i s' H' vb kb xb yb c hr hj I sm g ni nS st hS hxb rvb hk rkb hij hbest
    have hin : xs.length = j + 1 := by omega
    refine codeAny_builtin PySem.F.entry_min_loop ?_
    rw [Around.under_plainId PySem.F.plain_min_loop _]
    show wpAny _ A.in1 (seqItems? (.ref S) >>= _) _ _ _
    refine wpAny_bind (wpAny_seqItems hS rfl ?_)
    show wpAny _ A.in1 (tryCatch (pyNext (.ref it)) _ >>= _) _ _ _
    refine wpAny_bind (wpAny_tryCatch (F.done A.in1 pins s' σ H' _ _ (j + 1) hh I st g (by omega) fun h' eb => ?_))
    have I1 : Inv X pins σ H' { s' with heap := h' } := ri.turn (t' := s'.toks) I ni fun c o hc e => eb c o hc e
    have hS' : h'.get? S = some (seqObj "list" #[vb, kb] c) := eb S _ hSI hS
    show wpAny _ A.in1 (updateSeq S (fun _ => #[]) >>= _) _ _ _
    refine wpAny_bind ?_
    refine wpAny_updateSeq hS' rfl (wpAny_bind (wpAny_letGo (wpAny_pure ?_)))
    have sb : Heap.SameBut S h' (h'.update S (Obj.mapSeq fun _ => (#[] : Array Value))) := Heap.SameBut.update ..
    exact hR i xb vb _ H' (rs.turn (t' := s'.toks) I1 nS fun c o hc e => sb.extBut c o hc e) sm hxb rvb (by rw [hin]; exact hbest)
  | succ r ih =>
    intro j i s' H' vb kb xb yb c hr hj I sm g ni nS st hS hxb rvb hk rkb hij hbest
    have hlt : j + 1 < xs.length := by omega
    refine codeAny_builtin PySem.F.entry_min_loop ?_
    rw [Around.under_plainId PySem.F.plain_min_loop _]
    show wpAny _ A.in1 (seqItems? (.ref S) >>= _) _ _ _
    refine wpAny_bind (wpAny_seqItems hS rfl ?_)
    show wpAny _ A.in1 (tryCatch (pyNext (.ref it)) _ >>= _) _ _ _
    refine wpAny_bind (wpAny_tryCatch (F.item A.in1 pins s' σ H' _ _ (j + 1) _ I st g (List.getElem?_eq_getElem hlt) fun u h' ru st' sb => ?_))
    have hx := List.getElem?_eq_getElem hlt
    generalize xs[j + 1] = x at ru hx
    have I1 : Inv X pins σ H' { s' with heap := h' } := ri.turn (t' := s'.toks) I ni fun c o hc e => sb.extBut c o hc e
    have hS' : h'.get? S = some (seqObj "list" #[vb, kb] c) := sb.extBut S _ hSI hS
    show wpAny _ A.in1 (tryCatch (holding [u] (call (.ref q) [u])) _ >>= _) _ _ _
    refine wpAny_bind (wpAny_tryCatch (wpAny_holding (wpAny_call (codeAny_mono (hcall _ H' (j + 1) x u hx ru I1 sm) fun rr s2 hrr => ?_))))
    cases rr with
    | error er => exact False.elim hrr
    | ok fl =>
      cases fl with
      | next => exact False.elim hrr
      | brk => exact False.elim hrr
      | cont => exact False.elim hrr
      | ret v =>
        obtain ⟨v', H2, os, bare, un, hok, rv', sm2, hk2⟩ := (show CE X.stack X.prog X.w H' { s' with heap := h' } _ v s2 from hrr)
        have I2 : Inv X pins σ H2 s2 := I1.call' os un hok bare (fun b z => absurd z List.not_mem_nil)
        have keep : ∀ {b : Addr} {ob : Obj}, Rec X pins b → H' b = none → h'.get? b = some ob → s2.heap.get? b = some ob := fun rb ub eb => un.keep _ _ eb ub rb.fr List.not_mem_nil
        have fr2 : ∀ {b : Addr} {ob : Obj}, H' b = none → h'.get? b = some ob → H2 b = none := fun ub eb => un.free _ _ eb ub List.not_mem_nil
        have st2 : tn (j + 1 + 1) s2.heap := F.keep _ _ _ st' fun o e => keep ri ni e
        obtain ⟨oi, hoi⟩ := F.obj _ _ st'
        have ni2 := fr2 ni hoi
        have nS2 := fr2 nS hS'
        have hS2 := keep rs nS hS'
        have sm12 : Same H H2 := sm.trans sm2
        have hkb2 := hKV _ _ _ _ hk sm2
        have g2 := F.same _ _ g sm2
        try dsimp only
        show wpAny _ A.in1 (tryCatch (holding [u, v] (richCompare .Lt v kb >>= _)) _ >>= _) _ _ _
        refine wpAny_bind (wpAny_tryCatch (wpAny_holding (wpAny_bind (hcmp pins σ H2 s2 (j + 1) i v' yb v kb _ _ I2 hk2 rv' hkb2 rkb ?_))))
        refine wpAny_bind (wpAny_holding (wpAny_truthy_bool ?_))
        refine wpAny_bind (wpAny_letGo (wpAny_pure ?_))
        by_cases hb' : bt (j + 1) i = true
        · simp only [hb', if_true]
          obtain ⟨h2, g2', d2, t2, o2⟩ := s2
          have sb2 : Heap.SameBut S h2 (h2.update S (Obj.mapSeq fun _ => #[u, v])) := Heap.SameBut.update ..
          obtain ⟨c2, hc2⟩ : ∃ c2, (h2.update S (Obj.mapSeq fun _ => #[u, v])).get? S = some (seqObj "list" #[u, v] c2) := ⟨_, get?_update_seq hS2 fun _ => #[u, v]⟩
          refine wpAny_bind ?_
          refine wpAny_updateSeq hS2 rfl (wpAny_bind (wpAny_letGo ?_))
          rw [hname]
          have I3 : Inv X pins σ H2 (⟨h2.update S (Obj.mapSeq fun _ => #[u, v]), g2', d2, t2, o2⟩ : Shared) := rs.turn (t' := t2) I2 nS2 fun c o hc e => sb2.extBut c o hc e
          refine wpAny_pure ⟨plainId_quiet PySem.F.plain_min_loop _, ih (j + 1) (j + 1) _ H2 u v x v' c2 (by omega) hlt I3 sm12 g2 ni2 nS2 (F.keep _ _ _ st2 fun o e => sb2.extBut it o hSI.symm e) hc2 hx ru hk2 rv' (Nat.le_refl _) ⟨fun j' hj' => ?_, fun j' hj' => ?_⟩⟩
          · by_cases e : j' = j + 1
            · rw [e]; exact hI _
            · exact hA _ _ (hT _ _ _ hb' (hbest.no j' (by omega)))
          · exact hT _ _ _ hb' (hbest.no j' (by omega))
        · have hb'' : bt (j + 1) i = false := by simpa using hb'
          simp only [hb'', Bool.false_eq_true, if_false]
          refine wpAny_bind (wpAny_letGo ?_)
          rw [hname]
          refine wpAny_pure ⟨plainId_quiet PySem.F.plain_min_loop _, ih (j + 1) i s2 H2 vb kb xb yb c (by omega) hlt I2 sm12 g2 ni2 nS2 st2 hS2 hxb rvb hkb2 rkb (by omega) ⟨fun j' hj' => ?_, hbest.yes⟩⟩
          by_cases e : j' = j + 1
          · rw [e]; exact hb''
          · exact hbest.no j' (by omega)
theorem min_key {tf : Addr → Nat → Heap → Prop} (hh : A.in1.handled = none) (mk : ∀ l' : Addr, H l' = none → Feed X xs l' G (tf l')) (nx : xs ≠ []) (hcall : CallsV X A.in1 pins σ q xs KV H) (hcmp : CmpV X A.in1 .Lt KV bt) (hKV : ∀ i v H1 H2, KV i v H1 → Same H1 H2 → KV i v H2)
    (hT : ∀ i j l, bt i j = true → bt l j = false → bt i l = true) (hA : ∀ i j, bt i j = true → bt j i = false) (hI : ∀ i, bt i i = false) (g : G H) (I : Inv X pins σ H s) {Q : Value → Shared → Prop} {u0 : Value}
    (iter : ∀ (Q' : Value → Shared → Prop), (∀ (o : Obj), tf s.heap.objs.size 0 (s.heap.push o) → Q' (.ref s.heap.objs.size) { s with heap := s.heap.push o }) → wpAny (model X.prog X.w) A.in1 (pyIter u0) Q' E s)
    (hR : ∀ i x u s' H', Inv X pins σ H' s' → Same H H' → xs[i]? = some x → RelV x u → FstBest bt xs.length i → Q u s') :
    wpAny (model X.prog X.w) A (call (.builtin "min") [u0] [(PySem.Str.ofString "key", .ref q)]) Q E s := by
  have hname : (toString "min" ++ toString ".loop" : String) = "min.loop" := by decide
  refine kmk_tree PySem.F.kind_min PySem.F.plain_min PySem.F.entry_min (kmk_min_key _ _) ?_
  show wpAny _ A.in1 (Builtin.Builtins.bindParams "min" ["key", "default"] 0 ⟨[], [(PySem.Str.ofString "key", .ref q)]⟩ >>= _) _ _ s
  refine wpAny_bind (wpAny_of_eq (show Builtin.Builtins.bindParams "min" ["key", "default"] 0 ⟨[], [(PySem.Str.ofString "key", .ref q)]⟩ = pure [some (.ref q), none] from rfl) ?_)
  refine wpAny_bind (wpAny_pure ?_)
  refine wpAny_bind (iter _ fun oI st => ?_)
  have hni : H s.heap.objs.size = none := I.hok.fresh (Nat.le_refl _)
  have F := mk s.heap.objs.size hni
  have ri : Rec X pins s.heap.objs.size := rec_new I (Nat.le_refl _)
  have I1 : Inv X pins σ H { s with heap := s.heap.push oI } := I.kept (t' := s.toks) fun b u e => Heap.get?_push_of_some _ e
  have hSn : (s.heap.push oI).objs.size ≠ s.heap.objs.size := by rw [size_push']; omega
  refine wpAny_bind (wpAny_newList ?_ (Nat.zero_le _))
  rw [hname]
  have nS : H (s.heap.push oI).objs.size = none := I1.hok.fresh (Nat.le_refl _)
  have rs : Rec X pins (s.heap.push oI).objs.size := rec_new I1 (Nat.le_refl _)
  have I2 : Inv X pins σ H { s with heap := (s.heap.push oI).push (seqObj "list" #[] 0) } := I1.kept (t' := s.toks) fun b u e => Heap.get?_push_of_some _ e
  have gS : ((s.heap.push oI).push (seqObj "list" #[] 0)).get? (s.heap.push oI).objs.size = some (seqObj "list" #[] 0) := Heap.get?_push_size _ rfl
  have st1 : tf s.heap.objs.size 0 ((s.heap.push oI).push (seqObj "list" #[] 0)) := F.keep _ _ _ st fun o e => Heap.get?_push_of_some _ e
  refine wpAny_pure ⟨plainId_quiet PySem.F.plain_min_loop _, ?_⟩
  generalize (s.heap.push oI).objs.size = S at hSn nS rs gS
  generalize hh2 : (s.heap.push oI).push (seqObj "list" #[] 0) = hp at I2 gS st1
  obtain ⟨x0, xs', e⟩ := List.exists_cons_of_ne_nil nx
  have hx : xs[0]? = some x0 := by rw [e]; rfl
  refine codeAny_builtin PySem.F.entry_min_loop ?_
  rw [Around.under_plainId PySem.F.plain_min_loop _]
  show wpAny _ A.in1 (seqItems? (.ref _) >>= _) _ _ _
  refine wpAny_bind (wpAny_seqItems gS rfl ?_)
  show wpAny _ A.in1 (tryCatch (pyNext (.ref s.heap.objs.size)) _ >>= _) _ _ _
  refine wpAny_bind (wpAny_tryCatch (F.item A.in1 pins _ σ H _ _ 0 x0 I2 st1 g hx fun u h' ru st' sb => ?_))
  have I3 : Inv X pins σ H { s with heap := h' } := Rec.turn (s := { s with heap := hp }) (t' := s.toks) ri I2 hni fun c o hc e => sb.extBut c o hc e
  have hS' : h'.get? S = some (seqObj "list" #[] 0) := sb.extBut S _ hSn gS
  show wpAny _ A.in1 (tryCatch (holding [u] (call (.ref q) [u])) _ >>= _) _ _ _
  refine wpAny_bind (wpAny_tryCatch (wpAny_holding (wpAny_call (codeAny_mono (hcall _ H 0 x0 u hx ru I3 fun _ _ z => z) fun rr s2 hrr => ?_))))
  cases rr with
  | error er => exact False.elim hrr
  | ok fl =>
    cases fl with
    | next => exact False.elim hrr
    | brk => exact False.elim hrr
    | cont => exact False.elim hrr
    | ret v =>
      obtain ⟨v', H2, os, bare, un, hok, rv', sm2, hk2⟩ := (show CE X.stack X.prog X.w H { s with heap := h' } _ v s2 from hrr)
      have I4 : Inv X pins σ H2 s2 := I3.call' os un hok bare (fun b z => absurd z List.not_mem_nil)
      have keep : ∀ {b : Addr} {ob : Obj}, Rec X pins b → H b = none → h'.get? b = some ob → s2.heap.get? b = some ob := fun rb ub eb => un.keep _ _ eb ub rb.fr List.not_mem_nil
      have fr2 : ∀ {b : Addr} {ob : Obj}, H b = none → h'.get? b = some ob → H2 b = none := fun ub eb => un.free _ _ eb ub List.not_mem_nil
      have st2 : tf s.heap.objs.size (0 + 1) s2.heap := F.keep _ _ _ st' fun o e => keep ri hni e
      obtain ⟨oi, hoi⟩ := F.obj _ _ st'
      have ni2 := fr2 hni hoi
      have nS2 := fr2 nS hS'
      have hS2 := keep rs nS hS'
      have g2 := F.same _ _ g sm2
      try dsimp only
      obtain ⟨h2, g2', d2, t2, o2⟩ := s2
      have sb2 : Heap.SameBut S h2 (h2.update S (Obj.mapSeq fun _ => #[u, v])) := Heap.SameBut.update ..
      obtain ⟨c2, hc2⟩ : ∃ c2, (h2.update S (Obj.mapSeq fun _ => #[u, v])).get? S = some (seqObj "list" #[u, v] c2) := ⟨_, get?_update_seq hS2 fun _ => #[u, v]⟩
      show wpAny _ A.in1 (updateSeq S (fun _ => #[u, v]) >>= _) _ _ _
      refine wpAny_bind ?_
      refine wpAny_updateSeq hS2 rfl ?_
      rw [hname]
      have I5 : Inv X pins σ H2 (⟨h2.update S (Obj.mapSeq fun _ => #[u, v]), g2', d2, t2, o2⟩ : Shared) := rs.turn (t' := t2) I4 nS2 fun c o hc e => sb2.extBut c o hc e
      refine wpAny_pure ⟨plainId_quiet PySem.F.plain_min_loop _, min_loop hh F ri rs hSn hcall hcmp hKV hT hA hI ?_ _ 0 0 _ H2 u v x0 v' c2 rfl (by rw [e]; simp) I5 sm2 g2 ni2 nS2 (F.keep _ _ _ st2 fun o e => sb2.extBut _ o hSn.symm e) hc2 hx ru hk2 rv' (Nat.le_refl _) ⟨fun j' hj' => ?_, fun j' hj' => absurd hj' (Nat.not_lt_zero _)⟩⟩
      · exact fun i x u s' H' J sm hx hr hb => hR i x u s' H' J sm hx hr hb
      · rw [show j' = 0 by omega]; exact hI _

theorem max_loop (hh : A.in1.handled = none) (F : Feed X xs it G tn) (ri : Rec X pins it) (rs : Rec X pins S) (hSI : S ≠ it) (hcall : CallsV X A.in1 pins σ q xs KV H) (hcmp : CmpV X A.in1 .Gt KV bt) (hKV : ∀ i v H1 H2, KV i v H1 → Same H1 H2 → KV i v H2)
    (hT : ∀ i j l, bt i j = true → bt l j = false → bt i l = true) (hA : ∀ i j, bt i j = true → bt j i = false) (hI : ∀ i, bt i i = false)
    (hR : ∀ i x u s' H', Inv X pins σ H' s' → Same H H' → xs[i]? = some x → RelV x u → FstBest bt xs.length i → R (.ok (.ret u)) s') :
    ∀ (r j i : Nat) (s' : Shared) (H' : Hp) (vb kb : Value) (xb yb : V) (c : Nat), xs.length - (j + 1) = r → j + 1 ≤ xs.length → Inv X pins σ H' s' → Same H H' → G H' → H' it = none → H' S = none → tn (j + 1) s'.heap →
      s'.heap.get? S = some (seqObj "list" #[vb, kb] c) → xs[i]? = some xb → RelV xb vb → KV i yb H' → RelV yb kb → i ≤ j → FstBest bt (j + 1) i →
      codeAny (model X.prog X.w) A (.builtin "max.loop" ⟨[.ref it, .ref q, .ref S], []⟩) R s' := by
  have hname : (toString "max" ++ toString ".loop" : String) = "max.loop" := by decide
  intro r
  induction r with
  | zero =>
    intro j i s' H' vb kb xb yb c hr hj I sm g ni nS st hS hxb rvb hk rkb hij hbest
    have hin : xs.length = j + 1 := by omega
    refine codeAny_builtin PySem.F.entry_max_loop ?_
    rw [Around.under_plainId PySem.F.plain_max_loop _]
    show wpAny _ A.in1 (seqItems? (.ref S) >>= _) _ _ _
    refine wpAny_bind (wpAny_seqItems hS rfl ?_)
    show wpAny _ A.in1 (tryCatch (pyNext (.ref it)) _ >>= _) _ _ _
    refine wpAny_bind (wpAny_tryCatch (F.done A.in1 pins s' σ H' _ _ (j + 1) hh I st g (by omega) fun h' eb => ?_))
    have I1 : Inv X pins σ H' { s' with heap := h' } := ri.turn (t' := s'.toks) I ni fun c o hc e => eb c o hc e
    have hS' : h'.get? S = some (seqObj "list" #[vb, kb] c) := eb S _ hSI hS
    show wpAny _ A.in1 (updateSeq S (fun _ => #[]) >>= _) _ _ _
    refine wpAny_bind ?_
    refine wpAny_updateSeq hS' rfl (wpAny_bind (wpAny_letGo (wpAny_pure ?_)))
    have sb : Heap.SameBut S h' (h'.update S (Obj.mapSeq fun _ => (#[] : Array Value))) := Heap.SameBut.update ..
    exact hR i xb vb _ H' (rs.turn (t' := s'.toks) I1 nS fun c o hc e => sb.extBut c o hc e) sm hxb rvb (by rw [hin]; exact hbest)
  | succ r ih =>
    intro j i s' H' vb kb xb yb c hr hj I sm g ni nS st hS hxb rvb hk rkb hij hbest
    have hlt : j + 1 < xs.length := by omega
    refine codeAny_builtin PySem.F.entry_max_loop ?_
    rw [Around.under_plainId PySem.F.plain_max_loop _]
    show wpAny _ A.in1 (seqItems? (.ref S) >>= _) _ _ _
    refine wpAny_bind (wpAny_seqItems hS rfl ?_)
    show wpAny _ A.in1 (tryCatch (pyNext (.ref it)) _ >>= _) _ _ _
    refine wpAny_bind (wpAny_tryCatch (F.item A.in1 pins s' σ H' _ _ (j + 1) _ I st g (List.getElem?_eq_getElem hlt) fun u h' ru st' sb => ?_))
    have hx := List.getElem?_eq_getElem hlt
    generalize xs[j + 1] = x at ru hx
    have I1 : Inv X pins σ H' { s' with heap := h' } := ri.turn (t' := s'.toks) I ni fun c o hc e => sb.extBut c o hc e
    have hS' : h'.get? S = some (seqObj "list" #[vb, kb] c) := sb.extBut S _ hSI hS
    show wpAny _ A.in1 (tryCatch (holding [u] (call (.ref q) [u])) _ >>= _) _ _ _
    refine wpAny_bind (wpAny_tryCatch (wpAny_holding (wpAny_call (codeAny_mono (hcall _ H' (j + 1) x u hx ru I1 sm) fun rr s2 hrr => ?_))))
    cases rr with
    | error er => exact False.elim hrr
    | ok fl =>
      cases fl with
      | next => exact False.elim hrr
      | brk => exact False.elim hrr
      | cont => exact False.elim hrr
      | ret v =>
        obtain ⟨v', H2, os, bare, un, hok, rv', sm2, hk2⟩ := (show CE X.stack X.prog X.w H' { s' with heap := h' } _ v s2 from hrr)
        have I2 : Inv X pins σ H2 s2 := I1.call' os un hok bare (fun b z => absurd z List.not_mem_nil)
        have keep : ∀ {b : Addr} {ob : Obj}, Rec X pins b → H' b = none → h'.get? b = some ob → s2.heap.get? b = some ob := fun rb ub eb => un.keep _ _ eb ub rb.fr List.not_mem_nil
        have fr2 : ∀ {b : Addr} {ob : Obj}, H' b = none → h'.get? b = some ob → H2 b = none := fun ub eb => un.free _ _ eb ub List.not_mem_nil
        have st2 : tn (j + 1 + 1) s2.heap := F.keep _ _ _ st' fun o e => keep ri ni e
        obtain ⟨oi, hoi⟩ := F.obj _ _ st'
        have ni2 := fr2 ni hoi
        have nS2 := fr2 nS hS'
        have hS2 := keep rs nS hS'
        have sm12 : Same H H2 := sm.trans sm2
        have hkb2 := hKV _ _ _ _ hk sm2
        have g2 := F.same _ _ g sm2
        try dsimp only
        show wpAny _ A.in1 (tryCatch (holding [u, v] (richCompare .Gt v kb >>= _)) _ >>= _) _ _ _
        refine wpAny_bind (wpAny_tryCatch (wpAny_holding (wpAny_bind (hcmp pins σ H2 s2 (j + 1) i v' yb v kb _ _ I2 hk2 rv' hkb2 rkb ?_))))
        refine wpAny_bind (wpAny_holding (wpAny_truthy_bool ?_))
        refine wpAny_bind (wpAny_letGo (wpAny_pure ?_))
        by_cases hb' : bt (j + 1) i = true
        · simp only [hb', if_true]
          obtain ⟨h2, g2', d2, t2, o2⟩ := s2
          have sb2 : Heap.SameBut S h2 (h2.update S (Obj.mapSeq fun _ => #[u, v])) := Heap.SameBut.update ..
          obtain ⟨c2, hc2⟩ : ∃ c2, (h2.update S (Obj.mapSeq fun _ => #[u, v])).get? S = some (seqObj "list" #[u, v] c2) := ⟨_, get?_update_seq hS2 fun _ => #[u, v]⟩
          refine wpAny_bind ?_
          refine wpAny_updateSeq hS2 rfl (wpAny_bind (wpAny_letGo ?_))
          rw [hname]
          have I3 : Inv X pins σ H2 (⟨h2.update S (Obj.mapSeq fun _ => #[u, v]), g2', d2, t2, o2⟩ : Shared) := rs.turn (t' := t2) I2 nS2 fun c o hc e => sb2.extBut c o hc e
          refine wpAny_pure ⟨plainId_quiet PySem.F.plain_max_loop _, ih (j + 1) (j + 1) _ H2 u v x v' c2 (by omega) hlt I3 sm12 g2 ni2 nS2 (F.keep _ _ _ st2 fun o e => sb2.extBut it o hSI.symm e) hc2 hx ru hk2 rv' (Nat.le_refl _) ⟨fun j' hj' => ?_, fun j' hj' => ?_⟩⟩
          · by_cases e : j' = j + 1
            · rw [e]; exact hI _
            · exact hA _ _ (hT _ _ _ hb' (hbest.no j' (by omega)))
          · exact hT _ _ _ hb' (hbest.no j' (by omega))
        · have hb'' : bt (j + 1) i = false := by simpa using hb'
          simp only [hb'', Bool.false_eq_true, if_false]
          refine wpAny_bind (wpAny_letGo ?_)
          rw [hname]
          refine wpAny_pure ⟨plainId_quiet PySem.F.plain_max_loop _, ih (j + 1) i s2 H2 vb kb xb yb c (by omega) hlt I2 sm12 g2 ni2 nS2 st2 hS2 hxb rvb hkb2 rkb (by omega) ⟨fun j' hj' => ?_, hbest.yes⟩⟩
          by_cases e : j' = j + 1
          · rw [e]; exact hb''
          · exact hbest.no j' (by omega)
theorem max_key {tf : Addr → Nat → Heap → Prop} (hh : A.in1.handled = none) (mk : ∀ l' : Addr, H l' = none → Feed X xs l' G (tf l')) (nx : xs ≠ []) (hcall : CallsV X A.in1 pins σ q xs KV H) (hcmp : CmpV X A.in1 .Gt KV bt) (hKV : ∀ i v H1 H2, KV i v H1 → Same H1 H2 → KV i v H2)
    (hT : ∀ i j l, bt i j = true → bt l j = false → bt i l = true) (hA : ∀ i j, bt i j = true → bt j i = false) (hI : ∀ i, bt i i = false) (g : G H) (I : Inv X pins σ H s) {Q : Value → Shared → Prop} {u0 : Value}
    (iter : ∀ (Q' : Value → Shared → Prop), (∀ (o : Obj), tf s.heap.objs.size 0 (s.heap.push o) → Q' (.ref s.heap.objs.size) { s with heap := s.heap.push o }) → wpAny (model X.prog X.w) A.in1 (pyIter u0) Q' E s)
    (hR : ∀ i x u s' H', Inv X pins σ H' s' → Same H H' → xs[i]? = some x → RelV x u → FstBest bt xs.length i → Q u s') :
    wpAny (model X.prog X.w) A (call (.builtin "max") [u0] [(PySem.Str.ofString "key", .ref q)]) Q E s := by
  have hname : (toString "max" ++ toString ".loop" : String) = "max.loop" := by decide
  refine kmk_tree PySem.F.kind_max PySem.F.plain_max PySem.F.entry_max (kmk_max_key _ _) ?_
  show wpAny _ A.in1 (Builtin.Builtins.bindParams "max" ["key", "default"] 0 ⟨[], [(PySem.Str.ofString "key", .ref q)]⟩ >>= _) _ _ s
  refine wpAny_bind (wpAny_of_eq (show Builtin.Builtins.bindParams "max" ["key", "default"] 0 ⟨[], [(PySem.Str.ofString "key", .ref q)]⟩ = pure [some (.ref q), none] from rfl) ?_)
  refine wpAny_bind (wpAny_pure ?_)
  refine wpAny_bind (iter _ fun oI st => ?_)
  have hni : H s.heap.objs.size = none := I.hok.fresh (Nat.le_refl _)
  have F := mk s.heap.objs.size hni
  have ri : Rec X pins s.heap.objs.size := rec_new I (Nat.le_refl _)
  have I1 : Inv X pins σ H { s with heap := s.heap.push oI } := I.kept (t' := s.toks) fun b u e => Heap.get?_push_of_some _ e
  have hSn : (s.heap.push oI).objs.size ≠ s.heap.objs.size := by rw [size_push']; omega
  refine wpAny_bind (wpAny_newList ?_ (Nat.zero_le _))
  rw [hname]
  have nS : H (s.heap.push oI).objs.size = none := I1.hok.fresh (Nat.le_refl _)
  have rs : Rec X pins (s.heap.push oI).objs.size := rec_new I1 (Nat.le_refl _)
  have I2 : Inv X pins σ H { s with heap := (s.heap.push oI).push (seqObj "list" #[] 0) } := I1.kept (t' := s.toks) fun b u e => Heap.get?_push_of_some _ e
  have gS : ((s.heap.push oI).push (seqObj "list" #[] 0)).get? (s.heap.push oI).objs.size = some (seqObj "list" #[] 0) := Heap.get?_push_size _ rfl
  have st1 : tf s.heap.objs.size 0 ((s.heap.push oI).push (seqObj "list" #[] 0)) := F.keep _ _ _ st fun o e => Heap.get?_push_of_some _ e
  refine wpAny_pure ⟨plainId_quiet PySem.F.plain_max_loop _, ?_⟩
  generalize (s.heap.push oI).objs.size = S at hSn nS rs gS
  generalize hh2 : (s.heap.push oI).push (seqObj "list" #[] 0) = hp at I2 gS st1
  obtain ⟨x0, xs', e⟩ := List.exists_cons_of_ne_nil nx
  have hx : xs[0]? = some x0 := by rw [e]; rfl
  refine codeAny_builtin PySem.F.entry_max_loop ?_
  rw [Around.under_plainId PySem.F.plain_max_loop _]
  show wpAny _ A.in1 (seqItems? (.ref _) >>= _) _ _ _
  refine wpAny_bind (wpAny_seqItems gS rfl ?_)
  show wpAny _ A.in1 (tryCatch (pyNext (.ref s.heap.objs.size)) _ >>= _) _ _ _
  refine wpAny_bind (wpAny_tryCatch (F.item A.in1 pins _ σ H _ _ 0 x0 I2 st1 g hx fun u h' ru st' sb => ?_))
  have I3 : Inv X pins σ H { s with heap := h' } := Rec.turn (s := { s with heap := hp }) (t' := s.toks) ri I2 hni fun c o hc e => sb.extBut c o hc e
  have hS' : h'.get? S = some (seqObj "list" #[] 0) := sb.extBut S _ hSn gS
  show wpAny _ A.in1 (tryCatch (holding [u] (call (.ref q) [u])) _ >>= _) _ _ _
  refine wpAny_bind (wpAny_tryCatch (wpAny_holding (wpAny_call (codeAny_mono (hcall _ H 0 x0 u hx ru I3 fun _ _ z => z) fun rr s2 hrr => ?_))))
  cases rr with
  | error er => exact False.elim hrr
  | ok fl =>
    cases fl with
    | next => exact False.elim hrr
    | brk => exact False.elim hrr
    | cont => exact False.elim hrr
    | ret v =>
      obtain ⟨v', H2, os, bare, un, hok, rv', sm2, hk2⟩ := (show CE X.stack X.prog X.w H { s with heap := h' } _ v s2 from hrr)
      have I4 : Inv X pins σ H2 s2 := I3.call' os un hok bare (fun b z => absurd z List.not_mem_nil)
      have keep : ∀ {b : Addr} {ob : Obj}, Rec X pins b → H b = none → h'.get? b = some ob → s2.heap.get? b = some ob := fun rb ub eb => un.keep _ _ eb ub rb.fr List.not_mem_nil
      have fr2 : ∀ {b : Addr} {ob : Obj}, H b = none → h'.get? b = some ob → H2 b = none := fun ub eb => un.free _ _ eb ub List.not_mem_nil
      have st2 : tf s.heap.objs.size (0 + 1) s2.heap := F.keep _ _ _ st' fun o e => keep ri hni e
      obtain ⟨oi, hoi⟩ := F.obj _ _ st'
      have ni2 := fr2 hni hoi
      have nS2 := fr2 nS hS'
      have hS2 := keep rs nS hS'
      have g2 := F.same _ _ g sm2
      try dsimp only
      obtain ⟨h2, g2', d2, t2, o2⟩ := s2
      have sb2 : Heap.SameBut S h2 (h2.update S (Obj.mapSeq fun _ => #[u, v])) := Heap.SameBut.update ..
      obtain ⟨c2, hc2⟩ : ∃ c2, (h2.update S (Obj.mapSeq fun _ => #[u, v])).get? S = some (seqObj "list" #[u, v] c2) := ⟨_, get?_update_seq hS2 fun _ => #[u, v]⟩
      show wpAny _ A.in1 (updateSeq S (fun _ => #[u, v]) >>= _) _ _ _
      refine wpAny_bind ?_
      refine wpAny_updateSeq hS2 rfl ?_
      rw [hname]
      have I5 : Inv X pins σ H2 (⟨h2.update S (Obj.mapSeq fun _ => #[u, v]), g2', d2, t2, o2⟩ : Shared) := rs.turn (t' := t2) I4 nS2 fun c o hc e => sb2.extBut c o hc e
      refine wpAny_pure ⟨plainId_quiet PySem.F.plain_max_loop _, max_loop hh F ri rs hSn hcall hcmp hKV hT hA hI ?_ _ 0 0 _ H2 u v x0 v' c2 rfl (by rw [e]; simp) I5 sm2 g2 ni2 nS2 (F.keep _ _ _ st2 fun o e => sb2.extBut _ o hSn.symm e) hc2 hx ru hk2 rv' (Nat.le_refl _) ⟨fun j' hj' => ?_, fun j' hj' => absurd hj' (Nat.not_lt_zero _)⟩⟩
      · exact fun i x u s' H' J sm hx hr hb => hR i x u s' H' J sm hx hr hb
      · rw [show j' = 0 by omega]; exact hI _
end
end Mc
namespace Mc
open PySem L2 PySem.Spec PyProof.Rows Evl
theorem rising_pw : ∀ (r : List PySem.Str) (p : PySem.Str), risingS p r = true → (p :: r).Pairwise fun a b => ¬ ltN b a
  | [], p, _ => List.pairwise_singleton _ _
  | x :: r, p, h => by
    unfold risingS at h
    rw [Bool.and_eq_true] at h
    have ih := rising_pw r x h.2
    have px : ¬ ltN x p := by
      have h1 := h.1
      rw [ltCps_eq] at h1
      intro z
      rw [decide_eq_true (show x.cps.toList < p.cps.toList from z)] at h1
      cases h1
    refine List.pairwise_cons.mpr ⟨fun y hy => ?_, ih⟩
    rcases List.mem_cons.mp hy with e | e
    · rw [e]; exact px
    · intro z
      have xy := (List.pairwise_cons.mp ih).1 y e
      by_cases ep : p = x
      · rw [ep] at z; exact xy z
      · by_cases ey : y = x
        · rw [ey] at z; exact px z
        · exact ltN_irr _ (ltN_trans (ltN_trans (ltN_tri px fun q => ep q.symm) (ltN_tri xy ey)) z)
theorem srt_pw {ys : List PySem.Str} (h : sortedS ys = true) : ys.Pairwise fun a b => ¬ ltN b a := by
  cases ys with
  | nil => exact .nil
  | cons x r => exact rising_pw r x h
theorem srt_eq {ys zs : List PySem.Str} (hp : ys.Perm zs) (h1 : sortedS ys = true) (h2 : sortedS zs = true) : ys = zs :=
  List.Perm.eq_of_pairwise (le := fun a b => ¬ ltN b a) (fun a b _ _ h k => Classical.byContradiction fun n => h (ltN_tri k n)) (srt_pw h1) (srt_pw h2) hp
theorem perm_nd {α : Type} [DecidableEq α] {a b : List α} (h1 : a.Nodup) (h2 : b.Nodup) (h : ∀ x, x ∈ a ↔ x ∈ b) : a.Perm b := by
  refine List.perm_iff_count.mpr fun x => ?_
  by_cases e : x ∈ a
  · rw [h1.count, h2.count, if_pos e, if_pos ((h x).mp e)]
  · rw [h1.count, h2.count, if_neg e, if_neg fun z => e ((h x).mpr z)]
def pdS (xs : List PySem.Str) : PyData := .list (xs.map PyData.str)
theorem dpAllS (K : PySem.W.Frag) (H : Hp) : ∀ xs : List PySem.Str, DpAll K H (xs.map V.str) (xs.map PyData.str)
  | [] => .nil
  | x :: xs => .cons (.str x) (dpAllS K H xs)
theorem dpS {K : PySem.W.Frag} {H : Hp} {a : Addr} {xs : List PySem.Str} (h : SqL K H a (xs.map V.str)) : Dp K H (.ref a) (pdS xs) := .lst h (dpAllS K H xs)
theorem lay_of {x : PySem.Str} (h : PyData.strOk x = true) : PyData.canLay0 (.str x) = true := by rw [PyData.canLay0]; exact h
theorem layS : ∀ xs : List PySem.Str, (∀ x ∈ xs, PyData.strOk x = true) → PyData.canLayAll0 (xs.map PyData.str) = true
  | [], _ => rfl
  | x :: xs, h => by
    show (PyData.canLay0 (.str x) && PyData.canLayAll0 (xs.map PyData.str)) = true
    rw [layS xs fun y hy => h y (.tail _ hy), lay_of (h x (.head _))]; rfl
theorem depS : ∀ xs : List PySem.Str, PyData.depthAll (xs.map PyData.str) = 0
  | [] => rfl
  | x :: xs => by
    show max (PyData.depth (.str x)) (PyData.depthAll (xs.map PyData.str)) = 0
    rw [depS xs]; rfl
theorem shapedS {xs : List PySem.Str} (hx : ∀ x ∈ xs, PyData.strOk x = true) : SeqAt.shaped (pdS xs) = true := by
  have h : PyData.depth (pdS xs) = PyData.depthAll (xs.map PyData.str) + 1 := by unfold pdS; rw [PyData.depth]
  have h2 : (pdS xs).canLay0 = true := by unfold pdS; rw [PyData.canLay0]; exact layS xs hx
  unfold SeqAt.shaped
  rw [h, depS, h2]; rfl
theorem eqvS (xs : List PySem.Str) : PyData.eqv (pdS xs) (pdS xs) = true := by
  unfold pdS
  rw [PyData.eqv]
  induction xs with
  | nil => rfl
  | cons x xs ih =>
    show (PyData.eqv (.str x) (.str x) && PyData.eqvAll (xs.map PyData.str) (xs.map PyData.str)) = true
    rw [ih]
    simp [PyData.eqv]
theorem eqvAllS : ∀ xs ys : List PySem.Str, PyData.eqvAll (xs.map PyData.str) (ys.map PyData.str) = decide (xs = ys)
  | [], [] => rfl
  | [], y :: ys => by simp [PyData.eqvAll]
  | x :: xs, [] => by simp [PyData.eqvAll]
  | x :: xs, y :: ys => by
    show (PyData.eqv (.str x) (.str y) && PyData.eqvAll (xs.map PyData.str) (ys.map PyData.str)) = _
    rw [eqvAllS xs ys]
    have : PyData.eqv (.str x) (.str y) = (x == y) := by rw [PyData.eqv]
    rw [this]
    by_cases h : x = y <;> simp [h]
theorem eqvLS (xs ys : List PySem.Str) : PyData.eqv (pdS xs) (pdS ys) = decide (xs = ys) := by
  unfold pdS
  rw [PyData.eqv]
  exact eqvAllS xs ys
def pdTS (xs : List PySem.Str) : PyData := .tuple (xs.map PyData.str)
theorem eqvTS (xs ys : List PySem.Str) : PyData.eqv (pdTS xs) (pdTS ys) = decide (xs = ys) := by
  unfold pdTS
  rw [PyData.eqv]
  exact eqvAllS xs ys
theorem shapedTS {xs : List PySem.Str} (hx : ∀ x ∈ xs, PyData.strOk x = true) : SeqAt.shaped (pdTS xs) = true := by
  have h : PyData.depth (pdTS xs) = PyData.depthAll (xs.map PyData.str) + 1 := by unfold pdTS; rw [PyData.depth]
  have h2 : (pdTS xs).canLay0 = true := by unfold pdTS; rw [PyData.canLay0]; exact layS xs hx
  unfold SeqAt.shaped
  rw [h, depS, h2]; rfl
theorem dpTS {K : PySem.W.Frag} {H : Hp} {a : Addr} {xs : List PySem.Str} (h : SqT K H a (xs.map V.str)) : Dp K H (.ref a) (pdTS xs) := .tup h (dpAllS K H xs)
section
variable {K : PySem.W.Frag} {H : Hp} {p q : Addr} {xs ys : List PySem.Str}
theorem rv_eqSL (hp : SqL K H p (xs.map V.str)) (hq : SqL K H q (ys.map V.str)) (ox : ∀ x ∈ xs, PyData.strOk x = true) (oy : ∀ x ∈ ys, PyData.strOk x = true) : RV (rEqD K) (.ref p) (.ref q) H (.bl (decide (xs = ys))) := fun H1 e _ k =>
  ⟨_, _, dpS (ex_l e hp), dpS (ex_l e hq), shapedS ox, shapedS oy, by rw [eqvLS]; exact k H1 (Ex.refl _)⟩
theorem rv_neSL (hp : SqL K H p (xs.map V.str)) (hq : SqL K H q (ys.map V.str)) (ox : ∀ x ∈ xs, PyData.strOk x = true) (oy : ∀ x ∈ ys, PyData.strOk x = true) : RV (rNeD K) (.ref p) (.ref q) H (.bl (!decide (xs = ys))) := fun H1 e _ k =>
  ⟨_, _, dpS (ex_l e hp), dpS (ex_l e hq), shapedS ox, shapedS oy, by rw [eqvLS]; exact k H1 (Ex.refl _)⟩
theorem rv_eqST (hp : SqT K H p (xs.map V.str)) (hq : SqT K H q (ys.map V.str)) (ox : ∀ x ∈ xs, PyData.strOk x = true) (oy : ∀ x ∈ ys, PyData.strOk x = true) : RV (rEqD K) (.ref p) (.ref q) H (.bl (decide (xs = ys))) := fun H1 e _ k =>
  ⟨_, _, dpTS (ex_t e hp), dpTS (ex_t e hq), shapedTS ox, shapedTS oy, by rw [eqvTS]; exact k H1 (Ex.refl _)⟩
theorem rv_neST (hp : SqT K H p (xs.map V.str)) (hq : SqT K H q (ys.map V.str)) (ox : ∀ x ∈ xs, PyData.strOk x = true) (oy : ∀ x ∈ ys, PyData.strOk x = true) : RV (rNeD K) (.ref p) (.ref q) H (.bl (!decide (xs = ys))) := fun H1 e _ k =>
  ⟨_, _, dpTS (ex_t e hp), dpTS (ex_t e hq), shapedTS ox, shapedTS oy, by rw [eqvTS]; exact k H1 (Ex.refl _)⟩
end
theorem asc_eq {ys zs : List PySem.Str} (n1 : ys.Nodup) (n2 : zs.Nodup) (h1 : sortedS ys = true) (h2 : sortedS zs = true) (h : ∀ x, x ∈ ys ↔ x ∈ zs) : ys = zs := srt_eq (perm_nd n1 n2 h) h1 h2
theorem sorted_of_pw {ys : List PySem.Str} (h : ys.Pairwise fun a b => ltN a b) : sortedS ys = true := by
  refine sortedS_of_pairwise ys (h.imp fun {a b} z => ?_)
  rw [ltCps_eq]
  exact decide_eq_false (List.not_lt.mpr (List.le_of_lt z))
end Mc
namespace Mc
open PySem L2 PySem.Spec PyProof.Rows FbM LamX NdefX
/-! min(e, key=lambda x: ..), max(..) as expressions -/
/-- a kind of keys: what stands for the i-th key, and when it is before another one -/
structure KKey (κ : Type) where
  KV : κ → Nat → V → Hp → Prop
  bt : κ → Nat → Nat → Bool
  per : ∀ k i v H1 H2, KV k i v H1 → Same H1 H2 → KV k i v H2
  tr : ∀ k i j l, bt k i j = true → bt k l j = false → bt k i l = true
  as : ∀ k i j, bt k i j = true → bt k j i = false
  ir : ∀ k i, bt k i i = false
/-- ints, the least first -/
def kLo : KKey (Nat → Int) where
  KV := fun kf i v _ => v = .int (kf i)
  bt := fun kf i j => decide (kf i < kf j)
  per := fun _ _ _ _ _ h _ => h
  tr := fun k i j l h1 h2 => by simp at *; omega
  as := fun k i j h => by simp at *; omega
  ir := fun k i => by simp
/-- ints, the greatest first -/
def kHi : KKey (Nat → Int) where
  KV := fun kf i v _ => v = .int (kf i)
  bt := fun kf i j => decide (kf i > kf j)
  per := fun _ _ _ _ _ h _ => h
  tr := fun k i j l h1 h2 => by simp at *; omega
  as := fun k i j h => by simp at *; omega
  ir := fun k i => by simp
theorem rkLe_tot (kf : PySem.Str → Int) (x y : PySem.Str) : rkLe kf x y ∨ rkLe kf y x := by
  unfold rkLe
  rcases Int.lt_trichotomy (kf x) (kf y) with h | h | h
  · exact .inl (.inl h)
  · by_cases z : ltN y x
    · exact .inr (.inr ⟨h.symm, fun q => ltN_irr _ (ltN_trans q z)⟩)
    · exact .inl (.inr ⟨h, z⟩)
  · exact .inr (.inl h)
theorem rkLe_tr (kf : PySem.Str → Int) {x y z : PySem.Str} (h1 : rkLe kf x y) (h2 : rkLe kf y z) : rkLe kf x z := by
  have hx : PySem.W.dataLe false (kdM kf) x y = true := kdM_le.mpr h1
  unfold rkLe at *
  rcases h1 with h1 | ⟨h1, n1⟩ <;> rcases h2 with h2 | ⟨h2, n2⟩
  · exact .inl (by omega)
  · exact .inl (by omega)
  · exact .inl (by omega)
  · refine .inr ⟨by omega, fun q => ?_⟩
    by_cases a : x = y
    · rw [a] at q; exact n2 q
    · by_cases b : ltN x y
      · exact n2 (ltN_trans q b)
      · exact n1 (ltN_tri b a)
open Classical in
/-- pairs (an int, a text), the least first -/
noncomputable def kPr : KKey ((PySem.Str → Int) × (Nat → PySem.Str)) where
  KV := fun k i v H => ∃ p, v = .ref p ∧ H p = some (.tup [.int (k.1 (k.2 i)), .str (k.2 i)])
  bt := fun k i j => decide (¬ rkLe k.1 (k.2 j) (k.2 i))
  per := fun _ _ _ _ _ ⟨p, e, h⟩ s => ⟨p, e, s _ _ h⟩
  tr := fun k i j l h1 h2 => by
    rw [decide_eq_true_eq] at *
    rw [decide_eq_false_iff_not, Classical.not_not] at h2
    exact fun z => h1 (rkLe_tr _ h2 z)
  as := fun k i j h => by
    rw [decide_eq_true_eq] at h
    rw [decide_eq_false_iff_not, Classical.not_not]
    exact (rkLe_tot k.1 _ _).resolve_right h
  ir := fun k i => by
    rw [decide_eq_false_iff_not, Classical.not_not]
    exact (rkLe_tot k.1 _ _).elim id id
section
variable {X : Cx} {A : Around}
theorem cmp_lo (kf : Nat → Int) : CmpV X A .Lt (kLo.KV kf) (kLo.bt kf) := fun pins σ H s i j x y u v Q E I hx rx hy ry h => by
  obtain rfl : x = .int (kf i) := hx
  obtain rfl : y = .int (kf j) := hy
  obtain ⟨t, rfl⟩ := rx
  obtain ⟨t', rfl⟩ := ry
  exact CmpOf.ints_lt (prog := X.prog) (w := X.w) (A := A) (P := fun i v => ∃ t, v = .int (kf i) t) kf (fun i v h => h) i j _ _ _ _ _ ⟨t, rfl⟩ ⟨t', rfl⟩ h
theorem cmp_hi (kf : Nat → Int) : CmpV X A .Gt (kHi.KV kf) (kHi.bt kf) := fun pins σ H s i j x y u v Q E I hx rx hy ry h => by
  obtain rfl : x = .int (kf i) := hx
  obtain rfl : y = .int (kf j) := hy
  obtain ⟨t, rfl⟩ := rx
  obtain ⟨t', rfl⟩ := ry
  exact CmpOf.ints_gt (prog := X.prog) (w := X.w) (A := A) (P := fun i v => ∃ t, v = .int (kf i) t) kf (fun i v h => h) i j _ _ _ _ _ ⟨t, rfl⟩ ⟨t', rfl⟩ h
theorem cmp_pr (hu : A.units + 1 < cLine) (k : (PySem.Str → Int) × (Nat → PySem.Str)) : CmpV X A .Lt (kPr.KV k) (kPr.bt k) := fun pins σ H s i j x y u v Q E I hx rx hy ry h => by
  obtain ⟨p, rfl, hp⟩ := hx
  obtain ⟨q, rfl, hq⟩ := hy
  cases rx
  cases ry
  refine PySem.W.lt_data (tup_reads I.hok hp) (tup_reads I.hok hq) (kdM_alike k.1 _ _) (by intro e; cases e) (by rw [show PyData.depth (.tuple [.int (k.1 (k.2 i)), .str (k.2 i)]) = 1 from kdM_depth k.1 _, show PyData.depth (.tuple [.int (k.1 (k.2 j)), .str (k.2 j)]) = 1 from kdM_depth k.1 _]; exact hu) ?_
  have e : (!PySem.W.dataLt (kdM k.1 (k.2 i)) (kdM k.1 (k.2 j))) = true ↔ rkLe k.1 (k.2 j) (k.2 i) := kdM_le
  have e2 : PySem.W.dataLt (.tuple [.int (k.1 (k.2 i)), .str (k.2 i)]) (.tuple [.int (k.1 (k.2 j)), .str (k.2 j)]) = kPr.bt k i j := by
    show PySem.W.dataLt (kdM k.1 (k.2 i)) (kdM k.1 (k.2 j)) = @decide (¬ rkLe k.1 (k.2 j) (k.2 i)) _
    by_cases z : rkLe k.1 (k.2 j) (k.2 i)
    · rw [@decide_eq_false _ _ (by simpa using z)]
      have := e.mpr z
      simpa using this
    · rw [@decide_eq_true _ _ z]
      cases w : PySem.W.dataLt (kdM k.1 (k.2 i)) (kdM k.1 (k.2 j)) with
      | true => rfl
      | false => rw [w] at e; exact absurd (e.mp rfl) z
  rw [e2]
  exact h
end
def SqB (K : PySem.W.Frag) (b : Bool) (H : Hp) (a : Addr) (xs : List V) : Prop := if b then SqL K H a xs else SqT K H a xs
/-- the reading: the item whose key is the first best -/
def tExL {κ : Type} (KK : KKey κ) (K : PySem.W.Frag) (b : Bool) (T : List NTab) (mk : Addr → NF) (bd : Expr) (js : List Nat) (sp : Addr → Addr → List (Option V) → Sp) (ta : TE) : TE := fun σ H Q => ta σ H fun x H1 => TabsN T H1 ∧ ∀ (f c' : Addr) (H2 : Hp), ExtN H1 H2 → (∀ b, H2 b = none → H1 b = none) → TabsN T H2 → H1 f = none → H2 f = some (LmO f (mk c') bd) → H2 c' = some (CodeO c' (mk c').qual) →
  ∃ (a : Addr) (xs : List V) (k : κ), x = .ref a ∧ SqB K b H2 a xs ∧ xs ≠ [] ∧
  (∀ i y, xs[i]? = some y → ∀ H', Same H2 H' → sp f c' (js.map (slotAt σ)) [y] H' (fun v H3 => Same H' H3 ∧ KK.KV k i v H3) E0) ∧
  ∀ i y H', Same H2 H' → xs[i]? = some y → FstBest (KK.bt k) xs.length i → Q y H'

section
variable {X : Cx} {k : Nat} {fr : List PySem.Str} {js : List Nat} {sp : Addr → Addr → List (Option V) → Sp} {e : Expr} {ta : TE} {p pos kpos lpos : Pos} {T : List NTab} {nm : Nat → Nat → PySem.Str} {c P' : Addr} {params : Arguments} {bd : Expr} {scope : Scope} {x0 : PySem.Str} {κ : Type}
theorem pe_minL (KK : KKey κ) (b : Bool) (hcmp : ∀ k, CmpV X X.A.in1 .Lt (KK.KV k) (KK.bt k)) (hcalm : X.calm = true) (TB : TabB X.base X.mg c P') (hcode : X.env.code = .ref c) (hm' : (P', nm) ∈ T) (hn : nm lpos.line lpos.col = X.env.qual ++ "<lambda>") (hu' : ∀ p ∈ T, p.1 = P' → p.2 = nm) (hdef : defaultsOf params X.env = ([], []))
    (hfree : ∀ y ∈ scope.names, y.2 = .free → X.env.scope.names.lookup y.1 = some .cell ∨ X.env.scope.names.lookup y.1 = some .free)
    (L : ∀ f c', LOk X.prog X.w X.K X.mg X.base CX0 k f (lamF X params scope c') bd [x0] fr (sp f c')) (cp : X.Ok → Caps X (cloFrom X.env.cells scope.names []) fr js) (hr : Room (k + 1) X.A) (hg : Gl X "min") (hm : X.mg "min" = none) (he : PE X e ta)
    (hs1 : starEach [e] X.env = (false, eval e X.env) :: starEach [] X.env := by rfl)
    (hst : backTo pos (starEach [e] X.env) = (false, eval e X.env) :: backTo pos (starEach [] X.env) := by rfl) (hpl : (backTo pos (starEach [e] X.env)).any (·.1) = false := by rfl)
    (hall : (backToKw pos (keywordEach [⟨some "key", .Lambda params bd scope lpos, kpos⟩] X.env)).all (·.1.isSome) = true := by rfl) (hno : (backToKw pos (keywordEach [⟨some "key", .Lambda params bd scope lpos, kpos⟩] X.env)).any (·.1.isNone) = false := by rfl)
    (hks : (backToKw pos (keywordEach [⟨some "key", .Lambda params bd scope lpos, kpos⟩] X.env)).filterMap (·.1) = [PySem.Str.ofString "key"] := by rfl) :
    PE X (.Call (.Name "min" p) [e] [⟨some "key", .Lambda params bd scope lpos, kpos⟩] pos) (tExL KK X.K b T (lamF X params scope) bd js sp ta) := by
  refine ⟨fun pins s σ H Q I h => ?_⟩
  refine wpAny_Call_Name_kw (ld_blt I hg hm rfl ?_ (by decide) (by decide))
  show wpAny _ _ (callWith pos (.builtin "min") [] _ _) _ _ _
  refine callWith_kw (thn ((pa_cons he pa_nil hs1).run pos pins s σ H (fun vs H1 => match vs with
    | [x] => TabsN T H1 ∧ ∀ (f c' : Addr) (H2 : Hp), ExtN H1 H2 → (∀ b, H2 b = none → H1 b = none) → TabsN T H2 → H1 f = none → H2 f = some (LmO f (lamF X params scope c') bd) → H2 c' = some (CodeO c' (lamF X params scope c').qual) →
        ∃ (a : Addr) (xs : List V) (k : κ), x = .ref a ∧ SqB X.K b H2 a xs ∧ xs ≠ [] ∧
        (∀ i y, xs[i]? = some y → ∀ H', Same H2 H' → sp f c' (js.map (slotAt σ)) [y] H' (fun v H3 => Same H' H3 ∧ KK.KV k i v H3) E0) ∧
        ∀ i y H', Same H2 H' → xs[i]? = some y → FstBest (KK.bt k) xs.length i → Q y H'
    | _ => False) I h) fun us s1 hu => ?_) hst hpl hall hno
  obtain ⟨vs, H1, I1, r1, q1⟩ := hu
  match vs, q1 with
  | [x], q1 =>
    obtain ⟨hT, q1⟩ := q1
    refine wpAny_evalAll_cons (wpAny_bind (lam_mk I1 TB hcode hm' hn hu' hT hdef (fun y hy e => I1.ok.has _ (hfree y hy e)) fun f c' H2 s2 I2 x1 x2 T2 n1 hf hc => ?_))
    obtain ⟨a, xs, kk, rfl, hx, nx, tu, fin⟩ := q1 f c' H2 x1 x2 T2 n1 hf hc
    refine wpAny_bind (wpAny_standAt (wpAny_pure ?_))
    refine wpAny_evalAll_nil ?_
    rw [hks]
    obtain rfl := Vals.ref1 r1
    have hcall : CallsV X X.A.in1 pins σ f xs (KK.KV kk) H2 := fun s' H' i y u hy ru I' sm => by
      have e0 := I'.env0
      have e1' : Env0 X.prog X.w X.K X.mg X.base X.A.in1 X.stack s' H' := ⟨I2.ok.frames, e0.mod, e0.bs, e0.bsz, e0.funs, e0.frf, e0.hok, e0.bare⟩
      exact (L f c').run X.A.in1 X.stack s' H' _ [y] _ _ E0 hr.in1 e1' (sm _ _ hf) (sm _ _ hc) (cells_of I' (cp I'.ok)) (.cons ru .nil) (tu i y hy H' sm)
    cases b with
    | true =>
      obtain ⟨its, rv, pl, hz⟩ := I2.list hx
      refine min_key (A := X.A) (xs := xs) (u0 := .ref a) (I2.ok.hd hcalm) (G := fun H => SqL X.K H a xs) (tf := fun l' i h => h.IsListIter l' a i) (fun l' _ => feed_list a l') nx hcall ?_ (KK.per kk) (KK.tr kk) (KK.as kk) (KK.ir kk) hx I2 (fun Q' q' => wpAny_pyIter_list pl.isList (q' _ ⟨_, Heap.get?_push_size _ rfl, rfl, rfl⟩)) fun i y u s' H' J sm hy ru hb => ?_
      · exact hcmp kk
      · exact ⟨y, H', J, ru, fin i y H' sm hy hb⟩
    | false =>
      obtain ⟨its, rv, pl, hz⟩ := I2.tuple hx
      refine min_key (A := X.A) (xs := xs) (u0 := .ref a) (I2.ok.hd hcalm) (G := fun H => SqT X.K H a xs) (tf := fun l' i h => h.IsTupleIter l' a i) (fun l' _ => feed_tup a l') nx hcall ?_ (KK.per kk) (KK.tr kk) (KK.as kk) (KK.ir kk) hx I2 (fun Q' q' => wpAny_pyIter_tuple (show s2.heap.IsTuple a its.toArray from pl) (q' _ ⟨_, Heap.get?_push_size _ rfl, rfl, rfl⟩)) fun i y u s' H' J sm hy ru hb => ?_
      · exact hcmp kk
      · exact ⟨y, H', J, ru, fin i y H' sm hy hb⟩
end

section
variable {X : Cx} {k : Nat} {fr : List PySem.Str} {js : List Nat} {sp : Addr → Addr → List (Option V) → Sp} {e : Expr} {ta : TE} {p pos kpos lpos : Pos} {T : List NTab} {nm : Nat → Nat → PySem.Str} {c P' : Addr} {params : Arguments} {bd : Expr} {scope : Scope} {x0 : PySem.Str} {κ : Type}
theorem pe_maxL (KK : KKey κ) (b : Bool) (hcmp : ∀ k, CmpV X X.A.in1 .Gt (KK.KV k) (KK.bt k)) (hcalm : X.calm = true) (TB : TabB X.base X.mg c P') (hcode : X.env.code = .ref c) (hm' : (P', nm) ∈ T) (hn : nm lpos.line lpos.col = X.env.qual ++ "<lambda>") (hu' : ∀ p ∈ T, p.1 = P' → p.2 = nm) (hdef : defaultsOf params X.env = ([], []))
    (hfree : ∀ y ∈ scope.names, y.2 = .free → X.env.scope.names.lookup y.1 = some .cell ∨ X.env.scope.names.lookup y.1 = some .free)
    (L : ∀ f c', LOk X.prog X.w X.K X.mg X.base CX0 k f (lamF X params scope c') bd [x0] fr (sp f c')) (cp : X.Ok → Caps X (cloFrom X.env.cells scope.names []) fr js) (hr : Room (k + 1) X.A) (hg : Gl X "max") (hm : X.mg "max" = none) (he : PE X e ta)
    (hs1 : starEach [e] X.env = (false, eval e X.env) :: starEach [] X.env := by rfl)
    (hst : backTo pos (starEach [e] X.env) = (false, eval e X.env) :: backTo pos (starEach [] X.env) := by rfl) (hpl : (backTo pos (starEach [e] X.env)).any (·.1) = false := by rfl)
    (hall : (backToKw pos (keywordEach [⟨some "key", .Lambda params bd scope lpos, kpos⟩] X.env)).all (·.1.isSome) = true := by rfl) (hno : (backToKw pos (keywordEach [⟨some "key", .Lambda params bd scope lpos, kpos⟩] X.env)).any (·.1.isNone) = false := by rfl)
    (hks : (backToKw pos (keywordEach [⟨some "key", .Lambda params bd scope lpos, kpos⟩] X.env)).filterMap (·.1) = [PySem.Str.ofString "key"] := by rfl) :
    PE X (.Call (.Name "max" p) [e] [⟨some "key", .Lambda params bd scope lpos, kpos⟩] pos) (tExL KK X.K b T (lamF X params scope) bd js sp ta) := by
  refine ⟨fun pins s σ H Q I h => ?_⟩
  refine wpAny_Call_Name_kw (ld_blt I hg hm rfl ?_ (by decide) (by decide))
  show wpAny _ _ (callWith pos (.builtin "max") [] _ _) _ _ _
  refine callWith_kw (thn ((pa_cons he pa_nil hs1).run pos pins s σ H (fun vs H1 => match vs with
    | [x] => TabsN T H1 ∧ ∀ (f c' : Addr) (H2 : Hp), ExtN H1 H2 → (∀ b, H2 b = none → H1 b = none) → TabsN T H2 → H1 f = none → H2 f = some (LmO f (lamF X params scope c') bd) → H2 c' = some (CodeO c' (lamF X params scope c').qual) →
        ∃ (a : Addr) (xs : List V) (k : κ), x = .ref a ∧ SqB X.K b H2 a xs ∧ xs ≠ [] ∧
        (∀ i y, xs[i]? = some y → ∀ H', Same H2 H' → sp f c' (js.map (slotAt σ)) [y] H' (fun v H3 => Same H' H3 ∧ KK.KV k i v H3) E0) ∧
        ∀ i y H', Same H2 H' → xs[i]? = some y → FstBest (KK.bt k) xs.length i → Q y H'
    | _ => False) I h) fun us s1 hu => ?_) hst hpl hall hno
  obtain ⟨vs, H1, I1, r1, q1⟩ := hu
  match vs, q1 with
  | [x], q1 =>
    obtain ⟨hT, q1⟩ := q1
    refine wpAny_evalAll_cons (wpAny_bind (lam_mk I1 TB hcode hm' hn hu' hT hdef (fun y hy e => I1.ok.has _ (hfree y hy e)) fun f c' H2 s2 I2 x1 x2 T2 n1 hf hc => ?_))
    obtain ⟨a, xs, kk, rfl, hx, nx, tu, fin⟩ := q1 f c' H2 x1 x2 T2 n1 hf hc
    refine wpAny_bind (wpAny_standAt (wpAny_pure ?_))
    refine wpAny_evalAll_nil ?_
    rw [hks]
    obtain rfl := Vals.ref1 r1
    have hcall : CallsV X X.A.in1 pins σ f xs (KK.KV kk) H2 := fun s' H' i y u hy ru I' sm => by
      have e0 := I'.env0
      have e1' : Env0 X.prog X.w X.K X.mg X.base X.A.in1 X.stack s' H' := ⟨I2.ok.frames, e0.mod, e0.bs, e0.bsz, e0.funs, e0.frf, e0.hok, e0.bare⟩
      exact (L f c').run X.A.in1 X.stack s' H' _ [y] _ _ E0 hr.in1 e1' (sm _ _ hf) (sm _ _ hc) (cells_of I' (cp I'.ok)) (.cons ru .nil) (tu i y hy H' sm)
    cases b with
    | true =>
      obtain ⟨its, rv, pl, hz⟩ := I2.list hx
      refine max_key (A := X.A) (xs := xs) (u0 := .ref a) (I2.ok.hd hcalm) (G := fun H => SqL X.K H a xs) (tf := fun l' i h => h.IsListIter l' a i) (fun l' _ => feed_list a l') nx hcall ?_ (KK.per kk) (KK.tr kk) (KK.as kk) (KK.ir kk) hx I2 (fun Q' q' => wpAny_pyIter_list pl.isList (q' _ ⟨_, Heap.get?_push_size _ rfl, rfl, rfl⟩)) fun i y u s' H' J sm hy ru hb => ?_
      · exact hcmp kk
      · exact ⟨y, H', J, ru, fin i y H' sm hy hb⟩
    | false =>
      obtain ⟨its, rv, pl, hz⟩ := I2.tuple hx
      refine max_key (A := X.A) (xs := xs) (u0 := .ref a) (I2.ok.hd hcalm) (G := fun H => SqT X.K H a xs) (tf := fun l' i h => h.IsTupleIter l' a i) (fun l' _ => feed_tup a l') nx hcall ?_ (KK.per kk) (KK.tr kk) (KK.as kk) (KK.ir kk) hx I2 (fun Q' q' => wpAny_pyIter_tuple (show s2.heap.IsTuple a its.toArray from pl) (q' _ ⟨_, Heap.get?_push_size _ rfl, rfl, rfl⟩)) fun i y u s' H' J sm hy ru hb => ?_
      · exact hcmp kk
      · exact ⟨y, H', J, ru, fin i y H' sm hy hb⟩
end
end Mc
namespace Mc.Cn
open PySem L2 PySem.Spec PyProof.Rows Evl LamX NdefX
/-! newest_row -/
abbrev sNewest : Stmt := top 16
theorem Ks.extN {H H' : Hp} (x : ExtN H H') : Ks H H' := ⟨fun b xs e => e.elim (fun z => .inl (x b _ z fun _ => by simp)) fun ⟨o, z⟩ => .inr ⟨o, x b _ z fun _ => by simp⟩, fun b xs e => x b _ e fun _ => by simp⟩
abbrev zeroBd (p1 p2 p3 : Pos) (j : Nat) : Expr := .Subscript (.Name "pair" p1) (.Constant (.int 0) j p2) p3
def spZeroL (K : PySem.W.Frag) : List (Option V) → Sp := fun ws vs H Q _ => ∃ (v : V) (q : Int × En), ws = [] ∧ vs = [v] ∧ Dp K H v (pairD q) ∧ Q (.int q.1) H
def spNewest (K : PySem.W.Frag) (T : List NTab) : Sp := fun vs H Q _ => ∃ (p : Addr) (rs : List Row) (B : Nat), vs = [.ref p] ∧ LD K H p (rs.map rowD) ∧ rs ≠ [] ∧ rs.length ≤ 1000 ∧ B ≤ 90000 ∧ (∀ r ∈ rs, r.length ≤ B) ∧ TabsN T H ∧
  ∀ (q : Addr) (H' : Hp), H q = none → ExtN H H' → (∀ b, H' b = none → H b = none) → TabsN T H' → LD K H' q ((newest rs).map En.d) → Q (.ref q) H'
section
variable {P : Program} {w : World} {K : PySem.W.Frag} {mg : PySem.Str → Option Value} {base : Heap}
theorem lok_zero {f : Addr} {F : NF} {p1 p2 p3 : Pos} {j : Nat} (S : NScope ["pair"] ["pair"] [] F.scope)
    (hb : ∀ (pm ctv : Value) (us : List Value), us.length = 1 → bindArgs (PySem.W.kla_fn "<lambda>" F.qual F.params (zeroBd p1 p2 p3 j) F.scope F.cl pm (.ref F.c) ctv) ⟨us, []⟩ = pure ((["pair"] : List PySem.Str).zip us)) :
    LOk P w K mg base CX0 1 f F (zeroBd p1 p2 p3 j) ["pair"] [] (spZeroL K) := by
  refine lok_of (N := ["pair"]) S hb (fun ws vs H Q E h => ?_) (fun A outer s H vs ws Q E hr hf hc hl h => ?_)
  · obtain ⟨v, q, _, rfl, _⟩ := h
    rfl
  · obtain ⟨v, q, rfl, rfl, hv, k⟩ := h
    have v0 : Vis F.scope "pair" := .inl (S.par "pair" (by simp))
    obtain ⟨c, x, rfl, sq, _⟩ := dp_pair hv
    refine ⟨_, pe_ix ix_tup (pe_var (i := 0) rfl v0) pe_int (fun _ _ => rfl), ?_⟩
    exact ⟨_, rfl, c, _, 0, .int q.1, rfl, rfl, sq, rfl, k⟩
theorem fun_okC {x qual : PySem.Str} {st : Stmt} {f c : Addr} {fd : FuncData} {N ps : List PySem.Str} {k : Nat} {sp : Sp} (F : Fun K x qual st f fd) (hc : fd.code = .ref c) (S : FnScope N ps (defScope st)) (len : ∀ vs H Q E, sp vs H Q E → vs.length = ps.length)
    (hbody : ∀ (A : Around) (outer : List Env) (s : Shared) (H : Hp) (vs : List V) (Q : VK) (E : XK), Room k (A.deeper (envOfC qual (defScope st) s.heap.objs.size f (.ref c))) → sp vs H Q E →
      ∃ t, PSs (cxOf CX0 P w K mg base N qual (defScope st) f (.ref c) A outer s H E).nox (defBody st) t ∧ t { nx := fun _ H' => Q .non H', rt := Q } (L2.start N vs) H) : FnOk P w K mg base CX0 (k + 1) f fd ps sp := by
  obtain ⟨oc, od, kV, doc, pm, an, cdv, ct, osl, rfl, lk, hcd⟩ := F.ex
  obtain rfl : cdv = .ref c := hc
  refine fn_of lk hcd S len fun A outer s H vs Q E hr hsp => ?_
  obtain ⟨t, h, q⟩ := hbody A outer s H vs Q E hr hsp
  exact ⟨t, h.nox, q⟩
abbrev nmNw : List PySem.Str := ["rows", "entries", "place", "pairs", "row"]
theorem scNw : FnScope nmNw ["rows"] (defScope sNewest) := ⟨rfl, rfl, rfl, by decide +kernel, rfl, by decide +kernel, by decide +kernel⟩
/-- a row of a list of rows, laid out -/
structure Rz where
  v : V
  ws : List V
  r : Row
def RzH (K : PySem.W.Frag) (H : Hp) (z : Rz) : Prop := ∃ c, z.v = .ref c ∧ SqT K H c z.ws ∧ DpAll K H z.ws (z.r.map pairD)
theorem RzH.ks {H H' : Hp} {z : Rz} (h : RzH K H z) (k : Ks H H') : RzH K H' z := by
  obtain ⟨c, e, sq, d⟩ := h
  exact ⟨c, e, sqt_ks sq k, dpA_tp k.tp _ _ (tpAP _) d⟩
theorem rz_of {H : Hp} : ∀ {rs : List Row} {us : List V}, DpAll K H us (rs.map rowD) → ∃ zs : List Rz, us = zs.map (·.v) ∧ rs = zs.map (·.r) ∧ ∀ z ∈ zs, RzH K H z
  | [], _, h => by cases h; exact ⟨[], rfl, rfl, fun _ z => nomatch z⟩
  | r :: rs, _, h => by
    cases h with
    | cons a b =>
      obtain ⟨zs, e1, e2, h3⟩ := rz_of b
      cases a with
      | tup sq da =>
        exact ⟨⟨.ref _, _, r⟩ :: zs, by rw [e1]; rfl, by rw [e2]; rfl, fun z hz => (List.mem_cons.mp hz).elim (fun e => by rw [e]; exact ⟨_, rfl, sq, da⟩) (h3 z)⟩
theorem ev_lenT {σ : L2.St} {H : Hp} {ta : TE} {p : Addr} {xs : List V} (h : Ev ta σ H (.ref p)) (hs : SqT K H p xs) : Ev (tCB (rLenS K) (tCons ta tNil)) σ H (.int xs.length) := fun H1 e Q q =>
  h H1 e _ fun H2 e2 => ⟨p, xs, rfl, .inr (ex_t (e.trans e2) hs), q H2 e2⟩
theorem ev_maxN {σ : L2.St} {H : Hp} {te : TE} {ns : List Int} {m : Int} (h : EvL te σ H (ns.map V.int)) (hm : m ∈ ns) (hle : ∀ y ∈ ns, y ≤ m) : Ev (tCB (rMax K) (tCons te tNil)) σ H (.int m) := fun H1 e Q q =>
  h H1 e _ fun p H2 _ e2 h2 => ⟨p, ns, rfl, sq_of h2, List.length_pos_iff.mpr (fun z => by rw [z] at hm; exact nomatch hm), fun m' h1 h3 => by
    have : m' = m := Int.le_antisymm (hle _ h1) (h3 _ hm)
    rw [this]; exact q H2 e2⟩
theorem tabs_lst {T : List NTab} {H : Hp} {a : Addr} {xs : List V} {o : HO} (t : TabsN T H) (h : H a = some (.lst xs)) : TabsN T (upd H a o) := fun p hp => by
  obtain ⟨ps, h1, h2, h3⟩ := t p hp
  refine ⟨ps, ?_, h2, fun pos cv hc => ?_⟩
  · rw [upd_ne fun e => by rw [e] at h1; rw [h] at h1; cases h1]; exact h1
  · obtain ⟨c, e1, e2⟩ := h3 pos cv hc
    refine ⟨c, e1, ?_⟩
    rw [upd_ne fun e => by rw [e] at e2; unfold CodeO at e2; rw [h] at e2; cases e2]; exact e2
theorem ok_newest {f c P' : Addr} {fd : FuncData} {TT : List NTab} (F : Fun K "newest_row" "newest_row" sNewest f fd) (hcd : fd.code = .ref c) (TB : TabB base mg c P') (hmT : ((P', fun _ _ => ("newest_row.<locals>.<lambda>" : PySem.Str)) : NTab) ∈ TT) (huT : ∀ p ∈ TT, p.1 = P' → p.2 = fun _ _ => ("newest_row.<locals>.<lambda>" : PySem.Str))
    (hlen : mg "len" = none) (hmax : mg "max" = none) (hrange : mg "range" = none) : FnOk P w K mg base CX0 3 f fd ["rows"] (spNewest K TT) := by
  refine fun_okC F hcd scNw (fun vs H Q E h => ?_) (fun A outer s H vs Q E hr h => ?_)
  · obtain ⟨p, rs, B, rfl, _⟩ := h
    rfl
  · obtain ⟨p, rs, B, rfl, ⟨us, hp, hD⟩, hne, hl, hB, hB2, hT, k⟩ := h
    refine ⟨_, (pss_cons (ps_set (i := 1) scNw.nd rfl (Or.inl rfl) (pe_lst pa_nil))
      (pss_cons (ps_for PassesOwn.never rfl (pi_range1 (by rfl) hrange (pa_cons (pe_callB (cr_max rfl) (by rfl) hmax boot_max (pa_cons (pe_lc (own := [("row", 4)]) (g := gName 4) (tt := tYes) rfl scNw.nd (pi_list (pv 0)) (blkOk_by (own := [("row", 4)]) (N := nmNw) (sc := defScope sNewest) (by decide +kernel)) (fun _ _ _ _ _ => pg_name (i := 4) scNw.nd rfl (Or.inl rfl)) (fun _ _ _ _ _ => pts_nil) (fun _ _ _ _ _ => (pe_callB (call_len_seqK (K := K) rfl) (by rfl) hlen PySem.boot_len (pa_cons (pv 4) pa_nil)))) pa_nil)) pa_nil)) (pg_name (i := 2) scNw.nd rfl (Or.inr rfl))
        (pss_cons (ps_setLc (i := 3) (own := [("row", 4)]) (g := gName 4) rfl scNw.nd rfl rfl (sw_true rfl rfl rfl (by decide +kernel)) (pi_list (pv 0)) (blkOk_by (own := [("row", 4)]) (N := nmNw) (sc := defScope sNewest) (by decide +kernel)) (fun _ _ _ _ _ => pg_name (i := 4) scNw.nd rfl (Or.inl rfl)) (fun _ _ _ _ _ => pts_one (pt_cmpR op_lt (pv 2) (pe_callB (call_len_seqK (K := K) rfl) (by rfl) hlen PySem.boot_len (pa_cons (pv 4) pa_nil)) (nomark _))) (fun _ _ _ _ _ => (pe_ix (ix_tupK (K := K) rfl) (pv 4) (pv 2) (fun _ _ => rfl))))
        (pss_one (ps_expr (pe_bm PySem.F.plainAttrs_list PySem.F.slot_list_append PySem.F.type_list_append mt_append (pv 1) (pa_cons (pe_ix ix_tup
          (pe_maxL kHi true (fun k => cmp_hi k) (x0 := "pair") (fr := []) (js := []) (k := 1) (sp := fun _ _ => spZeroL K) (nm := fun _ _ => "newest_row.<locals>.<lambda>") (T := TT) rfl TB rfl hmT rfl huT rfl (ndef_free (sc := defScope sNewest) (fr := []) (by decide +kernel))
            (fun f c' => lok_zero (nscope_by (by kernel_rfl)) (fun pm ctv us hl => match us, hl with | [_], _ => rfl)) (fun ok => Caps.made ok (ndef_free (sc := defScope sNewest) (fr := []) (by decide +kernel)) (ndef_fr (sc := defScope sNewest) (fr := []) (by decide +kernel)) rfl) (hr.mono (by decide)) (by rfl) hmax (pv 3))
          pe_int (fun _ _ => rfl)) pa_nil))))))
      (pss_one (ps_ret (pv 1))))), ?_⟩
    obtain ⟨zs, eu, er, hz⟩ := rz_of hD
    have lz : zs.length = rs.length := by rw [er, List.length_map]
    refine q_asgL (el_lst ea_nil (by show 0 ≤ 100000; decide)) fun q H1 hq x1 hq1 => ?_
    dsimp only [L2.start, List.set, List.map, List.replicate, List.append, List.length]
    have hqp : q ≠ p := (ne_of_none hp hq).symm
    have evL : EvL (tLc (iList K (tVar 0)) (gName 4) tYes (tCB (rLenS K) (tCons (tVar 4) tNil)) [4]) [some (.ref p), some (.ref q), none, none, none] H1 (zs.map fun z => V.int (z.r.length : Nat)) := by
      refine el_mI (j := 4) (vs := [4]) (c := fun z : Rz => z.v) (fun z => V.int (z.r.length : Nat)) (by rw [← eu]; exact ei_L (ev_var rfl) (SqL.of (x1 _ _ hp))) (by omega) (fun i z hi H' x => ?_) (fun _ => rfl)
      obtain ⟨c, e, sq, d⟩ := (hz z (List.mem_of_getElem? hi)).ks (Ks.same (x1.trans x))
      have := ev_lenT (K := K) (ta := tVar 4) (σ := (wipe [some (.ref p), some (.ref q), none, none, none] [4]).set 4 (some z.v)) (H := H') (p := c) (by rw [e]; exact ev_var rfl) sq
      rw [dpA_len d, List.length_map] at this
      exact this
    have evM : Ev (tCB (rMax K) (tCons (tLc (iList K (tVar 0)) (gName 4) tYes (tCB (rLenS K) (tCons (tVar 4) tNil)) [4]) tNil)) [some (.ref p), some (.ref q), none, none, none] H1 (.int (maxLen rs : Nat)) := by
      refine ev_maxN (ns := zs.map fun z => ((z.r.length : Nat) : Int)) (by rw [List.map_map]; exact evL) ?_ ?_
      · obtain ⟨r, hr, e⟩ := maxLen_mem hne
        rw [er] at hr
        obtain ⟨z, hz, rfl⟩ := List.mem_map.mp hr
        exact List.mem_map.mpr ⟨z, hz, by rw [e]⟩
      · intro y hy
        obtain ⟨z, hz, rfl⟩ := List.mem_map.mp hy
        have := maxLen_ge (rs := rs) (r := z.r) (by rw [er]; exact List.mem_map.mpr ⟨z, hz, rfl⟩)
        exact Int.ofNat_le.mpr this
    have hML := maxLen_le hB2
    refine q_forR1 (n := (maxLen rs : Nat)) (ea_cons evM ea_nil) ⟨by omega, by omega⟩ (fun i σ' H' => ∃ o2 o3 : Option V, σ' = [some (.ref p), some (.ref q), o2, o3, none] ∧ ExtN H H' ∧ (∀ b, H' b = none → H b = none) ∧ TabsN TT H' ∧ LD K H' q (((List.range i).map fun p => (fstMax (pairsAt rs p)).2).map En.d))
      (fun H2 x2 => ⟨none, none, rfl, ExtN.of (x1.trans x2), fun b hb => fresh_back (x1.trans x2) hb, TabsN.ext hT (x1.trans x2), [], x2 _ _ hq1, .nil⟩) ?_ ?_
    · rintro i σ' H3 hi ⟨o2, o3, rfl, x3, n3, T3, es, hq3, hE3⟩
      have hi : i < maxLen rs := by omega
      dsimp only [List.set]
      have hp3 := x3 _ _ hp (fun _ => by simp)
      have evP : EvL (tLc (iList K (tVar 0)) (gName 4) (tTest (tOp (rI0 fun i j => V.bl (decide (i < j))) (tVar 2) (tCB (rLenS K) (tCons (tVar 4) tNil)))) (tOp (rIxT K) (tVar 4) (tVar 2)) [4]) [some (.ref p), some (.ref q), some (.int (i : Nat)), o3, none] H3 ((zs.filter fun z => decide (i < z.r.length)).map fun z => z.ws.getD i .non) := by
        refine el_fI (j := 4) (vs := [4]) (c := fun z : Rz => z.v) (fun z => decide (i < z.r.length)) (fun z => z.ws.getD i .non) (by rw [← eu]; exact ei_L (ev_var rfl) (SqL.of hp3)) (by omega) (fun m z hm H' x => ?_) (fun m z hm hpz H' x => ?_) (fun _ => rfl)
        · obtain ⟨c, e, sq, d⟩ := (hz z (List.mem_of_getElem? hm)).ks ((Ks.extN x3).trans (Ks.same x))
          have h1 := ev_lenT (K := K) (ta := tVar 4) (σ := (wipe [some (.ref p), some (.ref q), some (.int (i : Nat)), o3, none] [4]).set 4 (some z.v)) (H := H') (p := c) (by rw [e]; exact ev_var rfl) sq
          rw [dpA_len d, List.length_map] at h1
          have := et_test (ev_op (ev_var (i := 2) (v := .int (i : Nat)) rfl) h1 (rv_I0 (g := fun i j => V.bl (decide (i < j)))))
          have eq : decide (((i : Nat) : Int) < ((z.r.length : Nat) : Int)) = decide (i < z.r.length) := decide_eq_decide.mpr (by omega)
          rw [eq] at this
          exact this
        · obtain ⟨c, e, sq, d⟩ := (hz z (List.mem_of_getElem? hm)).ks ((Ks.extN x3).trans (Ks.same x))
          have hlt : i < z.ws.length := by rw [dpA_len d, List.length_map]; exact of_decide_eq_true hpz
          refine ev_op (x := .ref c) (by rw [e]; exact ev_var rfl) (ev_var (i := 2) (v := .int (i : Nat)) rfl) (rv_ixT sq (atN (j := i) rfl ?_))
          rw [List.getD_eq_getElem?_getD, List.getElem?_eq_getElem hlt]; rfl
      refine q_asgL evP fun pl H4 hpl x4 hpl4 => ?_
      dsimp only [List.set]
      have T4 := TabsN.ext T3 x4
      -- the pairs, as data
      have dP : DpAll K H4 ((zs.filter fun z => decide (i < z.r.length)).map fun z => z.ws.getD i .non) ((pairsAt rs i).map pairD) := by
        have ks4 : Ks H H4 := (Ks.extN x3).trans (Ks.same x4)
        rw [er]
        have gen : ∀ ys : List Rz, (∀ z ∈ ys, RzH K H4 z) → DpAll K H4 ((ys.filter fun z => decide (i < z.r.length)).map fun z => z.ws.getD i .non) ((pairsAt (ys.map (·.r)) i).map pairD) := by
          intro ys
          induction ys with
          | nil => exact fun _ => .nil
          | cons y ys ih =>
            intro h
            have ih := ih fun z hz => h z (by simp [hz])
            obtain ⟨c, e, sq, d⟩ := h y (by simp)
            by_cases hlt : i < y.r.length
            · have e1 : pairsAt ((y :: ys).map (·.r)) i = y.r[i] :: pairsAt (ys.map (·.r)) i := by
                unfold pairsAt
                rw [List.map_cons, List.filterMap_cons, List.getElem?_eq_getElem hlt]
              rw [List.filter_cons, if_pos (decide_eq_true hlt), e1, List.map_cons, List.map_cons]
              refine .cons ?_ ih
              obtain ⟨v, hv, dv⟩ := dpA_at' d (i := i) (d := pairD y.r[i]) (by rw [List.getElem?_map, List.getElem?_eq_getElem hlt]; rfl)
              rw [List.getD_eq_getElem?_getD, hv]
              exact dv
            · have e1 : pairsAt ((y :: ys).map (·.r)) i = pairsAt (ys.map (·.r)) i := by
                unfold pairsAt
                rw [List.map_cons, List.filterMap_cons, List.getElem?_eq_none (by omega)]
              rw [List.filter_cons, if_neg (by simpa using hlt), e1]
              exact ih
        exact gen zs fun z hz' => (hz z hz').ks ks4
      generalize hxs : ((zs.filter fun z => decide (i < z.r.length)).map fun z => z.ws.getD i .non) = xs at dP hpl4
      have hpne := pairsAt_ne hi
      have lxs : xs.length = (pairsAt rs i).length := by rw [dpA_len dP, List.length_map]
      refine ⟨_, rfl, .inl ⟨rfl, _, SqL.of (x4 _ _ hq3)⟩, ?_⟩
      refine ⟨_, rfl, T4, fun fl c' H7 x7 n7 T7 _ _ _ => ?_⟩
      have x47 := x7
      refine ⟨pl, xs, fun j => ((pairsAt rs i).getD j (0, .int 0)).1, rfl, SqL.of (x7 _ _ hpl4 fun _ => by simp), fun z => hpne (List.length_eq_zero_iff.mp (by rw [← lxs, z]; rfl)), fun j y hy H8 x8 => ?_, fun j y H8 x8 hy best => ?_⟩
      · obtain ⟨dd, hd, dy⟩ := dpA_at dP hy
        rw [List.getElem?_map] at hd
        obtain ⟨pq, hpq, rfl⟩ := Option.map_eq_some_iff.mp hd
        refine ⟨y, pq, rfl, rfl, dp_tp ((Ks.extN x7).trans (Ks.same x8)).tp _ _ (tp_pair _) dy, fun _ _ z => z, ?_⟩
        show V.int pq.1 = V.int ((pairsAt rs i).getD j (0, .int 0)).1
        rw [List.getD_eq_getElem?_getD, hpq]; rfl
      · obtain ⟨dd, hd, dy⟩ := dpA_at dP hy
        rw [List.getElem?_map] at hd
        obtain ⟨pq, hpq, rfl⟩ := Option.map_eq_some_iff.mp hd
        have fm : fstMax (pairsAt rs i) = pq := by
          have ge : ∀ {m : Nat} {y : Int × En}, (pairsAt rs i)[m]? = some y → ((pairsAt rs i).getD m (0, .int 0)) = y := fun {m y} h => by rw [List.getD_eq_getElem?_getD, h]; rfl
          refine fstMax_at hpq (fun m y hm hy2 => ?_) fun y hy2 => ?_
          · have := of_decide_eq_true (show decide (((pairsAt rs i).getD j (0, .int 0)).1 > ((pairsAt rs i).getD m (0, .int 0)).1) = true from best.yes m hm)
            rw [ge hy2, ge hpq] at this
            exact this
          · obtain ⟨m, hm⟩ := List.mem_iff_getElem?.mp hy2
            have := of_decide_eq_false (show decide (((pairsAt rs i).getD m (0, .int 0)).1 > ((pairsAt rs i).getD j (0, .int 0)).1) = false from best.no m (by rw [lxs]; exact (List.getElem?_eq_some_iff.mp hm).1))
            rw [ge hm, ge hpq] at this
            exact this
        have dy8 := dp_tp ((Ks.extN x7).trans (Ks.same x8)).tp _ _ (tp_pair _) dy
        obtain ⟨c, ev, rfl, sq, de⟩ := dp_pair dy8
        have hq8 := x8 _ _ (x7 _ _ (x4 _ _ hq3) fun _ => by simp)
        refine ⟨c, _, 1, ev, rfl, rfl, sq, rfl, ?_⟩
        have les : es.length = i := by rw [dpA_len hE3, List.length_map, List.length_map, List.length_range]
        refine ⟨q, _, _, rfl, rfl, hq8, by rw [les, sizeLine_eq]; omega, ?_⟩
        have xx : ExtN H H8 := (x3.trans (ExtN.of x4)).trans (x7.trans (ExtN.of x8))
        have kk := (Ks.same x4).trans ((Ks.extN x7).trans (Ks.same x8))
        have T8 := TabsN.ext T7 x8
        refine ⟨some (.int (i : Nat)), some (.ref pl), rfl, ?_, fun b hb => ?_, ?_, es ++ [ev], upd_same, ?_⟩
        · exact fun b o z n => by rw [upd_ne (ne_of_none z hq)]; exact xx b o z n
        · have nb : b ≠ q := fun e => by rw [e, upd_same] at hb; cases hb
          rw [upd_ne nb] at hb
          exact n3 b (fresh_back x4 (n7 b (fresh_back x8 hb)))
        · exact tabs_lst T8 hq8
        · rw [List.range_succ, List.map_append, List.map_append]
          refine dpA_app (dpA_tp (kk.trans (Ks.lst hq8)).tp _ _ (tpAE _) hE3) (.cons ?_ .nil)
          show Dp K _ ev (fstMax (pairsAt rs i)).2.d
          rw [fm]
          exact dp_tp (Ks.lst hq8).tp _ _ (tp_en _) de
    · rintro σ' H3 ⟨o2, o3, rfl, x3, n3, T3, hE3⟩
      rw [Int.toNat_natCast] at hE3
      exact ⟨_, rfl, k q H3 hq x3 n3 T3 hE3⟩
end
end Mc.Cn
namespace Mc.Cn
open PySem L2 PySem.Spec PyProof.Rows Evl LamX NdefX
/-! Sequencer.hear, add; take_letter -/
abbrev sSqHear : Stmt := inClass (top 15) 3
abbrev sSqAdd : Stmt := inClass (top 15) 4
abbrev sTakeL : Stmt := top 6
/-- all but a few objects and the tables stand -/
def KpN (F : List Addr) (H H' : Hp) : Prop := ∀ b o, H b = some o → b ∉ F → (∀ ps, o ≠ .tbl ps) → H' b = some o
theorem KpN.same {F : List Addr} {H H' : Hp} (s : Same H H') : KpN F H H' := fun b o z _ _ => s b o z
theorem KpN.kp {F : List Addr} {H H' : Hp} (s : Kp F H H') : KpN F H H' := fun b o z n _ => s b o z n
theorem KpN.trans {F : List Addr} {A B C : Hp} (x : KpN F A B) (y : KpN F B C) : KpN F A C := fun b o z n t => y b o (x b o z n t) n t
theorem KpN.mono {F G : List Addr} {H H' : Hp} (x : KpN F H H') (h : ∀ b ∈ F, b ∈ G) : KpN G H H' := fun b o z n t => x b o z (fun m => n (h b m)) t
theorem KpN.ext {F : List Addr} {H H' : Hp} (x : ExtN H H') : KpN F H H' := fun b o z _ t => x b o z t
/-- a further object changes that was not there before -/
theorem KpN.drop {F : List Addr} {p : Addr} {H H' : Hp} (x : KpN (p :: F) H H') (h : H p = none) : KpN F H H' := fun b o z n t => x b o z (fun m => (List.mem_cons.mp m).elim (fun e => by rw [e, h] at z; cases z) n) t
theorem tabs_up {T : List NTab} {H : Hp} {a : Addr} {o o0 : HO} (t : TabsN T H) (h : H a = some o0) (n1 : ∀ ps, o0 ≠ .tbl ps) (n2 : ∀ c q, o0 ≠ CodeO c q) : TabsN T (upd H a o) := fun p hp => by
  obtain ⟨ps, h1, h2, h3⟩ := t p hp
  refine ⟨ps, ?_, h2, fun pos cv hc => ?_⟩
  · rw [upd_ne fun e => by rw [e, h] at h1; exact n1 _ (Option.some.inj h1)]; exact h1
  · obtain ⟨c, e1, e2⟩ := h3 pos cv hc
    refine ⟨c, e1, ?_⟩
    rw [upd_ne fun e => by rw [e] at e2; rw [h] at e2; exact n2 _ _ (Option.some.inj e2)]; exact e2
theorem tabs_ins {T : List NTab} {H : Hp} {a C dx : _} {fs : _} {o : HO} (t : TabsN T H) (h : H a = some (.ins C dx fs)) : TabsN T (upd H a o) := tabs_up t h (fun _ z => by cases z) fun c q z => by unfold CodeO at z; cases z
theorem tabs_dK {T : List NTab} {H : Hp} {a : Addr} {kvs : _} {o : HO} (t : TabsN T H) (h : H a = some (.dK kvs)) : TabsN T (upd H a o) := tabs_up t h (fun _ z => by cases z) fun c q z => by unfold CodeO at z; cases z
theorem upd_back {H : Hp} {a b : Addr} {o : HO} (h : upd H a o b = none) : H b = none := by
  by_cases e : b = a
  · rw [e, upd_same] at h; cases h
  · rw [upd_ne e] at h; exact h
theorem prd_putR {K : PySem.W.Frag} {H : Hp} {n : Nat} {v : V} {r : Row} (hv : Dp K H v (rowD r)) : ∀ {us : List (Nat × V)} {rs : List (Nat × Row)}, Paired (fun u q => u.1 = q.1 ∧ Dp K H u.2 (rowD q.2)) us rs → Paired (fun u q => u.1 = q.1 ∧ Dp K H u.2 (rowD q.2)) (putR n v us) (putR n r rs)
  | _, _, .nil => .cons ⟨rfl, hv⟩ .nil
  | u :: us, q :: rs, .cons a b => by
    unfold putR
    by_cases e : u.1 = n
    · rw [if_pos e, if_pos (a.1 ▸ e)]
      exact .cons ⟨rfl, hv⟩ b
    · rw [if_neg e, if_neg (a.1 ▸ e)]
      exact .cons a (prd_putR hv b)
theorem prd_snd {K : PySem.W.Frag} {H : Hp} : ∀ {us : List (Nat × V)} {rs : List (Nat × Row)}, Paired (fun u q => u.1 = q.1 ∧ Dp K H u.2 (rowD q.2)) us rs → DpAll K H (us.map (·.2)) ((rs.map (·.2)).map rowD)
  | _, _, .nil => .nil
  | _, _, .cons a b => .cons a.2 (prd_snd b)
theorem putR_mapf {f : Nat → Nat} {n v : Nat} : ∀ {xs : List Nat}, n ∈ xs → xs.Nodup → putR n v (xs.map fun i => (i, f i)) = xs.map fun i => (i, if i = n then v else f i)
  | [], h, _ => nomatch h
  | x :: xs, h, nd => by
    have nd' := List.nodup_cons.mp nd
    rw [List.map_cons, List.map_cons]
    unfold putR
    by_cases e : x = n
    · subst e
      rw [if_pos rfl, if_pos rfl]
      congr 1
      exact List.map_congr_left fun i hi => by rw [if_neg (fun z : i = x => nd'.1 (z ▸ hi))]
    · rw [if_neg e, if_neg e]
      congr 1
      exact putR_mapf ((List.mem_cons.mp h).elim (fun z => absurd z.symm e) id) nd'.2
theorem tkl_set {tk : List Nat} {n v : Nat} (h : n < tk.length) : putR n v (tkl tk) = tkl (tk.set n v) := by
  unfold tkl
  rw [putR_mapf (f := fun i => tk.getD i 0) (List.mem_range.mpr h) List.nodup_range, List.length_set]
  refine List.map_congr_left fun i hi => ?_
  have := List.mem_range.mp hi
  congr 1
  rw [List.getD_eq_getElem?_getD, List.getD_eq_getElem?_getD, List.getElem?_set]
  by_cases e : n = i
  · subst e; rw [if_pos rfl, if_pos rfl, if_pos h]; rfl
  · rw [if_neg e, if_neg fun z => e z.symm]
def Ltr.word : Ltr → PySem.Str | .ask .. => "ask" | .write .. => "write" | .refused .. => "refused" | .told .. => "told" | .taken .. => "taken"
/-- a letter to a sequencer, laid out -/
theorem dp_toS {K : PySem.W.Frag} {H : Hp} {v : V} {l : Ltr} (h : Dp K H v l.d) (hl : l.isAns = true) : ∃ c x, v = .ref c ∧ SqT K H c [.str l.word, .int l.ep, .int l.num, x] ∧ (∀ e n r, l = .told e n r → Dp K H x (rowD r)) ∧ (∀ e n p, l = .taken e n p → x = .int p) := by
  cases l with
  | refused e n k => obtain ⟨c, x, rfl, sq, d⟩ := dp_four h; exact ⟨c, x, rfl, sq, (fun _ _ _ z => by cases z), fun _ _ _ z => by cases z⟩
  | told e n r => obtain ⟨c, x, rfl, sq, d⟩ := dp_four h; exact ⟨c, x, rfl, sq, (fun _ _ _ z => by cases z; exact d), fun _ _ _ z => by cases z⟩
  | taken e n p => obtain ⟨c, x, rfl, sq, d⟩ := dp_four h; exact ⟨c, x, rfl, sq, (fun _ _ _ z => by cases z), fun _ _ _ z => by cases z; cases d; rfl⟩
  | _ => cases hl
def spHear (K : PySem.W.Frag) (C : Addr) (T : List NTab) : Sp := fun vs H Q _ => ∃ (z : Ft) (s : SqS) (B many : Nat) (l : Ltr) (lv : V), vs = [.ref z.a, lv] ∧ SqAt K C H z s ∧ SOk B many s ∧ many ≤ 1000 ∧ B ≤ 90000 ∧ Dp K H lv l.d ∧ l.isAns = true ∧ l.ok B many ∧ TabsN T H ∧
  ∀ (z' : Ft) (H' : Hp), SqAt K C H' z' (s.hear l) → z'.a = z.a → z'.d = z.d → z'.t = z.t → (z'.r = z.r ∨ H z'.r = none) → KpN z.l H H' → Ks H H' → (∀ b, H' b = none → H b = none) → TabsN T H' → Q .non H'
def spAdd (K : PySem.W.Frag) (C CB : Addr) : Sp := fun vs H Q E => ∃ (z : Ft) (s : SqS) (x : En) (xv : V), vs = [.ref z.a, xv] ∧ SqAt K C H z s ∧ Dp K H xv x.d ∧
  ((s.st = .leading ∧ s.row.length ≤ 90000 ∧ ∀ H' : Hp, SqAt K C H' z (s.add x) → Kp [z.r] H H' → Ks H H' → Q .non H') ∨ (s.st ≠ .leading ∧ ∀ d H', Same H H' → H' d = some (.xd [("name", xv)]) → E (.ref CB) (some d) H'))
def spTakeL (K : PySem.W.Frag) (CB : Addr) : Sp := fun vs H Q E => ∃ (a : Addr) (ls : List Ltr) (x : Th) (kept : Bool), vs = [.ref a, x.v, .bl kept] ∧ LD K H a (ls.map Ltr.d) ∧ ls.length ≤ 1000000 ∧
  ((∃ (n : Nat) (l : Ltr), x = .int n ∧ ls[n]? = some l ∧ ∀ (v : V) (H' : Hp), LD K H' a ((if kept = true then ls else ls.eraseIdx n).map Ltr.d) → Dp K H' v l.d → Kp [a] H H' → Ks H H' → Q v H') ∨
    (x.within 0 ((ls.length : Int) - 1) = false ∧ ∀ d H', Same H H' → H' d = some (.xd [("name", x.v)]) → E (.ref CB) (some d) H'))
section
variable {P : Program} {w : World} {K : PySem.W.Frag} {mg : PySem.Str → Option Value} {base : Heap} {CS CB : Addr}
theorem scHear : FnScope ["self", "letter", "word", "epoch", "number"] ["self", "letter"] (defScope sSqHear) := ⟨rfl, rfl, rfl, by decide +kernel, rfl, by decide +kernel, by decide +kernel⟩
theorem ok_hear {f : Addr} {fd : FuncData} {TT : List NTab} (F : Fun K "hear" "Sequencer.hear" sSqHear f fd) (T : TxS K mg CS) (c_most_of : Cal P w K mg base 1 "most_of" ["many"] spMost) (c_newest_row : Cal P w K mg base 3 "newest_row" ["rows"] (spNewest K TT)) : FnOk P w K mg base CX0 4 f fd ["self", "letter"] (spHear K CS TT) := by
  refine F.ok scHear (fun vs H Q E h => ?_) (fun cdv A outer s H vs Q E hr h => ?_)
  · obtain ⟨z, s, B, many, l, lv, rfl, _⟩ := h
    rfl
  · obtain ⟨z, sq, B, many, l, lv, rfl, SA, ok, hm, hB, hlv, hans, lok, hT, k⟩ := h
    have hu := hu_of hr
    refine ⟨_, (pss_cons (ps_par3 (i := 2) (j := 3) (l := 4) rfl scHear.nd rfl rfl rfl (by decide) (by decide) (by decide) rfl rfl rfl (pa_cons (pe_ix ix_tup (pv 1) pe_int (fun _ _ => rfl)) (pa_cons (pe_ix ix_tup (pv 1) pe_int (fun _ _ => rfl)) (pa_cons (pe_ix ix_tup (pv 1) pe_int (fun _ _ => rfl)) pa_nil))) (by rfl))
      (pss_cons (ps_if (PW.pt (pw_or (pt_cmpR op_ne (pv 3) (pe_fld (pv 0) rfl) (nomark _)) (pw_or1 (pt_cmpR op_eq (pe_fld (pv 0) rfl) pe_str (nomark _)))))
        (pss_one ps_retN)
        pss_nil)
      (pss_one (ps_if (pt_cmpR op_eq (pv 2) pe_str (nomark _))
        (pss_one (ps_fld (pv 0) pe_str rfl))
        (pss_one (ps_if (PW.pt (pw_and (pt_cmpR op_eq (pv 2) pe_str (nomark _)) (pw_and1 (pt_cmpR op_eq (pe_fld (pv 0) rfl) pe_str (nomark _)))))
          (pss_cons (ps_dput hu (pe_fld (pv 0) rfl) (pv 4) (pe_ix ix_tup (pv 1) pe_int (fun _ _ => rfl)) rfl)
          (pss_one (ps_if (pt_cmpR op_ge (pe_callB call_lenD (by rfl) T.len PySem.boot_len (pa_cons (pe_fld (pv 0) rfl) pa_nil)) (pe_cal c_most_of (hr.mono (by decide)) rfl (pa_cons (pe_fld (pv 0) rfl) pa_nil)) (nomark _))
            (pss_cons (ps_fld (pv 0) (pe_cal c_newest_row (hr.mono (by decide)) rfl (pa_cons (pe_listVals rfl (pe_fld (pv 0) rfl) (by rfl) T.list) pa_nil)) rfl)
            (pss_one (ps_fld (pv 0) pe_str rfl)))
            pss_nil)))
          (pss_one (ps_if (PW.pt (pw_and (pt_cmpR op_eq (pv 2) pe_str (nomark _)) (pw_and (pt_cmpR op_eq (pe_fld (pv 0) rfl) pe_str (nomark _)) (pw_and1 (pt_cmpR op_eq (pe_ix ix_tup (pv 1) pe_int (fun _ _ => rfl)) (pe_dget hu (pe_fld (pv 0) rfl) (pv 4) (fun _ _ => rfl)) (nomark _))))))
            (pss_one (ps_daug hu (pe_fld (pv 0) rfl) (pv 4) pe_int in_add (fun _ _ _ => rfl)))
            pss_nil)))))))), ?_⟩
    obtain ⟨⟨dx, h1⟩, ⟨es, h2, hE⟩, ⟨us, h3, hU⟩, h4, h5⟩ := id SA
    obtain ⟨c, x, rfl, sqL, hx1, hx2⟩ := dp_toS hlv hans
    have nar : z.a ≠ z.r := ne_of h1 h2 (by intro e; cases e)
    have nad : z.a ≠ z.d := ne_of h1 h3 (by intro e; cases e)
    have nat : z.a ≠ z.t := ne_of h1 h4 (by intro e; cases e)
    have nrd : z.r ≠ z.d := ne_of h2 h3 (by intro e; cases e)
    have nrt : z.r ≠ z.t := ne_of h2 h4 (by intro e; cases e)
    refine ⟨_, rfl, c, _, 0, _, rfl, rfl, sqL, rfl, _, rfl, c, _, 1, _, rfl, rfl, sqL, rfl, _, rfl, c, _, 2, _, rfl, rfl, sqL, rfl, _, _, _, rfl, ?_⟩
    dsimp only [L2.start, List.set, List.map, List.replicate, List.append, List.length]
    have evF : ∀ {f : PySem.Str} {v : V} {σ : L2.St} {H' : Hp}, σ[0]? = some (some (.ref z.a)) → NoAttr K CS f → (SqF sq z).lookup f = some v → H' z.a = some (.ins CS dx (SqF sq z)) → Ev (tFld K (tVar 0) f) σ H' v := fun {f v σ H'} h0 na hl h => ev_fld (ev_var h0) h T.cl na hl
    have stay : sq.hear l = sq → ∀ H', Same H H' → Q .non H' := fun e H' s => k z H' (by rw [e]; exact SA.same s) rfl rfl rfl (.inl rfl) (KpN.same s) (Ks.same s) (fun b hb => fresh_back s hb) (TabsN.ext hT s)
    refine q_when (b := (!decide (V.int l.ep = V.int sq.ep)) || decide (V.str sq.st.s = V.str "stopped")) (et_or (et_test (ev_op (ev_var rfl) (evF rfl T.nEp rfl h1) (rv_ne rfl))) fun _ => et_test (ev_op (evF rfl T.nSt rfl h1) ev_c (rv_eq rfl))) (fun hb H1 x1 => ?_) fun hb H1 x1 => ?_
    · refine stay ?_ H1 x1
      unfold SqS.hear
      rw [if_pos]
      rcases Bool.or_eq_true _ _ ▸ hb with hb | hb
      · refine .inl fun e => ?_
        rw [e, decide_eq_true rfl] at hb
        cases hb
      · refine .inr ?_
        have := V.str.inj (of_decide_eq_true hb)
        cases e : sq.st with
        | asking => rw [e] at this; exact absurd this (by decide)
        | leading => rw [e] at this; exact absurd this (by decide)
        | stopped => rfl
    have hb : l.ep = sq.ep ∧ sq.st ≠ .stopped := by
      rw [Bool.or_eq_false_iff] at hb
      refine ⟨?_, fun e => ?_⟩
      · have := hb.1
        rw [Bool.not_eq_false', decide_eq_true_eq] at this
        exact V.int.inj this
      · have h2 := hb.2
        rw [e] at h2
        exact absurd h2 (by decide)
    have hne : ¬ (l.ep ≠ sq.ep ∨ sq.st = .stopped) := fun z => z.elim (fun q => q hb.1) hb.2
    have h1' := x1 _ _ h1
    have sqL1 := sqt_ks sqL (Ks.same x1)
    cases l with
    | ask _ _ => cases hans
    | write _ _ _ _ => cases hans
    | refused e n kk =>
      have hx : sq.hear (.refused e n kk) = sq.stop := by unfold SqS.hear; rw [if_neg hne]; rfl
      refine s_if (b := true) (et_test (ev_op (ev_var rfl) ev_c (rv_eq rfl))) (fun _ H2 x2 => ?_) fun h => nomatch h
      have h2' := x2 _ _ h1'
      refine ⟨_, rfl, z.a, CS, dx, _, rfl, h2', T.cl, T.nSt, (by show 6 < 1000; decide), ?_⟩
      have s12 := x1.trans x2
      have kk2 := Ks.ins (o' := .ins CS dx (putF "stand" (.str "stopped") (SqF sq z))) h2'
      have SA2 := SA.same s12
      obtain ⟨_, ⟨es2, g2, gE⟩, ⟨us2, g3, gU⟩, g4, _⟩ := id SA2
      refine k z _ (hx ▸ ⟨⟨dx, upd_same⟩, ⟨es2, by rw [upd_ne nar.symm]; exact g2, dpA_tp kk2.tp _ _ (tpAE _) gE⟩, ⟨us2, by rw [upd_ne nad.symm]; exact g3, Paired.mapP gU fun a b q => ⟨q.1, dp_tp kk2.tp _ _ (tp_row _) q.2⟩⟩, by rw [upd_ne nat.symm]; exact g4, h5⟩) rfl rfl rfl (.inl rfl) ((KpN.same s12).trans (KpN.kp (Kp.at (by simp [Ft.l])))) ((Ks.same s12).trans kk2) (fun b hb => fresh_back s12 (upd_back hb)) (tabs_ins (TabsN.ext hT s12) h2')
    | told e n r =>
      have hx : sq.hear (.told e n r) = if sq.st = .asking then sq.told n r else sq := by unfold SqS.hear; rw [if_neg hne]
      refine s_if (b := false) (et_test (ev_op (ev_var rfl) ev_c (rv_eq rfl))) (fun h => nomatch h) fun _ H2 x2 => ?_
      have h2' := x2 _ _ h1'
      refine s_if (b := true && decide (V.str sq.st.s = V.str "asking")) (et_and (et_test (ev_op (ev_var rfl) ev_c (rv_eq rfl))) fun _ => et_test (ev_op (evF rfl T.nSt rfl h2') ev_c (rv_eq rfl))) (fun hb2 H3 x3 => ?_) fun hb2 H3 x3 => ?_
      · have hask : sq.st = .asking := by
          rw [Bool.true_and] at hb2
          have := V.str.inj (of_decide_eq_true hb2)
          cases e : sq.st with
          | asking => rfl
          | leading => rw [e] at this; exact absurd this (by decide)
          | stopped => rw [e] at this; exact absurd this (by decide)
        rw [if_pos hask] at hx
        have s13 := (x1.trans x2).trans x3
        have h3' := x3 _ _ h2'
        have SA3 := SA.same s13
        obtain ⟨_, ⟨es3, g2, gE⟩, ⟨us3, g3, gU⟩, g4, _⟩ := id SA3
        have hrd := hx1 e n r rfl
        have lus : us3.length = sq.rows.length := Paired.length gU
        have nus : (us3.map (·.1)).Nodup := by rw [prd_keys gU]; exact ok.nd
        have hrl : sq.rows.length ≤ many := by
          have : (sq.rows.map (·.1)).length ≤ (List.range many).length := ok.nd.length_le_of_subset fun a ha => by
            obtain ⟨q, hq, rfl⟩ := List.mem_map.mp ha
            exact List.mem_range.mpr (ok.rows q hq).1
          rw [List.length_map, List.length_range] at this
          exact this
        have hlen : (kvI id us3).length < sizeLine := by rw [kvI_len, lus, sizeLine_eq]; omega
        refine ⟨_, rfl, c, _, 3, _, rfl, rfl, sqt_ks sqL (Ks.same s13), rfl, _, rfl, z.a, CS, dx, _, _, rfl, h3', T.cl, T.nRs, rfl, _, rfl, z.d, _, rfl, DPut.k (k := Sum.inl (n : Int)) g3 hlen, ?_⟩
        have hpu := prd_putR (n := n) (dp_tp (Tp.same s13) _ _ (tp_row _) hrd) gU
        have ek := putK_I (f := id) (l := us3) (k := n) (v := x) nus
        generalize e4 : upd H3 z.d _ = H4
        have kk4 : Ks H3 H4 := by rw [← e4]; exact Ks.dK g3
        have a4 : H4 z.a = some (.ins CS dx (SqF sq z)) := by rw [← e4, upd_ne nad]; exact h3'
        have r4 : H4 z.r = some (.lst es3) := by rw [← e4, upd_ne nrd]; exact g2
        have t4 : H4 z.t = some (.dK (kvI vN (tkl sq.tk))) := by rw [← e4, upd_ne h5.symm]; exact g4
        have d4 : H4 z.d = some (.dK (kvI id (putR n x us3))) := by rw [← e4, upd_same, ← ek]; rfl
        have T4 : TabsN TT H4 := by rw [← e4]; exact tabs_dK (TabsN.ext hT s13) g3
        have f4 : KpN z.l H H4 := (KpN.same s13).trans (by rw [← e4]; exact KpN.kp (Kp.at (by simp [Ft.l])))
        have k04 : Ks H H4 := (Ks.same s13).trans kk4
        have bk4 : ∀ b, H4 b = none → H b = none := fun b hb => fresh_back s13 (by
          by_cases q : b = z.d
          · rw [← e4, q, upd_same] at hb; cases hb
          · rw [← e4, upd_ne q] at hb; exact hb)
        clear e4
        have pU4 := Paired.mapP hpu fun a b q => (⟨q.1, dp_tp kk4.tp _ _ (tp_row _) q.2⟩ : a.1 = b.1 ∧ Dp K H4 a.2 (rowD b.2))
        have pE4 := dpA_tp kk4.tp _ _ (tpAE _) gE
        have lput : (putR n x us3).length = (putR n r sq.rows).length := Paired.length pU4
        have et : sq.told n r = if most sq.many ≤ (putR n r sq.rows).length then { sq with rows := putR n r sq.rows, row := newest ((putR n r sq.rows).map (·.2)), st := .leading } else { sq with rows := putR n r sq.rows } := rfl
        have okh := ok.hear lok
        rw [hx] at okh
        have evl : Ev (tCB (fun xs H Q => ∃ a kvs, xs = [V.ref a] ∧ H a = some (.dK kvs) ∧ Q (.int kvs.length) H) (tCons (tFld K (tVar 0) "rows") tNil)) [some (.ref z.a), some (.ref c), some (.str (Ltr.told e n r).word), some (.int (Ltr.told e n r).ep), some (.int (Ltr.told e n r).num)] H4 (.int ((putR n r sq.rows).length : Nat)) := fun H5 e5 Q q =>
          evF rfl T.nRs rfl a4 H5 e5 _ fun H6 e6 => ⟨z.d, _, rfl, e6 _ _ (e5 _ _ d4), by rw [kvI_len, lput]; exact q H6 e6⟩
        have evm : Ev (tCall spMost [] E0 (tCons (tFld K (tVar 0) "many") tNil)) [some (.ref z.a), some (.ref c), some (.str (Ltr.told e n r).word), some (.int (Ltr.told e n r).ep), some (.int (Ltr.told e n r).num)] H4 (.int (most sq.many : Nat)) := ev_call (vs := [.int sq.many]) (ea_cons (evF rfl T.nMa rfl a4) ea_nil) fun H2 x2 Q q _ => ⟨sq.many, rfl, q H2 (Ex.refl _)⟩
        refine s_when (b := decide (((most sq.many : Nat) : Int) ≤ (((putR n r sq.rows).length : Nat) : Int))) (et_test (ev_op evl evm (rv_I0 (g := fun i j => V.bl (decide (j ≤ i)))))) (fun hb3 H5 x5 => ?_) fun hb3 H5 x5 => ?_
        · have hle : most sq.many ≤ (putR n r sq.rows).length := Int.ofNat_le.mp (of_decide_eq_true hb3)
          rw [if_pos hle] at et
          have evv := el_vals (te := tFld K (tVar 0) "rows") (σ := [some (.ref z.a), some (.ref c), some (.str (Ltr.told e n r).word), some (.int (Ltr.told e n r).ep), some (.int (Ltr.told e n r).num)]) (evF rfl T.nRs rfl (x5 _ _ a4)) (Rd.of (x5 _ _ d4))
          have e2 : (kvI id (putR n x us3)).map Prod.snd = (putR n x us3).map (·.2) := by unfold kvI; rw [List.map_map]; rfl
          rw [e2] at evv
          dsimp only [tSeq, sFld, tCall, tCons]
          refine evv H5 (Ex.refl _) _ fun p H6 hp x6 hp6 => ?_
          have x46 := x5.trans x6
          have pU6 := prd_snd (Paired.mapP pU4 fun a b q => (⟨q.1, dp_tp (Tp.same x46) _ _ (tp_row _) q.2⟩ : a.1 = b.1 ∧ Dp K H6 a.2 (rowD b.2)))
          have hrows : ∀ q ∈ putR n r sq.rows, q.2.length ≤ B := fun q hq => by
            rcases putR_mem hq with rfl | hq
            · exact lok.2.1
            · exact (ok.rows q hq).2.1
          refine ⟨p, (putR n r sq.rows).map (·.2), B, rfl, ⟨_, hp6, pU6⟩, ?_, ?_, hB, ?_, TabsN.ext T4 x46, fun q H7 hq x7 n7 T7 hL => ?_⟩
          · intro z0
            have := congrArg List.length z0
            rw [List.length_map] at this
            unfold most at hle
            simp at this
            rw [this] at hle
            exact absurd hle (by simp)
          · rw [List.length_map]
            have hnd : ((putR n r sq.rows).map (·.1)).Nodup := by
              rw [putR_keys]
              split
              · exact ok.nd
              · rename_i hm2
                exact List.nodup_append.mpr ⟨ok.nd, by simp, fun a ha b hb => by rw [List.mem_singleton.mp hb]; exact fun e => hm2 (e ▸ ha)⟩
            have : ((putR n r sq.rows).map (·.1)).length ≤ (List.range many).length := hnd.length_le_of_subset fun a ha => by
              obtain ⟨q, hq, rfl⟩ := List.mem_map.mp ha
              rcases putR_mem hq with rfl | hq
              · exact List.mem_range.mpr lok.1
              · exact List.mem_range.mpr (ok.rows q hq).1
            rw [List.length_map, List.length_range] at this
            omega
          · intro r' hr'
            obtain ⟨q, hq, rfl⟩ := List.mem_map.mp hr'
            exact hrows q hq
          have a7 := x7 _ _ (x46 _ _ a4) fun _ => by simp
          have t7 := x7 _ _ (x46 _ _ t4) fun _ => by simp
          have d7 := x7 _ _ (x46 _ _ d4) fun _ => by simp
          refine ⟨_, rfl, z.a, CS, dx, _, rfl, a7, T.cl, T.nRow, (by show 6 < 1000; decide), ?_⟩
          refine ⟨_, rfl, z.a, CS, dx, _, rfl, upd_same, T.cl, T.nSt, (by show 6 < 1000; decide), ?_⟩
          have naq : z.a ≠ q := ne_of_none (x46 _ _ a4) hq
          have k47 : Ks H4 H7 := (Ks.same x46).trans (Ks.extN x7)
          have k78 := (Ks.ins (o' := .ins CS dx (putF "row" (.ref q) (SqF sq z))) a7).trans (Ks.ins (o' := .ins CS dx (putF "stand" (.str "leading") (putF "row" (.ref q) (SqF sq z)))) upd_same)
          obtain ⟨qs, hq7, dq⟩ := hL
          refine k ⟨z.a, q, z.d, z.t⟩ _ (hx ▸ et ▸ ⟨⟨dx, upd_same⟩, ⟨qs, by rw [upd_ne naq.symm, upd_ne naq.symm]; exact hq7, dpA_tp k78.tp _ _ (tpAE _) dq⟩, ⟨putR n x us3, by rw [upd_ne nad.symm, upd_ne nad.symm]; exact d7, Paired.mapP pU4 fun a b y => ⟨y.1, dp_tp (k47.trans k78).tp _ _ (tp_row _) y.2⟩⟩, by rw [upd_ne nat.symm, upd_ne nat.symm]; exact t7, h5⟩) rfl rfl rfl (.inr (bk4 q (fresh_back x46 hq)))
            (((f4.trans (KpN.same x46)).trans (KpN.ext x7)).trans ((KpN.kp (Kp.at (by simp [Ft.l]))).trans (KpN.kp (Kp.at (by simp [Ft.l]))))) ((k04.trans k47).trans k78) (fun b hb => bk4 b (fresh_back x46 (n7 b (upd_back (upd_back hb))))) (tabs_ins (tabs_ins T7 a7) upd_same)
        · have hle : ¬ most sq.many ≤ (putR n r sq.rows).length := fun q => by
            have := of_decide_eq_false hb3
            omega
          rw [if_neg hle] at et
          have k5 := Ks.same x5
          refine k z H5 (hx ▸ et ▸ ⟨⟨dx, x5 _ _ a4⟩, ⟨es3, x5 _ _ r4, dpA_tp k5.tp _ _ (tpAE _) pE4⟩, ⟨putR n x us3, x5 _ _ d4, Paired.mapP pU4 fun a b y => ⟨y.1, dp_tp k5.tp _ _ (tp_row _) y.2⟩⟩, x5 _ _ t4, h5⟩) rfl rfl rfl (.inl rfl) (f4.trans (KpN.same x5)) (k04.trans k5) (fun b hb => bk4 b (fresh_back x5 hb)) (TabsN.ext T4 x5)
      · refine s_when (b := false && false) (et_and (et_test (ev_op (ev_var rfl) ev_c (rv_eq rfl))) fun h => nomatch h) (fun h => nomatch h) fun _ H4 x4 => ?_
        refine stay ?_ H4 (((x1.trans x2).trans x3).trans x4)
        rw [hx]
        exact if_neg fun z => by rw [z] at hb2; exact absurd hb2 (by decide)
    | taken e n p =>
      have hx : sq.hear (.taken e n p) = if sq.st = .leading ∧ p = sq.tk.getD n 0 then { sq with tk := sq.tk.set n (sq.tk.getD n 0 + 1) } else sq := by unfold SqS.hear; rw [if_neg hne]
      refine s_if (b := false) (et_test (ev_op (ev_var rfl) ev_c (rv_eq rfl))) (fun h => nomatch h) fun _ H2 x2 => ?_
      have h2' := x2 _ _ h1'
      refine s_if (b := false && false) (et_and (et_test (ev_op (ev_var rfl) ev_c (rv_eq rfl))) fun h => nomatch h) (fun h => nomatch h) fun _ H3 x3 => ?_
      have h3' := x3 _ _ h2'
      have s13 := (x1.trans x2).trans x3
      obtain rfl : x = .int p := hx2 e n p rfl
      have hn : n < sq.tk.length := by rw [ok.tk]; exact lok.1
      have dg := ev_dgetI (f := vN) (k := n) (td := tFld K (tVar 0) "taken") (ty := tVar 4) (σ := [some (.ref z.a), some (.ref c), some (.str (Ltr.taken e n p).word), some (.int (Ltr.taken e n p).ep), some (.int (Ltr.taken e n p).num)]) (evF rfl T.nTk rfl h3') (ev_var rfl) (.inl (s13 _ _ h4)) (getI_tk hn)
      refine s_when (b := true && (decide (V.str sq.st.s = V.str "leading") && decide (V.int (p : Nat) = vN (sq.tk.getD n 0)))) (et_and (et_test (ev_op (ev_var rfl) ev_c (rv_eq rfl))) fun _ => et_and (et_test (ev_op (evF rfl T.nSt rfl h3') ev_c (rv_eq rfl))) fun _ => et_test (ev_op (ev_op (ev_var rfl) ev_c (rv_ixT (sqt_ks sqL (Ks.same s13)) rfl)) dg (rv_eq rfl))) (fun hb2 H4 x4 => ?_) fun hb2 H4 x4 => ?_
      · have s14 := s13.trans x4
        have h4' := x4 _ _ h3'
        have SA4 := SA.same s14
        obtain ⟨_, ⟨es4, g2, gE⟩, ⟨us4, g3, gU⟩, g4, _⟩ := id SA4
        rw [Bool.true_and, Bool.and_eq_true] at hb2
        have hld : sq.st = .leading := by
          have := V.str.inj (of_decide_eq_true hb2.1)
          cases e : sq.st with
          | leading => rfl
          | asking => rw [e] at this; exact absurd this (by decide)
          | stopped => rw [e] at this; exact absurd this (by decide)
        have hpe : p = sq.tk.getD n 0 := by
          have := V.int.inj (of_decide_eq_true hb2.2)
          omega
        have dg4 : DGet H4 z.t (.int (n : Nat)) (some (vN (sq.tk.getD n 0))) := by
          have := dgetI (k := n) (Rd.of g4)
          rw [getI_tk hn] at this
          exact this
        have hlen : (kvI vN (tkl sq.tk)).length < sizeLine := by
          rw [kvI_len, sizeLine_eq]
          unfold tkl
          rw [List.length_map, List.length_range, ok.tk]
          omega
        refine ⟨_, rfl, z.a, CS, dx, _, _, rfl, h4', T.cl, T.nTk, rfl, _, rfl, z.t, vN (sq.tk.getD n 0), rfl, dg4, _, _, rfl, rfl, _, DPut.k (k := Sum.inl (n : Int)) g4 hlen, ?_⟩
        have kk2 := Ks.dK (o' := .dK (putK (kvI vN (tkl sq.tk)) (Sum.inl (n : Int)) (.int (((sq.tk.getD n 0 : Nat) : Int) + 1)))) g4
        have ep : putK (kvI vN (tkl sq.tk)) (Sum.inl (n : Int) : L2.Key) (.int (((sq.tk.getD n 0 : Nat) : Int) + 1)) = kvI vN (tkl (sq.tk.set n (sq.tk.getD n 0 + 1))) := by
          rw [← tkl_set hn]
          have := putK_I (f := vN) (l := tkl sq.tk) (k := n) (v := sq.tk.getD n 0 + 1) (by rw [tkl_keys]; exact List.nodup_range)
          rw [← this]
          rfl
        refine k z _ (hx ▸ (if_pos (⟨hld, hpe⟩ : sq.st = .leading ∧ p = sq.tk.getD n 0)).symm ▸ ⟨⟨dx, by rw [upd_ne nat]; exact h4'⟩, ⟨es4, by rw [upd_ne nrt]; exact g2, dpA_tp kk2.tp _ _ (tpAE _) gE⟩, ⟨us4, by rw [upd_ne h5]; exact g3, Paired.mapP gU fun a b q => ⟨q.1, dp_tp kk2.tp _ _ (tp_row _) q.2⟩⟩, by rw [upd_same]; exact congrArg (fun y => some (HO.dK y)) ep, h5⟩) rfl rfl rfl (.inl rfl) ((KpN.same s14).trans (KpN.kp (Kp.at (by simp [Ft.l])))) ((Ks.same s14).trans kk2) (fun b hb => fresh_back s14 (upd_back hb)) (tabs_dK (TabsN.ext hT s14) g4)
      · refine stay ?_ H4 (s13.trans x4)
        rw [hx]
        refine if_neg fun ⟨z1, z2⟩ => ?_
        rw [z1, z2] at hb2
        rw [show decide (V.str Std.leading.s = V.str "leading") = true from by decide, show decide (V.int ((sq.tk.getD n 0 : Nat) : Int) = vN (sq.tk.getD n 0)) = true from decide_eq_true rfl] at hb2
        cases hb2
end
end Mc.Cn
namespace Mc.Cn
open PySem L2 PySem.Spec PyProof.Rows Evl LamX NdefX
/-! Sequencer.add; take_letter -/
section
variable {P : Program} {w : World} {K : PySem.W.Frag} {mg : PySem.Str → Option Value} {base : Heap} {CS CB : Addr}
theorem scAdd : FnScope ["self", "entry"] ["self", "entry"] (defScope sSqAdd) := ⟨rfl, rfl, rfl, by decide +kernel, rfl, by decide +kernel, by decide +kernel⟩
theorem ok_add {f : Addr} {fd : FuncData} (F : Fun K "add" "Sequencer.add" sSqAdd f fd) (T : TxS K mg CS) (TB : TxB K mg CB) (cB : CalB P w K mg base CB "name") : FnOk P w K mg base (L2.CX P w) 4 f fd ["self", "entry"] (spAdd K CS CB) := by
  obtain ⟨fI, fdI, iC, tI, bI, FI⟩ := cB
  refine F.okX scAdd (fun vs H Q E h => ?_) (fun cdv A outer s H vs Q E hr h => ?_)
  · obtain ⟨z, s, x, xv, rfl, _⟩ := h
    rfl
  · obtain ⟨z, sq, x, xv, rfl, SA, hx, h⟩ := h
    refine ⟨_, (pss_cons (ps_if (pt_cmpR op_ne (pe_fld (pv 0) rfl) pe_str (nomark _))
        (pss_one (ps_raise rfl (takes_of rfl rfl rfl rfl) (pmk_B TB.T iC tI FI (hr.mono (by decide)) bI rfl TB.mg (pa_cons (pv 1) pa_nil))))
        pss_nil)
      (pss_one (ps_expr (pe_bm PySem.F.plainAttrs_list PySem.F.slot_list_append PySem.F.type_list_append mt_append (pe_fld (pv 0) rfl) (pa_cons (pv 1) pa_nil))))), ?_⟩
    obtain ⟨⟨dx, h1⟩, ⟨es, h2, hE⟩, ⟨us, h3, hU⟩, h4, h5⟩ := id SA
    have nar : z.a ≠ z.r := ne_of h1 h2 (by intro e; cases e)
    have nrd : z.r ≠ z.d := ne_of h2 h3 (by intro e; cases e)
    have nrt : z.r ≠ z.t := ne_of h2 h4 (by intro e; cases e)
    refine ⟨_, rfl, z.a, CS, dx, _, _, rfl, h1, T.cl, T.nSt, rfl, ?_⟩
    rcases h with ⟨hl, hn, k⟩ | ⟨hl, k⟩
    · rw [hl]
      refine ⟨rfl, _, rfl, ?_⟩
      refine ite2 (fun h => absurd h (by decide)) (fun _ => ?_)
      refine ⟨_, rfl, z.a, CS, dx, _, _, rfl, h1, T.cl, T.nRow, rfl, .inl ⟨rfl, _, SqL.of h2⟩, ?_⟩
      have les : es.length = sq.row.length := by rw [dpA_len hE, List.length_map]
      refine ⟨_, rfl, z.r, es, xv, rfl, rfl, h2, by rw [les, sizeLine_eq]; omega, ?_⟩
      have kk := Ks.lst (o' := .lst (es ++ [xv])) h2
      refine k _ ⟨⟨dx, by rw [upd_ne nar]; exact h1⟩, ⟨es ++ [xv], upd_same, ?_⟩, ⟨us, by rw [upd_ne nrd.symm]; exact h3, Paired.mapP hU fun a b q => ⟨q.1, dp_tp kk.tp _ _ (tp_row _) q.2⟩⟩, by rw [upd_ne nrt.symm]; exact h4, h5⟩ (Kp.at (by simp)) kk
      show DpAll K _ _ ((sq.row ++ [x]).map En.d)
      rw [List.map_append]
      exact dpA_app (dpA_tp kk.tp _ _ (tpAE _) hE) (.cons (dp_tp kk.tp _ _ (tp_en _) hx) .nil)
    · have hne : (!decide (V.str sq.st.s = V.str "leading")) = true := by
        cases e : sq.st with
        | leading => exact absurd e hl
        | asking => decide
        | stopped => decide
      refine ⟨rfl, _, rfl, ?_⟩
      refine ite2 (fun _ => ?_) (fun h => absurd hne h)
      exact ⟨_, rfl, mkB_one fun d hd => k d _ (Same.new hd) upd_same⟩
theorem scTakeL : FnScope ["letters", "at", "is_kept", "letter"] ["letters", "at", "is_kept"] (defScope sTakeL) := ⟨rfl, rfl, rfl, by decide +kernel, rfl, by decide +kernel, by decide +kernel⟩
theorem ok_takeL {f : Addr} {fd : FuncData} (F : Fun K "take_letter" "take_letter" sTakeL f fd) (hlen : mg "len" = none) (TB : TxB K mg CB) (c_is_number : Cal P w K mg base 1 "is_number" ["thing", "low", "high"] spIsN) (cB : CalB P w K mg base CB "name") : FnOk P w K mg base (L2.CX P w) 4 f fd ["letters", "at", "is_kept"] (spTakeL K CB) := by
  obtain ⟨fI, fdI, iC, tI, bI, FI⟩ := cB
  refine F.okX scTakeL (fun vs H Q E h => ?_) (fun cdv A outer s H vs Q E hr h => ?_)
  · obtain ⟨a, ls, x, kept, rfl, _⟩ := h
    rfl
  · obtain ⟨a, ls, x, kept, rfl, ⟨us, ha, hD⟩, hln, h⟩ := h
    refine ⟨_, (pss_cons (ps_if (pt_not (pt_val (pe_cal c_is_number (hr.mono (by decide)) rfl (pa_cons (pv 1) (pa_cons pe_int (pa_cons (pe_op op_sub (pe_callB call_len_seq (by rfl) hlen PySem.boot_len (pa_cons (pv 0) pa_nil)) pe_int) pa_nil))))))
        (pss_one (ps_raise rfl (takes_of rfl rfl rfl rfl) (pmk_B TB.T iC tI FI (hr.mono (by decide)) bI rfl TB.mg (pa_cons (pv 1) pa_nil))))
        pss_nil)
      (pss_cons (ps_set (i := 3) scTakeL.nd rfl (Or.inl rfl) (pe_ix ix_list (pv 0) (pv 1) (fun _ _ => rfl)))
      (pss_cons (ps_if (pt_not (pt_val (pv 2)))
        (pss_one (ps_delL (pv 0) (pv 1)))
        pss_nil)
      (pss_one (ps_ret (pv 3)))))), ?_⟩
    have lus : us.length = ls.length := by rw [dpA_len hD, List.length_map]
    refine ⟨_, rfl, _, rfl, a, us, rfl, .inl (SqL.of ha), _, _, rfl, rfl, x, 0, _, rfl, ?_⟩
    rw [lus]
    refine ⟨_, rfl, ?_⟩
    rcases h with ⟨n, l, rfl, hn, k⟩ | ⟨hx, k⟩
    · have hlt : n < ls.length := (List.getElem?_eq_some_iff.mp hn).1
      have eb : Th.within (.int n) 0 ((ls.length : Int) - 1) = true := by
        show (decide ((0 : Int) ≤ n) && decide ((n : Int) ≤ (ls.length : Int) - 1)) = true
        rw [decide_eq_true (by omega : (0 : Int) ≤ n), decide_eq_true (by omega : (n : Int) ≤ (ls.length : Int) - 1)]; rfl
      rw [eb]
      refine ite2 (fun h => absurd h (by decide)) (fun _ => ?_)
      obtain ⟨v, hv, dv⟩ := dpA_at' hD (i := n) (d := l.d) (by rw [List.getElem?_map, hn]; rfl)
      refine ⟨_, rfl, _, rfl, a, us, _, v, rfl, rfl, SqL.of ha, atN (j := n) rfl hv, ?_⟩
      refine ⟨_, rfl, kept, rfl, ?_⟩
      cases kept with
      | true =>
        refine ite2 (fun h => absurd h (by decide)) (fun _ => ?_)
        exact ⟨_, rfl, k v H ⟨us, ha, hD⟩ dv (Kp.same fun _ _ z => z) (Ks.refl H)⟩
      | false =>
        refine ite2 (fun _ => ?_) (fun h => absurd rfl h)
        have es : seqIndex? (n : Int) us.length = some n := by
          unfold seqIndex?
          dsimp only
          rw [if_neg (by omega : ¬ (n : Int) < 0), if_pos (by rw [decide_eq_true (by omega : (0 : Int) ≤ n), decide_eq_true (by omega : (n : Int) < us.length)]; rfl), Int.toNat_natCast]
        refine ⟨_, rfl, _, rfl, a, us, n, n, rfl, rfl, ha, by omega, by omega, es, ?_⟩
        have kk := Ks.lst (o' := .lst (us.eraseIdx n)) ha
        refine ⟨_, rfl, k v _ ⟨us.eraseIdx n, upd_same, ?_⟩ (dp_tp kk.tp _ _ (tp_ltr _) dv) (Kp.at (by simp)) kk⟩
        show DpAll K _ _ ((ls.eraseIdx n).map Ltr.d)
        have gen : ∀ (m : Nat) {vs : List V} {ds : List PyData}, DpAll K H vs ds → DpAll K H (vs.eraseIdx m) (ds.eraseIdx m) := by
          intro m
          induction m with
          | zero => intro vs ds h; cases h with | nil => exact .nil | cons a b => exact b
          | succ m ih => intro vs ds h; cases h with | nil => exact .nil | cons a b => exact .cons a (ih b)
        have e2 : (ls.eraseIdx n).map Ltr.d = (ls.map Ltr.d).eraseIdx n := by rw [List.eraseIdx_eq_take_drop_succ, List.eraseIdx_eq_take_drop_succ, List.map_append, List.map_take, List.map_drop]
        rw [e2]
        refine dpA_tp kk.tp _ _ ?_ (gen n hD)
        rw [← e2]
        exact tpAL _
    · rw [hx]
      refine ite2 (fun _ => ?_) (fun h => absurd rfl h)
      exact ⟨_, rfl, mkB_one fun d hd => k d _ (Same.new hd) upd_same⟩
end
end Mc.Cn
namespace Mc
open PySem L2 PySem.Spec PyProof.Rows Evl
/-! dicts made of rows of pairs -/
def rDictP (K : PySem.W.Frag) : List V → Hp → VK → Prop := fun xs H Q => ∃ (a : Addr) (ps : List Addr) (kvs : List (L2.Key × V)), xs = [.ref a] ∧ SqL K H a (ps.map V.ref) ∧ Paired (fun p kv => SqT K H p [kV kv.1, kv.2]) ps kvs ∧ ∀ p, H p = none → Q (.ref p) (upd H p (.dK (mergeK [] kvs)))
theorem call_dictPK {X : Cx} {K : PySem.W.Frag} (h : X.K = K) (hc : X.calm = true) : CallR X (.type "dict") (rDictP K) := by
  subst h
  exact call_dictP hc
theorem tups_of {α : Type} {K : PySem.W.Frag} {H : Hp} {f : α → List V} {g : α → L2.Key × V} (e : ∀ y, f y = [kV (g y).1, (g y).2]) : ∀ {ys : List α} {us : List V}, Paired (fun y v => NewTup f y v H) ys us → ∃ ps : List Addr, us = ps.map V.ref ∧ Paired (fun p kv => SqT K H p [kV kv.1, kv.2]) ps (ys.map g)
  | _, _, .nil => ⟨[], rfl, .nil⟩
  | _, _, .cons ⟨p, ep, hp⟩ t => by
    obtain ⟨ps, e1, e2⟩ := tups_of e t
    exact ⟨p :: ps, by rw [ep, e1]; rfl, .cons (SqT.of (by rw [← e]; exact hp)) e2⟩
/-- a new list of new tuples -/
def EvUs {α : Type} (te : TE) (σ : L2.St) (H : Hp) (f : α → List V) (ys : List α) : Prop := ∀ H1, Ex H H1 → ∀ Q : VK, (∀ D us H2, H1 D = none → Ex H1 H2 → H2 D = some (.lst us) → Paired (fun y v => NewTup f y v H2) ys us → Q (.ref D) H2) → te σ H1 Q
section
variable {K : PySem.W.Frag} {σ : L2.St} {H : Hp} {te : TE} {a : Addr} {α : Type} {f : α → List V} {ys : List α}
theorem us_lock {kvs : List (L2.Key × V)} (h : H a = some (.dK kvs)) (k : ∀ od, EvUs te σ (upd H a (.frz od (.dK kvs))) f ys) : EvUs (tLockE te) σ H f ys := fun H1 e Q q => by
  have h1 := e _ _ h
  refine ⟨a, _, h1, trivial, fun od => ?_⟩
  have e1 : Ex (upd H a (.frz od (.dK kvs))) (upd H1 a (.frz od (.dK kvs))) := fun b o z => by
    by_cases nb : b = a
    · rw [nb, upd_same] at z ⊢; exact z
    · rw [upd_ne nb] at z ⊢; exact e _ _ z
  refine k od _ e1 _ fun p us H2 hp e2 h2 pr => ?_
  have na : p ≠ a := fun z => by rw [z, upd_same] at hp; cases hp
  have fa : H2 a = some (.frz od (.dK kvs)) := e2 _ _ upd_same
  refine ⟨fa, q p us _ (by rw [upd_ne na] at hp; exact hp) (fun b o z => ?_) (by rw [upd_ne na]; exact h2) (prd_imp (fun y v ⟨g, eg, hg⟩ => ⟨g, eg, by rw [upd_ne fun z => by rw [z, fa] at hg; cases hg]; exact hg⟩) pr)⟩
  by_cases nb : b = a
  · rw [nb, h1] at z; rw [nb, upd_same]; exact z
  · rw [upd_ne nb]; exact e2 _ _ (by rw [upd_ne nb]; exact z)
theorem ed_pairs {g : α → L2.Key × V} (e : ∀ y, f y = [kV (g y).1, (g y).2]) (h : EvUs te σ H f ys) {kvs : List (L2.Key × V)} (hk : mergeK [] (ys.map g) = kvs) : EvD (tCB (rDictP K) (tCons te tNil)) σ H kvs := fun H1 e1 Q q =>
  h H1 e1 _ fun D us H2 hD e2 h2 pr => by
    obtain ⟨ps, rfl, pp⟩ := tups_of (K := K) e pr
    refine ⟨D, ps, _, rfl, SqL.of h2, pp, fun p hp => ?_⟩
    rw [hk]
    exact q p _ (fresh_back e2 hp) (e2.trans (Ex.new hp)) upd_same
theorem EvD.go1 {kvs : List (L2.Key × V)} {Q : VK} (h : EvD te σ H kvs) (k : ∀ p H2, H p = none → Ex H H2 → H2 p = some (.dK kvs) → Q (.ref p) H2) : te σ H Q := h H (Ex.refl H) Q k
theorem q_asgD {tz : TS} {D : Ends} {i : Nat} {kvs : List (L2.Key × V)} (h : EvD te σ H kvs) (k : ∀ p H1, H p = none → Ex H H1 → H1 p = some (.dK kvs) → tz D (σ.set i (some (.ref p))) H1) : tSeq (tAsg te (gName i)) tz D σ H := h H (Ex.refl H) _ fun p H1 hp e h1 => k p H1 hp e h1
theorem q_asgP {te : TE} {tz : TS} {D : Ends} {σ : L2.St} {H : Hp} {i : Nat} {P : V → Hp → Prop} (h : EvP te σ H P) (k : ∀ v H1, Ex H H1 → P v H1 → tz D (σ.set i (some v)) H1) : tSeq (tAsg te (gName i)) tz D σ H := h H (Ex.refl H) _ k
/-- a copy of a dict -/
theorem ed_copy {r : List V → Hp → VK → Prop} {kvs : List (L2.Key × V)} (hr : r = fun xs H Q => ∃ (a : Addr) (kvs : List (L2.Key × V)), xs = [.ref a] ∧ Rd H a (.dK kvs) ∧ ∀ p, H p = none → Q (.ref p) (upd H p (.dK kvs))) (h : Ev te σ H (.ref a)) (hd : Rd H a (.dK kvs)) : EvD (tCB r (tCons te tNil)) σ H kvs := by
  subst hr
  exact fun H1 e1 Q q => h H1 e1 _ fun H2 e2 => ⟨a, kvs, rfl, ex_rd (e1.trans e2) hd, fun p hp => q p _ (fresh_back e2 hp) (e2.trans (Ex.new hp)) upd_same⟩
end
theorem prd_len {α β : Type} {F : α → β → Prop} : ∀ {xs : List α} {ys : List β}, Paired F xs ys → ys.length = xs.length
  | _, _, .nil => rfl
  | _, _, .cons _ t => by rw [List.length_cons, List.length_cons, prd_len t]
theorem us_items {β : Type} {K : PySem.W.Frag} {σ : L2.St} {H : Hp} {te : TE} {a : Addr} {g : β → V} {l : List (PySem.Str × β)} {o : Obj} {f : PySem.Str × β → List V} {i j : Nat} {vs : List Nat} {tl : TE} (hl : Ev tl σ H (.ref a)) (h : H a = some (.frz o (.dK (kvT g l)))) (hz : l.length < 100000)
    (turn : ∀ (k : Nat) y, l[k]? = some y → ∀ H', Ex H H' → EvU te (((wipe σ vs).set i (some (.str y.1))).set j (some (g y.2))) H' (f y)) (hw : ∀ u v, wipe (((wipe σ vs).set i (some u)).set j (some v)) vs = wipe σ vs := by intro _ _; rfl) :
    EvUs (tLc (iItems tl) (gTup K 2 (gCons (gName i) (gCons (gName j) gNil))) tYes te vs) σ H f l := fun H1 e Q q => hl H1 e _ fun H2 e2 => ⟨a, o, _, rfl, e2 _ _ (e _ _ h), fun D hD => by
  refine lc_it walk_items (fun n H' => ∃ us, Ex H2 H' ∧ H' D = some (.lst us) ∧ Paired (fun y v => NewTup f y v H') (l.take n) us) ⟨[], Ex.new hD, upd_same, .nil⟩ (fun n H' _ p => by obtain ⟨us, s, _⟩ := p; exact s _ _ (e2 _ _ (e _ _ h))) ?_ ?_
  · rintro n x H5 H6 hn ⟨us, s5, hD5, pr⟩ ⟨T5, x1, x2, rfl, hT5, rfl, ex, ey⟩
    obtain ⟨z, hz', rfl, rfl⟩ : ∃ z, l[n]? = some z ∧ x1 = V.str z.1 ∧ x2 = g z.2 := by
      replace ex : ((kvT g l)[n]?.map fun kv => kV kv.1) = some x1 := ex
      replace ey : ((kvT g l)[n]?.map Prod.snd) = some x2 := ey
      unfold kvT at ex ey
      rw [List.getElem?_map] at ex ey
      cases e : l[n]? with
      | none => rw [e] at ex; cases ex
      | some z => rw [e] at ex ey; exact ⟨z, rfl, (Option.some.inj ex).symm, (Option.some.inj ey).symm⟩
    have s6 := Ex.new (o := .tup [.str z.1, g z.2]) hT5
    refine ⟨T5, [.str z.1, g z.2], rfl, SqT.of upd_same, rfl, _, _, rfl, _, _, rfl, rfl, hw _ _, yes_ite ?_⟩
    refine turn n z hz' _ (((e.trans e2).trans s5).trans s6) _ (Ex.refl _) _ fun p H7 hp x7 h7 => ?_
    have hD7 := x7 _ _ (s6 _ _ hD5)
    have ext : ∀ b o, H5 b = some o → b ≠ D → (upd H7 D (.lst (us ++ [.ref p]))) b = some o := fun b o z n => by rw [upd_ne n]; exact x7 _ _ (s6 _ _ z)
    refine ⟨us, hD7, ?_, us ++ [.ref p], fun b o z => ext b o (s5 _ _ z) (ne_of_none z hD), upd_same, ?_⟩
    · rw [prd_len pr, List.length_take]
      exact sz_lt (by omega)
    · rw [List.take_add_one, hz']
      refine prd_snoc (prd_imp (fun y v ⟨r, er, hr⟩ => ⟨r, er, ext _ _ hr fun z => by rw [z, hD5] at hr; cases hr⟩) pr) ⟨p, rfl, ?_⟩
      rw [upd_ne fun z => by rw [z, hD7] at h7; cases h7]; exact h7
  · rintro H5 ⟨us, s5, hD5, pr⟩
    rw [show (kvT g l).length = l.length by unfold kvT; rw [List.length_map], List.take_length] at pr
    exact q D us H5 (fresh_back e2 hD) (e2.trans s5) hD5 pr⟩
theorem q_two {t : TT} {tu tz : TS} {D : Ends} {σ : L2.St} {H : Hp} (R : L2.St → Hp → Prop) (tail : ∀ σ' H', R σ' H' → tz D σ' H') (b : (∀ σ' H', R σ' H' → tz D σ' H') → tIfS t tu tNext { D with nx := tz D } σ H) : tSeq (tIfS t tu tNext) tz D σ H := b tail
theorem kv_filter {β : Type} {f : β → V} {l : List (PySem.Str × β)} (nd : (keysT l).Nodup) (p : PySem.Str → Bool) (z : β) : ((keysT l).filter p).map (fun y => ((Sum.inr y : L2.Key), f ((getT l y).getD z))) = kvT f (l.filter fun x => p x.1) := by
  unfold kvT keysT
  rw [List.filter_map, List.map_map]
  refine List.map_congr_left fun x hx => ?_
  have hx' := (List.mem_filter.mp hx).1
  show ((Sum.inr x.1 : L2.Key), f ((getT l x.1).getD z)) = _
  rw [getT_mem nd (v := x.2) hx']
  rfl
end Mc
namespace Mc.Cn
open PySem L2 PySem.Spec PyProof.Rows Evl LamX NdefX
/-! a side: a list of keepers and a list of sequencers, and where all of it lies -/
structure Sf where
  kl : Addr
  sl : Addr
  ks : List Addr
  fs : List Ft
def Sf.fl (g : Sf) : List Addr := (g.fs.map Ft.l).flatten
def Sf.all (g : Sf) : List Addr := g.kl :: g.sl :: (g.ks ++ g.fl)
structure SdAt (K : PySem.W.Frag) (CK CS : Addr) (H : Hp) (g : Sf) (w : Cw) : Prop where
  hk : H g.kl = some (.lst (g.ks.map V.ref))
  hs : H g.sl = some (.lst (g.fs.map fun z => V.ref z.a))
  pk : Paired (fun a k => KeAt K CK H a k) g.ks w.ks
  ps : Paired (fun z s => SqAt K CS H z s) g.fs w.ss
  nd : g.all.Nodup
def NoTb (H : Hp) (b : Addr) : Prop := ∃ o, H b = some o ∧ ∀ ps, o ≠ .tbl ps
section
variable {K : PySem.W.Frag} {CK CS : Addr} {H H' : Hp} {g g' : Sf} {w : Cw}
theorem mem_fl {b : Addr} : b ∈ g.fl ↔ ∃ z ∈ g.fs, b ∈ z.l := by
  unfold Sf.fl
  rw [List.mem_flatten]
  exact ⟨fun ⟨l, h1, h2⟩ => by obtain ⟨z, hz, rfl⟩ := List.mem_map.mp h1; exact ⟨z, hz, h2⟩, fun ⟨z, hz, h⟩ => ⟨_, List.mem_map.mpr ⟨z, hz, rfl⟩, h⟩⟩
theorem mem_all {b : Addr} : b ∈ g.all ↔ b = g.kl ∨ b = g.sl ∨ b ∈ g.ks ∨ ∃ z ∈ g.fs, b ∈ z.l := by
  unfold Sf.all
  rw [List.mem_cons, List.mem_cons, List.mem_append, mem_fl]
theorem SqAt.nt {z : Ft} {s : SqS} (h : SqAt K CS H z s) : ∀ b ∈ z.l, NoTb H b := by
  obtain ⟨⟨dx, h1⟩, ⟨es, h2, _⟩, ⟨us, h3, _⟩, h4, _⟩ := h
  intro b hb
  simp only [Ft.l, List.mem_cons, List.not_mem_nil, or_false] at hb
  rcases hb with rfl | rfl | rfl | rfl
  · exact ⟨_, h1, fun _ z => by cases z⟩
  · exact ⟨_, h2, fun _ z => by cases z⟩
  · exact ⟨_, h3, fun _ z => by cases z⟩
  · exact ⟨_, h4, fun _ z => by cases z⟩
theorem prd_mem2 {α β : Type} {F : α → β → Prop} : ∀ {xs : List α} {ys : List β}, Paired F xs ys → ∀ {x : α}, x ∈ xs → ∃ y ∈ ys, F x y
  | _, _, .nil, _, h => nomatch h
  | _, _, .cons a b, x, h => by
    rcases List.mem_cons.mp h with rfl | h
    · exact ⟨_, .head _, a⟩
    · obtain ⟨y, hy, f⟩ := prd_mem2 b h
      exact ⟨y, .tail _ hy, f⟩
theorem SdAt.nt (x : SdAt K CK CS H g w) : ∀ b ∈ g.all, NoTb H b := by
  intro b hb
  rcases mem_all.mp hb with rfl | rfl | hb | ⟨z, hz, hb⟩
  · exact ⟨_, x.hk, fun _ z => by cases z⟩
  · exact ⟨_, x.hs, fun _ z => by cases z⟩
  · obtain ⟨k, _, dx, r, l, w, h, _⟩ := prd_mem2 x.pk hb
    exact ⟨_, h, fun _ z => by cases z⟩
  · obtain ⟨s, _, h⟩ := prd_mem2 x.ps hz
    exact h.nt b hb
theorem prd_map2 {α β : Type} {F G : α → β → Prop} : ∀ {xs : List α} {ys : List β}, Paired F xs ys → (∀ x ∈ xs, ∀ y ∈ ys, F x y → G x y) → Paired G xs ys
  | _, _, .nil, _ => .nil
  | _, _, .cons a b, h => .cons (h _ (.head _) _ (.head _) a) (prd_map2 b fun x hx y hy => h x (.tail _ hx) y (.tail _ hy))
/-- the side lives on where none of its objects changes -/
theorem SdAt.stay (x : SdAt K CK CS H g w) (k : Ks H H') (e : ∀ b ∈ g.all, ∀ o, H b = some o → H' b = some o) : SdAt K CK CS H' g w :=
  ⟨e _ (mem_all.mpr (.inl rfl)) _ x.hk, e _ (mem_all.mpr (.inr (.inl rfl))) _ x.hs, prd_map2 x.pk fun a ha _ _ h => h.stay k fun o z => e a (mem_all.mpr (.inr (.inr (.inl ha)))) o z,
    prd_map2 x.ps fun z hz _ _ h => h.stay k fun b hb o y => e b (mem_all.mpr (.inr (.inr (.inr ⟨z, hz, hb⟩)))) o y, x.nd⟩
theorem SdAt.same (x : SdAt K CK CS H g w) (s : Same H H') : SdAt K CK CS H' g w := x.stay (Ks.same s) fun _ _ _ z => s _ _ z
theorem SdAt.far {F : List Addr} (x : SdAt K CK CS H g w) (k : Ks H H') (f : KpN F H H') (d : ∀ b ∈ g.all, b ∉ F) : SdAt K CK CS H' g w := x.stay k fun b hb o z => by
  obtain ⟨o', ho', nt⟩ := x.nt b hb
  rw [ho'] at z
  obtain rfl := Option.some.inj z
  exact f b _ ho' (d b hb) nt
theorem prd_ix {α β : Type} {F G : α → β → Prop} {xs : List α} {ys : List β} (h : Paired F xs ys) : (∀ (j : Nat) a b, xs[j]? = some a → ys[j]? = some b → F a b → G a b) → Paired G xs ys := by
  induction h with
  | nil => exact fun _ => .nil
  | cons a b ih => exact fun k => .cons (k 0 _ _ rfl rfl a) (ih fun j => k (j + 1))
theorem nodup_flat {α : Type} {L : List (List α)} : L.flatten.Nodup ↔ (∀ l ∈ L, l.Nodup) ∧ L.Pairwise fun a b => ∀ x ∈ a, ∀ y ∈ b, x ≠ y := List.pairwise_flatten
theorem prd_set {α β : Type} {F G : α → β → Prop} : ∀ {xs : List α} {ys : List β} {i : Nat} {x : α} {y : β}, Paired F xs ys → G x y → (∀ (j : Nat) a b, j ≠ i → xs[j]? = some a → ys[j]? = some b → F a b → G a b) → Paired G (xs.set i x) (ys.set i y)
  | _, _, _, _, _, .nil, _, _ => .nil
  | _, _, 0, _, _, .cons a b, h, k => .cons h (prd_ix b fun j a b h1 h2 => k (j + 1) a b (by omega) h1 h2)
  | _, _, i + 1, _, _, .cons a b, h, k => .cons (k 0 _ _ (by omega) rfl rfl a) (prd_set b h fun j a b hj h1 h2 => k (j + 1) a b (by omega) h1 h2)
theorem set_self {α : Type} {xs : List α} {i : Nat} {x : α} (h : xs[i]? = some x) : xs.set i x = xs := by
  refine List.ext_getElem? fun j => ?_
  rw [List.getElem?_set]
  by_cases c : i = j
  · subst c
    rw [if_pos rfl, if_pos (List.getElem?_eq_some_iff.mp h).1, h]
  · rw [if_neg c]
/-- one keeper has changed -/
theorem SdAt.keeper {i : Nat} {a : Addr} {k' : KeS} (x : SdAt K CK CS H g w) (ha : g.ks[i]? = some a) (h : KeAt K CK H' a k') (kp : Kp [a] H H') (k : Ks H H') : SdAt K CK CS H' g ⟨w.ks.set i k', w.ss⟩ := by
  have ham : a ∈ g.ks := List.mem_of_getElem? ha
  have nd := x.nd
  unfold Sf.all at nd
  obtain ⟨n1, nd⟩ := List.nodup_cons.mp nd
  obtain ⟨n2, nd⟩ := List.nodup_cons.mp nd
  obtain ⟨n3, n4, n5⟩ := List.nodup_append.mp nd
  have keep : ∀ b o, b ≠ a → H b = some o → H' b = some o := fun b o n z => kp b o z (by simpa using n)
  refine ⟨keep _ _ (fun e => n1 (by rw [e]; exact List.mem_cons_of_mem _ (List.mem_append.mpr (.inl ham)))) x.hk, keep _ _ (fun e => n2 (by rw [e]; exact List.mem_append.mpr (.inl ham))) x.hs, ?_,
    prd_map2 x.ps fun z hz _ _ q => q.stay k fun b hb o y => keep b o (fun e => n5 a ham b (mem_fl.mpr ⟨z, hz, hb⟩) e.symm) y, x.nd⟩
  have := prd_set (i := i) (x := a) (y := k') (G := fun a k => KeAt K CK H' a k) x.pk h fun j b k2 hj hb _ q => q.stay k fun o y => keep b o (fun e => by
    subst e
    have l1 := List.getElem?_eq_some_iff.mp ha
    have l2 := List.getElem?_eq_some_iff.mp hb
    exact hj ((List.getElem_inj n3).mp (l2.2.trans l1.2.symm))) y
  rw [set_self ha] at this
  exact this
theorem SdAt.kget {i : Nat} {k : KeS} (x : SdAt K CK CS H g w) (h : w.ks[i]? = some k) : ∃ a, g.ks[i]? = some a ∧ KeAt K CK H a k := by
  have : ∀ {xs : List Addr} {ys : List KeS}, Paired (fun a k => KeAt K CK H a k) xs ys → ∀ {i : Nat} {y : KeS}, ys[i]? = some y → ∃ x, xs[i]? = some x ∧ KeAt K CK H x y := by
    intro xs ys h
    induction h with
    | nil => intro i y h; simp at h
    | cons a b ih =>
      intro i y h
      cases i with
      | zero => cases h; exact ⟨_, rfl, a⟩
      | succ i => exact ih (i := i) h
  exact this x.pk h
theorem SdAt.sget {i : Nat} {s : SqS} (x : SdAt K CK CS H g w) (h : w.ss[i]? = some s) : ∃ z, g.fs[i]? = some z ∧ SqAt K CS H z s := by
  have : ∀ {xs : List Ft} {ys : List SqS}, Paired (fun a k => SqAt K CS H a k) xs ys → ∀ {i : Nat} {y : SqS}, ys[i]? = some y → ∃ x, xs[i]? = some x ∧ SqAt K CS H x y := by
    intro xs ys h
    induction h with
    | nil => intro i y h; simp at h
    | cons a b ih =>
      intro i y h
      cases i with
      | zero => cases h; exact ⟨_, rfl, a⟩
      | succ i => exact ih (i := i) h
  exact this x.ps h
/-- what a side may have become: the same lists and keepers, new rows only -/
structure Gro (H : Hp) (g g' : Sf) : Prop where
  kl : g'.kl = g.kl
  sl : g'.sl = g.sl
  ks : g'.ks = g.ks
  all : ∀ b ∈ g'.all, b ∈ g.all ∨ H b = none
  fa : ∀ (i : Nat) (z : Ft), g.fs[i]? = some z → ∃ z', g'.fs[i]? = some z' ∧ z'.a = z.a
theorem fa_app {xs : List Ft} {y : Ft} : ∀ (i : Nat) (z : Ft), xs[i]? = some z → ∃ z', (xs ++ [y])[i]? = some z' ∧ z'.a = z.a := fun i z h => ⟨z, by rw [List.getElem?_append_left (List.getElem?_eq_some_iff.mp h).1]; exact h, rfl⟩
theorem fa_set {xs : List Ft} {i : Nat} {y y' : Ft} (hy : xs[i]? = some y) (ea : y'.a = y.a) : ∀ (j : Nat) (z : Ft), xs[j]? = some z → ∃ z', (xs.set i y')[j]? = some z' ∧ z'.a = z.a := fun j z h => by
  by_cases c : i = j
  · subst c
    rw [hy] at h
    obtain rfl := Option.some.inj h
    exact ⟨y', List.getElem?_set_self (List.getElem?_eq_some_iff.mp hy).1, ea⟩
  · exact ⟨z, by rw [List.getElem?_set_ne c]; exact h, rfl⟩
theorem Gro.refl (H : Hp) (g : Sf) : Gro H g g := ⟨rfl, rfl, rfl, fun _ h => .inl h, fun _ z h => ⟨z, h, rfl⟩⟩
theorem Gro.trans {H1 H2 : Hp} {a b c : Sf} (x : Gro H1 a b) (y : Gro H2 b c) (s : ∀ u, H2 u = none → H1 u = none ∨ u ∈ a.all) : Gro H1 a c :=
  ⟨y.kl.trans x.kl, y.sl.trans x.sl, y.ks.trans x.ks, fun u h => (y.all u h).elim (x.all u) fun z => (s u z).elim .inr .inl, fun i z h => by
    obtain ⟨z1, h1, e1⟩ := x.fa i z h
    obtain ⟨z2, h2, e2⟩ := y.fa i z1 h1
    exact ⟨z2, h2, e2.trans e1⟩⟩
/-- one sequencer has changed -/
theorem SdAt.seq {i : Nat} {z z' : Ft} {s' : SqS} (x : SdAt K CK CS H g w) (hz : g.fs[i]? = some z) (h : SqAt K CS H' z' s') (ea : z'.a = z.a) (ed : z'.d = z.d) (et : z'.t = z.t) (er : z'.r = z.r ∨ H z'.r = none) (f : KpN z.l H H') (k : Ks H H') :
    SdAt K CK CS H' { g with fs := g.fs.set i z' } ⟨w.ks, w.ss.set i s'⟩ ∧ Gro H g { g with fs := g.fs.set i z' } := by
  have hzm : z ∈ g.fs := List.mem_of_getElem? hz
  have hil := (List.getElem?_eq_some_iff.mp hz).1
  have nd := x.nd
  unfold Sf.all at nd
  obtain ⟨n1, nd1⟩ := List.nodup_cons.mp nd
  obtain ⟨n2, nd2⟩ := List.nodup_cons.mp nd1
  obtain ⟨n3, n4, n5⟩ := List.nodup_append.mp nd2
  have zfl : ∀ b ∈ z.l, b ∈ g.fl := fun b hb => mem_fl.mpr ⟨z, hzm, hb⟩
  have mem' : ∀ b ∈ z'.l, b ∈ z.l ∨ H b = none := fun b hb => by
    simp only [Ft.l, List.mem_cons, List.not_mem_nil, or_false] at hb ⊢
    rcases hb with e | e | e | e
    · exact .inl (.inl (e.trans ea))
    · rcases er with q | q
      · exact .inl (.inr (.inl (e.trans q)))
      · exact .inr (e ▸ q)
    · exact .inl (.inr (.inr (.inl (e.trans ed))))
    · exact .inl (.inr (.inr (.inr (e.trans et))))
  -- the other sequencers lie apart
  have apart : ∀ j y, j ≠ i → g.fs[j]? = some y → ∀ b ∈ y.l, b ∉ z.l := by
    intro j y hj hy b hb hbz
    have hjl := (List.getElem?_eq_some_iff.mp hy).1
    have hf : (g.fs.map Ft.l).flatten.Nodup := n4
    rw [nodup_flat] at hf
    have pw := hf.2
    have gi : (g.fs.map Ft.l)[i]? = some z.l := by rw [List.getElem?_map, hz]; rfl
    have gj : (g.fs.map Ft.l)[j]? = some y.l := by rw [List.getElem?_map, hy]; rfl
    obtain ⟨li, ei⟩ := List.getElem?_eq_some_iff.mp gi
    obtain ⟨lj, ej⟩ := List.getElem?_eq_some_iff.mp gj
    rw [List.pairwise_iff_getElem] at pw
    rcases Nat.lt_or_gt_of_ne hj with c | c
    · have := pw j i lj li c
      rw [ei, ej] at this
      exact this b hb b hbz rfl
    · have := pw i j li lj c
      rw [ei, ej] at this
      exact this b hbz b hb rfl
  have nt := x.nt
  have keep : ∀ b ∈ g.all, b ∉ z.l → ∀ o, H b = some o → H' b = some o := fun b hb n o y => by
    obtain ⟨o', ho', ntb⟩ := nt b hb
    rw [ho'] at y
    obtain rfl := Option.some.inj y
    exact f b _ ho' n ntb
  have inA : ∀ b, b ∈ g.kl :: g.sl :: (g.ks ++ g.fl) → b ∈ g.all := fun b hb => hb
  have hset : ∀ u ∈ g.fs.set i z', u = z' ∨ ∃ j, j ≠ i ∧ g.fs[j]? = some u := fun u hu => by
    obtain ⟨j, hj⟩ := List.mem_iff_getElem?.mp hu
    rw [List.getElem?_set] at hj
    by_cases c : i = j
    · rw [if_pos c] at hj
      by_cases c2 : i < g.fs.length
      · rw [if_pos c2] at hj
        exact .inl (Option.some.inj hj).symm
      · rw [if_neg c2] at hj; cases hj
    · rw [if_neg c] at hj
      exact .inr ⟨j, fun e => c e.symm, hj⟩
  have hfl' : ∀ b, b ∈ (({ g with fs := g.fs.set i z' } : Sf)).fl → b ∈ g.fl ∨ H b = none := fun b hb => by
    obtain ⟨u, hu, hbu⟩ := mem_fl.mp hb
    rcases hset u hu with rfl | ⟨j, hj, hu⟩
    · exact (mem' b hbu).imp (zfl b) id
    · exact .inl (mem_fl.mpr ⟨u, List.mem_of_getElem? hu, hbu⟩)
  have alloc : ∀ b ∈ g.all, H b ≠ none := fun b hb e => by
    obtain ⟨o, ho, _⟩ := nt b hb
    rw [ho] at e; cases e
  refine ⟨⟨keep g.kl (mem_all.mpr (.inl rfl)) (fun m => n1 (List.mem_cons_of_mem _ (List.mem_append.mpr (.inr (zfl _ m))))) _ x.hk, ?_, ?_, ?_, ?_⟩, rfl, rfl, rfl, fun b hb => ?_, fa_set hz ea⟩
  · have e : (g.fs.set i z').map (fun z => V.ref z.a) = g.fs.map fun z => V.ref z.a := by
      rw [List.map_set, ea]
      exact set_self (by rw [List.getElem?_map, hz]; rfl)
    show H' g.sl = some (.lst ((g.fs.set i z').map fun z => V.ref z.a))
    rw [e]
    exact keep g.sl (mem_all.mpr (.inr (.inl rfl))) (fun m => n2 (List.mem_append.mpr (.inr (zfl _ m)))) _ x.hs
  · exact prd_map2 x.pk fun a ha _ _ q => q.stay k fun o y => keep a (mem_all.mpr (.inr (.inr (.inl ha)))) (fun m => n5 a ha a (zfl _ m) rfl) o y
  · exact prd_set x.ps h fun j u s hj hu _ q => q.stay k fun b hb o y => keep b (mem_all.mpr (.inr (.inr (.inr ⟨u, List.mem_of_getElem? hu, hb⟩)))) (apart j u hj hu b hb) o y
  · -- no object twice
    show (g.kl :: g.sl :: (g.ks ++ ({ g with fs := g.fs.set i z' } : Sf).fl)).Nodup
    have zn : z'.l.Nodup := by
      have zl : z.l.Nodup := by
        have hf : (g.fs.map Ft.l).flatten.Nodup := n4
        rw [nodup_flat] at hf
        exact hf.1 _ (List.mem_map.mpr ⟨z, hzm, rfl⟩)
      rcases er with q | q
      · have : z' = z := by cases z; cases z'; simp_all
        rw [this]; exact zl
      · have nn : ∀ b ∈ z.l, b ≠ z'.r := fun b hb e => alloc b (mem_all.mpr (.inr (.inr (.inr ⟨z, hzm, hb⟩)))) (e ▸ q)
        have na := nn z.a (by simp [Ft.l])
        have nd' := nn z.d (by simp [Ft.l])
        have nt' := nn z.t (by simp [Ft.l])
        simp only [Ft.l, List.nodup_cons, List.mem_cons, List.not_mem_nil, or_false, not_or, List.nodup_nil, and_true, not_false_eq_true] at zl ⊢
        rw [ea, ed, et]
        exact ⟨⟨na, zl.1.2.1, zl.1.2.2⟩, ⟨fun e => nd' e.symm, fun e => nt' e.symm⟩, zl.2.2⟩
    have fn : (({ g with fs := g.fs.set i z' } : Sf).fl).Nodup := by
      show ((g.fs.set i z').map Ft.l).flatten.Nodup
      have hf : (g.fs.map Ft.l).flatten.Nodup := n4
      rw [nodup_flat] at hf ⊢
      refine ⟨fun l hl => ?_, ?_⟩
      · obtain ⟨u, hu, rfl⟩ := List.mem_map.mp hl
        rcases hset u hu with rfl | ⟨j, _, hu⟩
        · exact zn
        · exact hf.1 _ (List.mem_map.mpr ⟨u, List.mem_of_getElem? hu, rfl⟩)
      · rw [List.pairwise_iff_getElem]
        intro a b la lb hab p hp1 p2 hp2 epp
        subst epp
        rw [List.length_map, List.length_set] at la lb
        have gg : ∀ (m : Nat) (lm : m < g.fs.length), (g.fs.set i z')[m]? = some (if m = i then z' else g.fs[m]) := fun m lm => by
          rw [List.getElem?_set]
          by_cases c : i = m
          · subst c; rw [if_pos rfl, if_pos rfl, if_pos lm]
          · rw [if_neg c, if_neg fun e => c e.symm, List.getElem?_eq_getElem lm]
        have ea1 : ((g.fs.set i z').map Ft.l)[a]? = some (if a = i then z' else g.fs[a]).l := by rw [List.getElem?_map, gg a la]; rfl
        have eb1 : ((g.fs.set i z').map Ft.l)[b]? = some (if b = i then z' else g.fs[b]).l := by rw [List.getElem?_map, gg b lb]; rfl
        rw [(List.getElem?_eq_some_iff.mp ea1).2] at hp1
        rw [(List.getElem?_eq_some_iff.mp eb1).2] at hp2
        have oth : ∀ (m : Nat) (lm : m < g.fs.length), m ≠ i → p ∈ (g.fs[m]).l → p ∈ z'.l → False := fun m lm hm h1 h2 => by
          rcases mem' p h2 with h2 | h2
          · exact apart m _ hm (List.getElem?_eq_getElem lm) p h1 h2
          · exact alloc p (mem_all.mpr (.inr (.inr (.inr ⟨_, List.getElem_mem lm, h1⟩)))) h2
        by_cases ca : a = i
        · by_cases cb : b = i
          · omega
          · rw [if_pos ca] at hp1
            rw [if_neg cb] at hp2
            exact oth b lb cb hp2 hp1
        · by_cases cb : b = i
          · rw [if_neg ca] at hp1
            rw [if_pos cb] at hp2
            exact oth a la ca hp1 hp2
          · rw [if_neg ca] at hp1
            rw [if_neg cb] at hp2
            have pw := hf.2
            rw [List.pairwise_iff_getElem] at pw
            have := pw a b (by rw [List.length_map]; exact la) (by rw [List.length_map]; exact lb) hab
            rw [List.getElem_map, List.getElem_map] at this
            exact this p hp1 p hp2 rfl
    have off : ∀ b, b ∈ g.all → b ∉ g.fl → b ∉ ({ g with fs := g.fs.set i z' } : Sf).fl := fun b hb nb m => (hfl' b m).elim nb (alloc b hb)
    refine List.nodup_cons.mpr ⟨fun m => ?_, List.nodup_cons.mpr ⟨fun m => ?_, List.nodup_append.mpr ⟨n3, fn, fun a ha b hb e => ?_⟩⟩⟩
    · rcases List.mem_cons.mp m with e | m
      · exact n1 (by rw [e]; exact .head _)
      · rcases List.mem_append.mp m with m | m
        · exact n1 (List.mem_cons_of_mem _ (List.mem_append.mpr (.inl m)))
        · exact off g.kl (mem_all.mpr (.inl rfl)) (fun q => n1 (List.mem_cons_of_mem _ (List.mem_append.mpr (.inr q)))) m
    · rcases List.mem_append.mp m with m | m
      · exact n2 (List.mem_append.mpr (.inl m))
      · exact off g.sl (mem_all.mpr (.inr (.inl rfl))) (fun q => n2 (List.mem_append.mpr (.inr q))) m
    · subst e
      exact off a (mem_all.mpr (.inr (.inr (.inl ha)))) (fun q => n5 a ha a q rfl) hb
  · rcases mem_all.mp hb with e | e | m | ⟨u, hu, m⟩
    · exact .inl (mem_all.mpr (.inl e))
    · exact .inl (mem_all.mpr (.inr (.inl e)))
    · exact .inl (mem_all.mpr (.inr (.inr (.inl m))))
    · exact (hfl' b (mem_fl.mpr ⟨u, hu, m⟩)).imp (fun q => mem_all.mpr (.inr (.inr (.inr (mem_fl.mp q))))) id
/-- one sequencer more -/
theorem SdAt.push {z : Ft} {s : SqS} (x : SdAt K CK CS H g w) (hz : SqAt K CS H z s) (zn : z.l.Nodup) (zf : ∀ b ∈ z.l, b ∉ g.all) :
    SdAt K CK CS (upd H g.sl (.lst (g.fs.map (fun z => V.ref z.a) ++ [.ref z.a]))) { g with fs := g.fs ++ [z] } ⟨w.ks, w.ss ++ [s]⟩ := by
  have nd := x.nd
  unfold Sf.all at nd
  obtain ⟨n1, nd1⟩ := List.nodup_cons.mp nd
  obtain ⟨n2, nd2⟩ := List.nodup_cons.mp nd1
  obtain ⟨n3, n4, n5⟩ := List.nodup_append.mp nd2
  have kk := Ks.lst (o' := .lst (g.fs.map (fun z => V.ref z.a) ++ [.ref z.a])) x.hs
  have keep : ∀ b o, b ≠ g.sl → H b = some o → upd H g.sl (.lst (g.fs.map (fun z => V.ref z.a) ++ [.ref z.a])) b = some o := fun b o n y => by rw [upd_ne n]; exact y
  have snoc : ∀ {α β : Type} {F : α → β → Prop} {xs : List α} {ys : List β} {a : α} {b : β}, Paired F xs ys → F a b → Paired F (xs ++ [a]) (ys ++ [b]) := by
    intro α β F xs ys a b h
    induction h with
    | nil => exact fun q => .cons q .nil
    | cons x y ih => exact fun q => .cons x (ih q)
  have fl' : ({ g with fs := g.fs ++ [z] } : Sf).fl = g.fl ++ z.l := by
    show ((g.fs ++ [z]).map Ft.l).flatten = (g.fs.map Ft.l).flatten ++ z.l
    rw [List.map_append, List.flatten_append]
    simp
  refine ⟨keep _ _ (fun e => n1 (by rw [e]; exact .head _)) x.hk, ?_, prd_map2 x.pk fun a ha _ _ q => q.stay kk fun o y => keep a o (fun e => n2 (by rw [← e]; exact List.mem_append.mpr (.inl ha))) y, ?_, ?_⟩
  · show upd H g.sl _ g.sl = some (.lst ((g.fs ++ [z]).map fun z => V.ref z.a))
    rw [upd_same, List.map_append]; rfl
  · refine snoc (prd_map2 x.ps fun y hy _ _ q => q.stay kk fun b hb o r => keep b o (fun e => n2 (by rw [← e]; exact List.mem_append.mpr (.inr (mem_fl.mpr ⟨y, hy, hb⟩)))) r) (hz.stay kk fun b hb o r => keep b o (fun e => zf b hb (by rw [e]; exact mem_all.mpr (.inr (.inl rfl)))) r)
  · show (g.kl :: g.sl :: (g.ks ++ ({ g with fs := g.fs ++ [z] } : Sf).fl)).Nodup
    rw [fl', ← List.append_assoc]
    have e : g.kl :: g.sl :: (g.ks ++ g.fl ++ z.l) = g.all ++ z.l := rfl
    rw [e]
    exact List.nodup_append.mpr ⟨x.nd, zn, fun a ha b hb e => zf b hb (e ▸ ha)⟩
end
end Mc.Cn
namespace Mc
open PySem L2 PySem.Spec PyProof.Rows
section
variable {X : Cx}
/-- a list against an empty one -/
def rNeNil (K : PySem.W.Frag) : R2 := fun x y H Q => ∃ (l b : Addr) (xs : List V), x = .ref l ∧ y = .ref b ∧ SqL K H l xs ∧ SqL K H b [] ∧ Q (.bl (!xs.isEmpty)) H
theorem op_neNil (hu : X.A.units + 64 < cLine) : OpR X (compareOp .NotEq) (rNeNil X.K) := by
  intro pins s σ H x y v u Q I rx ry ⟨l, b, xs, e1, e2, hl, hb, q⟩
  subst e1; subst e2
  cases xs with
  | nil => exact op_neD hu pins s σ H _ _ v u Q I rx ry ⟨.list [], .list [], .lst hl .nil, .lst hb .nil, by rfl, by rfl, q⟩
  | cons z zs =>
    cases rx; cases ry
    obtain ⟨i1, r1, p1, _⟩ := I.list hl
    obtain ⟨i2, r2, p2, _⟩ := I.list hb
    have z1 : i1.length = zs.length + 1 := by rw [← r1.length]; rfl
    have z2 : i2.length = 0 := by rw [← r2.length]; rfl
    exact SeqAt.RcNeAt.lists_lengths p1.isList p2.isList (by simp [z1, z2]) (by omega) _ _ _ _ ⟨.bl true, H, I, rfl, q⟩
end
end Mc
namespace Mc
open PySem L2 PySem.Spec PyProof.Rows
section
variable {X : Cx} {K : PySem.W.Frag}
/-- a dict against an empty one -/
def rNeDN : R2 := fun x y H Q => ∃ a b ks, x = .ref a ∧ y = .ref b ∧ H a = some (.dK ks) ∧ H b = some (.dK []) ∧ Q (.bl (!ks.isEmpty)) H
theorem op_neDN (hu : X.A.units < cLine) : OpR X (compareOp .NotEq) rNeDN := by
  intro pins s σ H x y v u Q I rx ry h
  obtain ⟨a, b, ks, rfl, rfl, ea, eb, q⟩ := h
  cases ks with
  | nil => exact op_ne_dictA hu pins s σ H _ _ v u Q I rx ry ⟨a, b, [], [], rfl, rfl, ea, eb, rfl, fun p hp => (nomatch hp), q⟩
  | cons k ks =>
    cases rx
    cases ry
    obtain ⟨_, ya, va, ra, da⟩ := (show ObjOk X.prog X.w H s.heap a (.dK (k :: ks)) from I.hok a _ ea)
    obtain ⟨_, yb, vb, rb, db⟩ := (show ObjOk X.prog X.w H s.heap b (.dK []) from I.hok b _ eb)
    have z1 : va.length = ks.length + 1 := by rw [← ra.length]; rfl
    have z2 : vb.length = 0 := by rw [← rb.length]; rfl
    exact PySem.W.keq_ne (knd := mixKind X.prog X.w) (r := true) ya yb da db hu (fun e => by omega) (fin_bl I q (by simp [z1, z2]))
theorem pg_tupK {es : List Expr} {k : Nat} {p : Pos} {t : TGs} {n : Nat} (hK : X.K = K) (h : PG X (.Tuple es k p) (gTup X.K n t)) : PG X (.Tuple es k p) (gTup K n t) := by
  subst hK
  exact h
theorem op_inK (h : X.K = K) : OpR X (compareOp .In) (rIn K false) := by
  subst h
  exact op_in_seq
theorem op_notInK (h : X.K = K) : OpR X (compareOp .NotIn) (rIn K true) := by
  subst h
  exact op_notIn_seq
end
end Mc
namespace Mc.Cn
open PySem L2 PySem.Spec PyProof.Rows Evl LamX NdefX
/-! bring, of the council and of the law -/
abbrev sCnBring : Stmt := inClass (top 19) 4
def Grw (H H' : Hp) : Prop := ∀ b, H' b = none → H b = none
theorem Grw.trans {A B C : Hp} (x : Grw A B) (y : Grw B C) : Grw A C := fun b h => x b (y b h)
theorem Grw.same {A B : Hp} (x : Same A B) : Grw A B := fun _ h => fresh_back x h
theorem Grw.kp {a : Addr} {A B : Hp} (x : Kp [a] A B) (h : B a ≠ none) : Grw A B := fun b hb => by
  by_cases e : b = a
  · subst e; exact absurd hb h
  · cases z : A b with
    | none => rfl
    | some o => rw [x b o z (by simpa using e)] at hb; cases hb
def CnF (g : Sf) (ll : Addr) : List (PySem.Str × V) := [("keepers", .ref g.kl), ("sequencers", .ref g.sl), ("letters", .ref ll)]
/-- a council, the letters list and all that lies under it -/
structure CnAt (K : PySem.W.Frag) (CC CK CS : Addr) (H : Hp) (c ll : Addr) (g : Sf) (w : Cw) (ls : List Ltr) : Prop where
  self : ∃ dx, H c = some (.ins CC dx (CnF g ll))
  lt : LD K H ll (ls.map Ltr.d)
  sd : SdAt K CK CS H g w
  nc : c ∉ g.all
  nl : ll ∉ g.all
structure TxC (K : PySem.W.Frag) (mg : PySem.Str → Option Value) (CC : Addr) : Prop where
  cl : Cls K CC
  nKe : NoAttr K CC "keepers"
  nSe : NoAttr K CC "sequencers"
  nLe : NoAttr K CC "letters"
  len : mg "len" = none
  range : mg "range" = none
/-- what one letter brought to a side does -/
structure BrP (K : PySem.W.Frag) (CK CS : Addr) (T : List NTab) (H : Hp) (g : Sf) (w' : Cw) (g' : Sf) (H' : Hp) : Prop where
  sd : SdAt K CK CS H' g' w'
  gro : Gro H g g'
  kp : KpN g.all H H'
  ks : Ks H H'
  gw : Grw H H'
  tb : TabsN T H'
theorem BrP.refl {K : PySem.W.Frag} {CK CS : Addr} {T : List NTab} {H : Hp} {g : Sf} {w : Cw} (x : SdAt K CK CS H g w) (t : TabsN T H) : BrP K CK CS T H g w g H := ⟨x, Gro.refl _ _, KpN.same fun _ _ z => z, Ks.refl _, fun _ h => h, t⟩
theorem KpN.all2 {H H1 H2 : Hp} {g g' : Sf} (x : KpN g.all H H1) (r : Gro H g g') (y : KpN g'.all H1 H2) : KpN g.all H H2 := fun b o z n t => y b o (x b o z n t) (fun m => (r.all b m).elim n fun q => by rw [q] at z; cases z) t
theorem BrP.trans {K : PySem.W.Frag} {CK CS : Addr} {T : List NTab} {H H1 H2 : Hp} {g g1 g2 : Sf} {w1 w2 : Cw} (x : BrP K CK CS T H g w1 g1 H1) (y : BrP K CK CS T H1 g1 w2 g2 H2) : BrP K CK CS T H g w2 g2 H2 :=
  ⟨y.sd, x.gro.trans y.gro fun u h => .inl (x.gw u h), x.kp.all2 x.gro y.kp, x.ks.trans y.ks, x.gw.trans y.gw, y.tb⟩
theorem BrP.ex {K : PySem.W.Frag} {CK CS : Addr} {T : List NTab} {H H1 H2 : Hp} {g g1 : Sf} {w1 : Cw} (x : BrP K CK CS T H g w1 g1 H1) (s : Same H1 H2) : BrP K CK CS T H g w1 g1 H2 :=
  ⟨x.sd.same s, x.gro, fun b o z n t => s b o (x.kp b o z n t), x.ks.trans (Ks.same s), x.gw.trans (Grw.same s), TabsN.ext x.tb s⟩
def spBring (K : PySem.W.Frag) (CC CK CS : Addr) (T : List NTab) : Sp := fun vs H Q _ => ∃ (c dx ll : Addr) (g : Sf) (w : Cw) (B many : Nat) (l : Ltr) (lv : V), vs = [.ref c, lv] ∧ H c = some (.ins CC dx (CnF g ll)) ∧ c ∉ g.all ∧ SdAt K CK CS H g w ∧ CwOk B many w ∧ many ≤ 1000 ∧ B ≤ 90000 ∧ Dp K H lv l.d ∧ l.ok B many ∧ TabsN T H ∧
  ∀ (g' : Sf) (H' : Hp), BrP K CK CS T H g (w.bring l) g' H' → Q .non H'
section
variable {P : Program} {w : World} {K : PySem.W.Frag} {mg : PySem.Str → Option Value} {base : Heap} {CC CK CS : Addr} {TT : List NTab}
/-- a keeper of a side has changed -/
theorem BrP.keeper {H H' : Hp} {g : Sf} {v : Cw} {i : Nat} {a : Addr} {k' : KeS} (x : SdAt K CK CS H g v) (t : TabsN TT H) (ha : g.ks[i]? = some a) (h : KeAt K CK H' a k') (kp : Kp [a] H H') (ks : Ks H H') : BrP K CK CS TT H g ⟨v.ks.set i k', v.ss⟩ g H' := by
  have hm : a ∈ g.all := mem_all.mpr (.inr (.inr (.inl (List.mem_of_getElem? ha))))
  obtain ⟨o, ho, _⟩ := x.nt a hm
  obtain ⟨k0, hk0, dx0, r0, l0, w0, h0, _⟩ := prd_mem2 x.pk (List.mem_of_getElem? ha)
  obtain ⟨dx, r, l, w, h1, _⟩ := id h
  refine ⟨x.keeper ha h kp ks, Gro.refl _ _, (KpN.kp kp).mono (fun b hb => by rw [List.mem_singleton.mp hb]; exact hm), ks, Grw.kp kp (by rw [h1]; exact nofun), fun p hp => ?_⟩
  obtain ⟨ps, e1, e2, e3⟩ := t p hp
  refine ⟨ps, kp _ _ e1 (fun m => by rw [List.mem_singleton.mp m, h0] at e1; cases e1), e2, fun pos cv hc => ?_⟩
  obtain ⟨c, f1, f2⟩ := e3 pos cv hc
  exact ⟨c, f1, kp _ _ f2 (fun m => by rw [List.mem_singleton.mp m, h0] at f2; unfold CodeO at f2; cases f2)⟩
theorem set_modify {α : Type} {xs : List α} {i : Nat} {x : α} {f : α → α} (h : xs[i]? = some x) : xs.set i (f x) = xs.modify i f := by
  refine List.ext_getElem? fun j => ?_
  rw [List.getElem?_set, List.getElem?_modify]
  by_cases c : i = j
  · subst c
    rw [if_pos rfl, if_pos (List.getElem?_eq_some_iff.mp h).1, h]; simp
  · rw [if_neg c]; simp [c]
/-- the sequencers that have heard a letter so far -/
def heard (v : Cw) (l : Ltr) (i : Nat) : Cw := ⟨v.ks, (v.ss.take i).map (·.hear l) ++ v.ss.drop i⟩
theorem heard_zero (v : Cw) (l : Ltr) : heard v l 0 = v := by unfold heard; simp
theorem heard_all (v : Cw) (l : Ltr) : heard v l v.ss.length = ⟨v.ks, v.ss.map (·.hear l)⟩ := by unfold heard; simp
theorem heard_get {v : Cw} {l : Ltr} {i : Nat} (h : i < v.ss.length) : (heard v l i).ss[i]? = some v.ss[i] := by
  show ((v.ss.take i).map (·.hear l) ++ v.ss.drop i)[i]? = _
  rw [List.getElem?_append_right (by rw [List.length_map, List.length_take]; omega), List.length_map, List.length_take, Nat.min_eq_left (Nat.le_of_lt h), Nat.sub_self, List.getElem?_drop, Nat.add_zero, List.getElem?_eq_getElem h]
theorem heard_succ {v : Cw} {l : Ltr} {i : Nat} (h : i < v.ss.length) : (⟨(heard v l i).ks, (heard v l i).ss.set i (v.ss[i].hear l)⟩ : Cw) = heard v l (i + 1) := by
  show (⟨v.ks, ((v.ss.take i).map (·.hear l) ++ v.ss.drop i).set i (v.ss[i].hear l)⟩ : Cw) = ⟨v.ks, (v.ss.take (i + 1)).map (·.hear l) ++ v.ss.drop (i + 1)⟩
  congr 1
  have e : v.ss.drop i = v.ss[i] :: v.ss.drop (i + 1) := List.drop_eq_getElem_cons h
  rw [e, List.set_append_right _ _ (by rw [List.length_map, List.length_take]; omega), List.length_map, List.length_take, Nat.min_eq_left (Nat.le_of_lt h), Nat.sub_self, List.set_cons_zero, List.take_add_one, List.getElem?_eq_getElem h, List.map_append]
  simp
/-- one more has heard -/
theorem BrP.hear {H H1 H2 : Hp} {g g1 : Sf} {v : Cw} {l : Ltr} {i : Nat} {z z' : Ft} (x : BrP K CK CS TT H g (heard v l i) g1 H1) (h : i < v.ss.length) (hz : g1.fs[i]? = some z) (sq : SqAt K CS H2 z' (v.ss[i].hear l)) (ea : z'.a = z.a) (ed : z'.d = z.d) (et : z'.t = z.t) (er : z'.r = z.r ∨ H1 z'.r = none) (f : KpN z.l H1 H2) (k : Ks H1 H2) (gw : Grw H1 H2) (t : TabsN TT H2) :
    ∃ g2, BrP K CK CS TT H g (heard v l (i + 1)) g2 H2 ∧ g2.fs.map (·.a) = g1.fs.map (·.a) := by
  obtain ⟨s, r⟩ := x.sd.seq hz sq ea ed et er f k
  rw [heard_succ h] at s
  refine ⟨_, x.trans ⟨s, r, f.mono fun b hb => mem_all.mpr (.inr (.inr (.inr ⟨z, List.mem_of_getElem? hz, hb⟩))), k, gw, t⟩, ?_⟩
  show (g1.fs.set i z').map (·.a) = _
  rw [List.map_set, ea]
  exact set_self (by rw [List.getElem?_map, hz]; rfl)
theorem bring_ans {v : Cw} {l : Ltr} (h : l.isAns = true) : v.bring l = ⟨v.ks, v.ss.map (·.hear l)⟩ := if_pos h
theorem bring_ask {v : Cw} {l : Ltr} (h : l.isAns = false) : v.bring l = ⟨v.ks.modify l.num (·.handle l), v.ss⟩ := by
  unfold Cw.bring
  rw [if_neg (by rw [h]; exact nofun)]
  rfl
/-- a letter's first and third word -/
theorem dp_word {H : Hp} {v : V} {l : Ltr} (h : Dp K H v l.d) : ∃ c xs, v = .ref c ∧ SqT K H c xs ∧ xs[0]? = some (.str l.word) ∧ xs[2]? = some (.int l.num) := by
  cases l with
  | ask e n => obtain ⟨c, rfl, sq⟩ := dp_three h; exact ⟨c, _, rfl, sq, rfl, rfl⟩
  | write e n p x => obtain ⟨c, y, rfl, sq, _⟩ := dp_five h; exact ⟨c, _, rfl, sq, rfl, rfl⟩
  | refused e n k => obtain ⟨c, x, rfl, sq, d⟩ := dp_four h; exact ⟨c, _, rfl, sq, rfl, rfl⟩
  | told e n r => obtain ⟨c, x, rfl, sq, d⟩ := dp_four h; exact ⟨c, _, rfl, sq, rfl, rfl⟩
  | taken e n p => obtain ⟨c, x, rfl, sq, d⟩ := dp_four h; exact ⟨c, _, rfl, sq, rfl, rfl⟩
theorem word_in (l : Ltr) : inV (.str l.word) [.str "ask", .str "write"] = !l.isAns := by
  cases l with
  | ask _ _ => show inV (.str "ask") [.str "ask", .str "write"] = true; decide +kernel
  | write _ _ _ _ => show inV (.str "write") [.str "ask", .str "write"] = true; decide +kernel
  | refused _ _ _ => show inV (.str "refused") [.str "ask", .str "write"] = false; decide +kernel
  | told _ _ _ => show inV (.str "told") [.str "ask", .str "write"] = false; decide +kernel
  | taken _ _ _ => show inV (.str "taken") [.str "ask", .str "write"] = false; decide +kernel
theorem scCnBring : FnScope ["self", "letter", "sequencer"] ["self", "letter"] (defScope sCnBring) := ⟨rfl, rfl, rfl, by decide +kernel, rfl, by decide +kernel, by decide +kernel⟩
theorem ok_bring {f : Addr} {fd : FuncData} (F : Fun K "bring" "Council.bring" sCnBring f fd) (T : TxC K mg CC) (clK : Cls K CK) (clS : Cls K CS) (c_Keeper_handle : CalM P w K mg base CK 4 "handle" ["self", "letter"] (spHd K CK)) (c_Sequencer_hear : CalM P w K mg base CS 4 "hear" ["self", "letter"] (spHear K CS TT)) : FnOk P w K mg base CX0 5 f fd ["self", "letter"] (spBring K CC CK CS TT) := by
  refine F.ok scCnBring (fun vs H Q E h => ?_) (fun cdv A outer s H vs Q E hr h => ?_)
  · obtain ⟨c, dx, ll, g, w, B, many, l, lv, rfl, _⟩ := h
    rfl
  · obtain ⟨c, dx, ll, g, v, B, many, l, lv, rfl, hc, hcg, SD, ok, hm, hB, hlv, lok, hT, k⟩ := h
    refine ⟨_, (pss_one (ps_if (pt_cmpR (op_inK (K := K) rfl) (pe_ix ix_tup (pv 1) pe_int (fun _ _ => rfl)) (pe_tup (pa_cons pe_str (pa_cons pe_str pa_nil))) (by rfl))
        (pss_one (ps_expr (pe_calM (pe_ix ix_list (pe_fld (pv 0) rfl) (pe_ix ix_tup (pv 1) pe_int (fun _ _ => rfl)) (fun _ _ => rfl)) clK c_Keeper_handle (hr.mono (by decide)) (pa_cons (pv 1) pa_nil))))
        (pss_one (ps_for PassesOwn.never rfl (pi_list (pe_fld (pv 0) rfl)) (pg_name (i := 2) scCnBring.nd rfl (Or.inl rfl))
          (pss_one (ps_expr (pe_calM (pv 2) clS c_Sequencer_hear (hr.mono (by decide)) (pa_cons (pv 1) pa_nil)))))))), ?_⟩
    obtain ⟨a, xs, rfl, sqL, x0, x2⟩ := dp_word hlv
    refine ⟨_, rfl, a, xs, 0, _, rfl, rfl, sqL, atN (j := 0) rfl x0, (by show 2 ≤ sizeLine; decide), fun t ht => ?_⟩
    have s1 : Same H (upd H t (.tup [.str "ask", .str "write"])) := Same.new ht
    have ht1 : upd H t (.tup [.str "ask", .str "write"]) t = some (.tup [.str "ask", .str "write"]) := upd_same
    refine ⟨t, _, rfl, .inr (SqT.of ht1), rfl, rfl, _, rfl, ?_⟩
    generalize upd H t (.tup [.str "ask", .str "write"]) = H1 at s1 ht1 ⊢
    have SD1 := SD.same s1
    have hc1 := s1 _ _ hc
    have T1 := TabsN.ext hT s1
    have b0 : ∀ {w' g' H'}, BrP K CK CS TT H1 g w' g' H' → BrP K CK CS TT H g w' g' H' := fun x => (BrP.refl SD hT).ex s1 |>.trans x
    refine ite2 (fun hq => ?_) (fun hq => ?_)
    · have hq : inV (.str l.word) [.str "ask", .str "write"] = true := hq
      rw [word_in] at hq
      have ha : l.isAns = false := by simpa using hq
      have hn : l.num < v.ks.length := by rw [ok.len]; exact lok.1
      obtain ⟨ka, hka, KA⟩ := SD1.kget (List.getElem?_eq_getElem hn)
      obtain ⟨dxk, r, lo, wa, h1, _⟩ := id KA
      have hix : (g.ks.map V.ref)[l.num]? = some (.ref ka) := by rw [List.getElem?_map, hka]; rfl
      refine ⟨_, rfl, c, CC, dx, _, _, rfl, hc1, T.cl, T.nKe, rfl, _, rfl, a, xs, 2, _, rfl, rfl, sqt_ks sqL (Ks.same s1), atN (j := 2) rfl x2, g.kl, _, _, .ref ka, rfl, rfl, SqL.of SD1.hk, atN (j := l.num) rfl hix, ?_⟩
      refine ⟨ka, dxk, _, rfl, h1, rfl, _, rfl, ka, .ref a, B, many, l.num, v.ks[l.num], l, rfl, KA, dp_tp (Tp.same s1) _ _ (tp_ltr _) hlv, ha, ok.ks _ _ (List.getElem?_eq_getElem hn), lok.2, hB, fun H2 K2 kp2 ks2 => ?_⟩
      refine k g H2 ?_
      have := BrP.keeper (TT := TT) SD1 T1 hka K2 kp2 ks2
      rw [set_modify (f := fun k => k.handle l) (List.getElem?_eq_getElem hn), ← bring_ask ha] at this
      exact b0 this
    · have hq : ¬ inV (.str l.word) [.str "ask", .str "write"] = true := hq
      rw [word_in] at hq
      have ha : l.isAns = true := by simpa using hq
      have lsl : g.fs.length = v.ss.length := Paired.length SD1.ps
      refine ⟨_, rfl, c, CC, dx, _, _, rfl, hc1, T.cl, T.nSe, rfl, g.sl, rfl, ⟨_, SqL.of SD1.hs⟩, for_list (K := K) (a := g.sl) (xs := g.fs.map fun z => V.ref z.a) (fun i σ H' => ∃ (o : Option V) (g1 : Sf), σ = [some (.ref c), some (.ref a), o] ∧ BrP K CK CS TT H1 g (heard v l i) g1 H' ∧ g1.fs.map (·.a) = g.fs.map (·.a)) ?_ ?_ ?_ ?_⟩
      · exact ⟨none, g, rfl, by rw [heard_zero]; exact BrP.refl SD1 T1, rfl⟩
      · rintro i σ H' _ ⟨o, g1, rfl, br, _⟩
        have := br.sd.hs
        rw [br.gro.sl] at this
        refine SqL.of ?_
        rename_i e
        have e2 : (g.fs.map fun z => V.ref z.a) = g1.fs.map fun z => V.ref z.a := by
          have := congrArg (List.map V.ref) e
          rw [List.map_map, List.map_map] at this
          exact this.symm
        rw [e2]
        exact this
      · rintro i y σ H' hi ⟨o, g1, rfl, br, e⟩
        have hil : i < v.ss.length := by
          have := (List.getElem?_eq_some_iff.mp hi).1
          rw [List.length_map] at this
          omega
        obtain ⟨z, hz, SQ⟩ := br.sd.sget (heard_get (l := l) hil)
        have ey : y = .ref z.a := by
          have h1 : (g1.fs.map (·.a))[i]? = some z.a := by rw [List.getElem?_map, hz]; rfl
          rw [e, List.getElem?_map] at h1
          rw [List.getElem?_map] at hi
          obtain ⟨u, hu, rfl⟩ := Option.map_eq_some_iff.mp hi
          rw [hu] at h1
          have h1 : u.a = z.a := Option.some.inj h1
          rw [h1]
        subst ey
        obtain ⟨dxs, hs⟩ := SQ.self
        refine ⟨_, rfl, z.a, dxs, _, rfl, hs, rfl, _, rfl, z, v.ss[i], B, many, l, .ref a, rfl, SQ, ok.ss _ (List.getElem_mem hil), hm, hB, dp_tp ((Ks.same s1).trans br.ks).tp _ _ (tp_ltr _) hlv, ha, lok, br.tb, fun z' H2 SQ2 ea ed et er f2 k2 gw2 t2 => ?_⟩
        obtain ⟨g2, br2, e2⟩ := br.hear hil hz SQ2 ea ed et er f2 k2 gw2 t2
        exact ⟨some (.ref z.a), g2, rfl, br2, e2.trans e⟩
      · rintro σ H' ⟨o, g1, rfl, br, _⟩
        rw [List.length_map, lsl, heard_all, ← bring_ans ha] at br
        exact k g1 H' (b0 br)
end
end Mc.Cn
namespace Mc.Cn
open PySem L2 PySem.Spec PyProof.Rows Evl LamX NdefX
/-! the council: send, deliver, lose, flush, fall, stop; _law_bring -/
abbrev sCnSend : Stmt := inClass (top 19) 2
abbrev sCnDeliver : Stmt := inClass (top 19) 3
abbrev sCnLose : Stmt := inClass (top 19) 5
abbrev sCnFlush : Stmt := inClass (top 19) 6
abbrev sCnFall : Stmt := inClass (top 19) 7
abbrev sCnStop : Stmt := inClass (top 19) 8
structure CnP (K : PySem.W.Frag) (CC CK CS : Addr) (T : List NTab) (H : Hp) (c ll : Addr) (g : Sf) (w' : Cw) (ls' : List Ltr) (g' : Sf) (H' : Hp) : Prop where
  cn : CnAt K CC CK CS H' c ll g' w' ls'
  gro : Gro H g g'
  kp : KpN (c :: ll :: g.all) H H'
  ks : Ks H H'
  gw : Grw H H'
  tb : TabsN T H'
section
variable {K : PySem.W.Frag} {CC CK CS : Addr} {TT : List NTab} {H H1 H2 : Hp} {c ll : Addr} {g g1 g2 : Sf} {w w1 w2 : Cw} {ls l1 l2 : List Ltr}
theorem CnAt.ne (x : CnAt K CC CK CS H c ll g w ls) : c ≠ ll := by
  obtain ⟨⟨dx, h1⟩, ⟨us, h2, _⟩, _⟩ := x
  exact ne_of h1 h2 (by intro e; cases e)
theorem CnAt.br (x : CnAt K CC CK CS H c ll g w ls) (b : BrP K CK CS TT H g w1 g1 H1) : CnAt K CC CK CS H1 c ll g1 w1 ls := by
  obtain ⟨⟨dx, h1⟩, ⟨us, h2, h3⟩, sd, n1, n2⟩ := x
  refine ⟨⟨dx, ?_⟩, ⟨us, b.kp _ _ h2 n2 (fun _ z => by cases z), dpA_tp b.ks.tp _ _ (tpAL _) h3⟩, b.sd, fun m => (b.gro.all c m).elim n1 fun q => ?_, fun m => (b.gro.all ll m).elim n2 fun q => ?_⟩
  · have e : CnF g1 ll = CnF g ll := by unfold CnF; rw [b.gro.kl, b.gro.sl]
    rw [e]
    exact b.kp _ _ h1 n1 fun _ z => by cases z
  · rw [h1] at q; cases q
  · rw [h2] at q; cases q
theorem CnP.br (x : CnAt K CC CK CS H c ll g w ls) (b : BrP K CK CS TT H g w1 g1 H1) : CnP K CC CK CS TT H c ll g w1 ls g1 H1 := ⟨x.br b, b.gro, b.kp.mono fun u h => List.mem_cons_of_mem _ (List.mem_cons_of_mem _ h), b.ks, b.gw, b.tb⟩
theorem CnAt.same (x : CnAt K CC CK CS H c ll g w ls) (s : Same H H1) : CnAt K CC CK CS H1 c ll g w ls := by
  obtain ⟨⟨dx, h1⟩, ⟨us, h2, h3⟩, sd, n1, n2⟩ := x
  exact ⟨⟨dx, s _ _ h1⟩, ⟨us, s _ _ h2, dpA_tp (Tp.same s) _ _ (tpAL _) h3⟩, sd.same s, n1, n2⟩
/-- the letters list gets other letters -/
theorem CnAt.put (x : CnAt K CC CK CS H c ll g w ls) (l : LD K H1 ll (l1.map Ltr.d)) (kp : Kp [ll] H H1) (ks : Ks H H1) : CnAt K CC CK CS H1 c ll g w l1 := by
  have ne := x.ne
  obtain ⟨⟨dx, h1⟩, _, sd, n1, n2⟩ := x
  refine ⟨⟨dx, kp _ _ h1 (by simpa using ne)⟩, l, sd.stay ks fun b hb o z => kp b o z ?_, n1, n2⟩
  simp only [List.mem_singleton]
  exact fun e => n2 (e ▸ hb)
theorem CnP.put (x : CnAt K CC CK CS H c ll g w ls) (t : TabsN TT H) (l : LD K H1 ll (l1.map Ltr.d)) (kp : Kp [ll] H H1) (ks : Ks H H1) : CnP K CC CK CS TT H c ll g w l1 g H1 := by
  obtain ⟨us, h1, _⟩ := id l
  obtain ⟨us0, h0, _⟩ := x.lt
  refine ⟨x.put l kp ks, Gro.refl _ _, (KpN.kp kp).mono fun b hb => by rw [List.mem_singleton.mp hb]; simp, ks, Grw.kp kp (by rw [h1]; exact nofun), fun p hp => ?_⟩
  obtain ⟨ps, e1, e2, e3⟩ := t p hp
  refine ⟨ps, kp _ _ e1 (fun m => by rw [List.mem_singleton.mp m, h0] at e1; cases e1), e2, fun pos cv hc => ?_⟩
  obtain ⟨q, f1, f2⟩ := e3 pos cv hc
  exact ⟨q, f1, kp _ _ f2 (fun m => by rw [List.mem_singleton.mp m, h0] at f2; unfold CodeO at f2; cases f2)⟩
theorem CnP.trans (a : CnAt K CC CK CS H c ll g w ls) (x : CnP K CC CK CS TT H c ll g w1 l1 g1 H1) (y : CnP K CC CK CS TT H1 c ll g1 w2 l2 g2 H2) : CnP K CC CK CS TT H c ll g w2 l2 g2 H2 := by
  refine ⟨y.cn, x.gro.trans y.gro fun u h => .inl (x.gw u h), fun b o z n t => y.kp b o (x.kp b o z n t) (fun m => ?_) t, x.ks.trans y.ks, x.gw.trans y.gw, y.tb⟩
  rcases List.mem_cons.mp m with e | m
  · exact n (by rw [e]; exact .head _)
  · rcases List.mem_cons.mp m with e | m
    · exact n (by rw [e]; exact List.mem_cons_of_mem _ (.head _))
    · exact (x.gro.all b m).elim (fun q => n (List.mem_cons_of_mem _ (List.mem_cons_of_mem _ q))) fun q => by rw [q] at z; cases z
theorem CnP.same (x : CnAt K CC CK CS H c ll g w ls) (t : TabsN TT H) (s : Same H H1) : CnP K CC CK CS TT H c ll g w ls g H1 := ⟨x.same s, Gro.refl _ _, KpN.same s, Ks.same s, Grw.same s, TabsN.ext t s⟩
end
def spSendC (K : PySem.W.Frag) (CC CK CS : Addr) (T : List NTab) : Sp := fun vs H Q _ => ∃ (c ll : Addr) (g : Sf) (w : Cw) (ls : List Ltr) (B many i : Nat) (s : SqS), vs = [.ref c, .int i] ∧ CnAt K CC CK CS H c ll g w ls ∧ CwOk B many w ∧ many ≤ 1000 ∧ B ≤ 90000 ∧ ls.length ≤ 1000000 ∧ TabsN T H ∧ w.ss[i]? = some s ∧
  ∀ (g' : Sf) (H' : Hp), CnP K CC CK CS T H c ll g w (ls ++ s.toSend) g' H' → Q .non H'
def spFlushC (K : PySem.W.Frag) (CC CK CS : Addr) (T : List NTab) : Sp := fun vs H Q _ => ∃ (c ll : Addr) (g : Sf) (w : Cw) (ls : List Ltr) (B many i : Nat) (k : KeS), vs = [.ref c, .int i] ∧ CnAt K CC CK CS H c ll g w ls ∧ CwOk B many w ∧ many ≤ 1000 ∧ B ≤ 90000 ∧ ls.length ≤ 1000000 ∧ TabsN T H ∧ w.ks[i]? = some k ∧
  ∀ (g' : Sf) (H' : Hp), CnP K CC CK CS T H c ll g (w.onK i KeS.flush) (ls ++ k.wa) g' H' → Q .non H'
def spFallC (K : PySem.W.Frag) (CC CK CS : Addr) (T : List NTab) : Sp := fun vs H Q _ => ∃ (c ll : Addr) (g : Sf) (w : Cw) (ls : List Ltr) (B many i n : Nat) (k : KeS), vs = [.ref c, .int i, .int n] ∧ CnAt K CC CK CS H c ll g w ls ∧ CwOk B many w ∧ many ≤ 1000 ∧ B ≤ 90000 ∧ TabsN T H ∧ w.ks[i]? = some k ∧ n ≤ k.lo.length ∧
  ∀ (g' : Sf) (H' : Hp), CnP K CC CK CS T H c ll g (w.onK i (·.fall n)) ls g' H' → Q .non H'
def spStopC (K : PySem.W.Frag) (CC CK CS : Addr) (T : List NTab) : Sp := fun vs H Q _ => ∃ (c ll : Addr) (g : Sf) (w : Cw) (ls : List Ltr) (i : Nat) (s : SqS), vs = [.ref c, .int i] ∧ CnAt K CC CK CS H c ll g w ls ∧ TabsN T H ∧ w.ss[i]? = some s ∧
  ∀ (g' : Sf) (H' : Hp), CnP K CC CK CS T H c ll g ⟨w.ks, w.ss.set i s.stop⟩ ls g' H' → Q .non H'
def spDeliverC (K : PySem.W.Frag) (CC CK CS CB : Addr) (T : List NTab) : Sp := fun vs H Q E => ∃ (c ll : Addr) (g : Sf) (w : Cw) (ls : List Ltr) (B many : Nat) (x : Th) (kept : Bool), vs = [.ref c, x.v, .bl kept] ∧ CnAt K CC CK CS H c ll g w ls ∧ CwOk B many w ∧ many ≤ 1000 ∧ B ≤ 90000 ∧ ls.length ≤ 1000000 ∧ TabsN T H ∧
  ((∃ (n : Nat) (l : Ltr), x = .int n ∧ ls[n]? = some l ∧ l.ok B many ∧ ∀ (g' : Sf) (H' : Hp), CnP K CC CK CS T H c ll g (w.bring l) (if kept = true then ls else ls.eraseIdx n) g' H' → Q .non H') ∨
    (x.within 0 ((ls.length : Int) - 1) = false ∧ ∀ d H', Same H H' → H' d = some (.xd [("name", x.v)]) → E (.ref CB) (some d) H'))
def spLoseC (K : PySem.W.Frag) (CC CK CS CB : Addr) (T : List NTab) : Sp := fun vs H Q E => ∃ (c ll : Addr) (g : Sf) (w : Cw) (ls : List Ltr) (x : Th), vs = [.ref c, x.v] ∧ CnAt K CC CK CS H c ll g w ls ∧ ls.length ≤ 1000000 ∧ TabsN T H ∧
  ((∃ (n : Nat) (l : Ltr), x = .int n ∧ ls[n]? = some l ∧ ∀ (g' : Sf) (H' : Hp), CnP K CC CK CS T H c ll g w (ls.eraseIdx n) g' H' → Q .non H') ∨
    (x.within 0 ((ls.length : Int) - 1) = false ∧ ∀ d H', Same H H' → H' d = some (.xd [("name", x.v)]) → E (.ref CB) (some d) H'))
section
variable {P : Program} {w : World} {K : PySem.W.Frag} {mg : PySem.Str → Option Value} {base : Heap} {CC CK CS CB : Addr} {TT : List NTab}
theorem lenSends {B many : Nat} {v : Cw} {i : Nat} {s : SqS} (ok : CwOk B many v) (h : v.ss[i]? = some s) : s.toSend.length ≤ many := (ok.ss s (List.mem_of_getElem? h)).sends.1
theorem scCnSend : FnScope ["self", "number"] ["self", "number"] (defScope sCnSend) := ⟨rfl, rfl, rfl, by decide +kernel, rfl, by decide +kernel, by decide +kernel⟩
theorem ok_cnsend {f : Addr} {fd : FuncData} (F : Fun K "send" "Council.send" sCnSend f fd) (T : TxC K mg CC) (clS : Cls K CS) (c_Sequencer_to_send : CalM P w K mg base CS 2 "to_send" ["self"] (spSend K CS)) : FnOk P w K mg base CX0 3 f fd ["self", "number"] (spSendC K CC CK CS TT) := by
  refine F.ok scCnSend (fun vs H Q E h => ?_) (fun cdv A outer s H vs Q E hr h => ?_)
  · obtain ⟨c, ll, g, w, ls, B, many, i, s, rfl, _⟩ := h
    rfl
  · obtain ⟨c, ll, g, v, ls, B, many, i, sq, rfl, CN, ok, hm, hB, hls, hT, hs, k⟩ := h
    refine ⟨_, (pss_one (ps_expr (pe_bm PySem.F.plainAttrs_list PySem.F.slot_list_extend PySem.F.type_list_extend mt_extendT (pe_fld (pv 0) rfl) (pa_cons (pe_calM0 (pe_ix ix_list (pe_fld (pv 0) rfl) (pv 1) (fun _ _ => rfl)) clS c_Sequencer_to_send (hr.mono (by decide))) pa_nil)))), ?_⟩
    obtain ⟨⟨dx, hc⟩, ⟨us, hl, hD⟩, sd, n1, n2⟩ := id CN
    obtain ⟨z, hz, SQ⟩ := sd.sget hs
    obtain ⟨dxs, hzs⟩ := SQ.self
    have hix : (g.fs.map fun z => V.ref z.a)[i]? = some (.ref z.a) := by rw [List.getElem?_map, hz]; rfl
    refine ⟨_, rfl, c, CC, dx, _, _, rfl, hc, T.cl, T.nLe, rfl, .inl ⟨rfl, _, SqL.of hl⟩, ?_⟩
    refine ⟨_, rfl, c, CC, dx, _, _, rfl, hc, T.cl, T.nSe, rfl, _, rfl, g.sl, _, _, .ref z.a, rfl, rfl, SqL.of sd.hs, atN (j := i) rfl hix, ?_⟩
    refine ⟨z.a, dxs, _, rfl, hzs, rfl, z, sq, B, many, rfl, SQ, ok.ss _ (List.mem_of_getElem? hs), hm, hB, fun t H1 ht s1 td => ?_⟩
    obtain ⟨ts, ht1, dt⟩ := id td
    have hl1 := s1 _ _ hl
    have kk := Ks.lst (o' := .lst (us ++ ts)) hl1
    have lus : us.length = ls.length := by rw [dpA_len hD, List.length_map]
    have lts : ts.length = sq.toSend.length := by rw [dpA_len dt, List.length_map]
    have := lenSends ok hs
    refine ⟨ll, t, us, ts, rfl, rfl, hl1, SqT.of ht1, by rw [lus, lts, sizeLine_eq]; omega, ?_⟩
    refine k g _ (CnP.put CN hT (l1 := ls ++ sq.toSend) ⟨us ++ ts, upd_same, ?_⟩ ((Kp.same s1).trans (Kp.at (by simp))) ((Ks.same s1).trans kk))
    rw [List.map_append]
    exact dpA_app (dpA_tp ((Tp.same s1).trans kk.tp) _ _ (tpAL _) hD) (dpA_tp kk.tp _ _ (tpAL _) dt)
theorem scCnFlush : FnScope ["self", "number"] ["self", "number"] (defScope sCnFlush) := ⟨rfl, rfl, rfl, by decide +kernel, rfl, by decide +kernel, by decide +kernel⟩
theorem ok_cnflush {f : Addr} {fd : FuncData} (F : Fun K "flush" "Council.flush" sCnFlush f fd) (T : TxC K mg CC) (clK : Cls K CK) (c_Keeper_flush : CalM P w K mg base CK 1 "flush" ["self"] (spFlush K CK)) : FnOk P w K mg base CX0 2 f fd ["self", "number"] (spFlushC K CC CK CS TT) := by
  refine F.ok scCnFlush (fun vs H Q E h => ?_) (fun cdv A outer s H vs Q E hr h => ?_)
  · obtain ⟨c, ll, g, w, ls, B, many, i, s, rfl, _⟩ := h
    rfl
  · obtain ⟨c, ll, g, v, ls, B, many, i, ke, rfl, CN, ok, hm, hB, hls, hT, hs, k⟩ := h
    refine ⟨_, (pss_one (ps_expr (pe_bm PySem.F.plainAttrs_list PySem.F.slot_list_extend PySem.F.type_list_extend mt_extendT (pe_fld (pv 0) rfl) (pa_cons (pe_calM0 (pe_ix ix_list (pe_fld (pv 0) rfl) (pv 1) (fun _ _ => rfl)) clK c_Keeper_flush (hr.mono (by decide))) pa_nil)))), ?_⟩
    obtain ⟨⟨dx, hc⟩, ⟨us, hl, hD⟩, sd, n1, n2⟩ := id CN
    obtain ⟨a, ha, KA⟩ := sd.kget hs
    obtain ⟨dxk, r, lo, wa, h1, _⟩ := id KA
    have hix : (g.ks.map V.ref)[i]? = some (.ref a) := by rw [List.getElem?_map, ha]; rfl
    have kok := ok.ks _ _ hs
    refine ⟨_, rfl, c, CC, dx, _, _, rfl, hc, T.cl, T.nLe, rfl, .inl ⟨rfl, _, SqL.of hl⟩, ?_⟩
    refine ⟨_, rfl, c, CC, dx, _, _, rfl, hc, T.cl, T.nKe, rfl, _, rfl, g.kl, _, _, .ref a, rfl, rfl, SqL.of sd.hk, atN (j := i) rfl hix, ?_⟩
    refine ⟨a, dxk, _, rfl, h1, rfl, a, ke, rfl, KA, by have := kok.len; omega, fun t H1 K1 td kp ks => ?_⟩
    have br := BrP.keeper (TT := TT) sd hT ha K1 kp ks
    rw [set_modify (f := KeS.flush) hs] at br
    have CN1 := CN.br br
    obtain ⟨us1, hl1, hD1⟩ := CN1.lt
    obtain ⟨ts, ht1, dt⟩ := id td
    have kk := Ks.lst (o' := .lst (us1 ++ ts)) hl1
    have lus : us1.length = ls.length := by rw [dpA_len hD1, List.length_map]
    have lts : ts.length = ke.wa.length := by rw [dpA_len dt, List.length_map]
    have := kok.lwa
    refine ⟨ll, t, us1, ts, rfl, rfl, hl1, SqT.of ht1, by rw [lus, lts, sizeLine_eq]; omega, ?_⟩
    refine k g _ (CnP.trans CN (CnP.br CN br) (CnP.put CN1 br.tb (l1 := ls ++ ke.wa) ⟨us1 ++ ts, upd_same, ?_⟩ (Kp.at (by simp)) kk))
    rw [List.map_append]
    exact dpA_app (dpA_tp kk.tp _ _ (tpAL _) hD1) (dpA_tp kk.tp _ _ (tpAL _) dt)
theorem scCnDeliver : FnScope ["self", "at", "is_kept"] ["self", "at", "is_kept"] (defScope sCnDeliver) := ⟨rfl, rfl, rfl, by decide +kernel, rfl, by decide +kernel, by decide +kernel⟩
theorem ok_cndeliver {f : Addr} {fd : FuncData} (F : Fun K "deliver" "Council.deliver" sCnDeliver f fd) (T : TxC K mg CC) (c_take_letter : CalX P w K mg base 4 "take_letter" ["letters", "at", "is_kept"] (spTakeL K CB)) (c_bring : CalM P w K mg base CC 5 "bring" ["self", "letter"] (spBring K CC CK CS TT)) : FnOk P w K mg base (L2.CX P w) 6 f fd ["self", "at", "is_kept"] (spDeliverC K CC CK CS CB TT) := by
  refine F.okX scCnDeliver (fun vs H Q E h => ?_) (fun cdv A outer s H vs Q E hr h => ?_)
  · obtain ⟨c, ll, g, w, ls, B, many, x, kept, rfl, _⟩ := h
    rfl
  · obtain ⟨c, ll, g, v, ls, B, many, x, kept, rfl, CN, ok, hm, hB, hls, hT, h⟩ := h
    refine ⟨_, (pss_one (ps_expr (pe_calM (pv 0) T.cl c_bring (hr.mono (by decide)) (pa_cons (pe_calX c_take_letter (hr.mono (by decide)) rfl (fun σ => passAt (takes_of rfl rfl rfl rfl) σ) (pa_cons (pe_fld (pv 0) rfl) (pa_cons (pv 1) (pa_cons (pv 2) pa_nil)))) pa_nil)))), ?_⟩
    obtain ⟨⟨dx, hc⟩, hl, sd, n1, n2⟩ := id CN
    refine ⟨_, rfl, c, dx, _, rfl, hc, rfl, _, rfl, c, CC, dx, _, _, rfl, hc, T.cl, T.nLe, rfl, _, rfl, _, rfl, ?_⟩
    rcases h with ⟨n, l, rfl, hn, lok, k⟩ | ⟨hx, k⟩
    · refine ⟨ll, ls, .int n, kept, rfl, hl, hls, .inl ⟨n, l, rfl, hn, fun y H1 L1 d1 kp ks => ?_⟩⟩
      have p1 := CnP.put (TT := TT) CN hT L1 kp ks
      obtain ⟨⟨dx1, hc1⟩, hl1, sd1, m1, m2⟩ := id p1.cn
      exact ⟨c, dx1, ll, g, v, B, many, l, y, rfl, hc1, m1, sd1, ok, hm, hB, d1, lok, p1.tb, fun g' H2 br => k g' H2 (CnP.trans CN p1 (CnP.br p1.cn br))⟩
    · exact ⟨ll, ls, x, kept, rfl, hl, hls, .inr ⟨hx, k⟩⟩
end
end Mc.Cn
namespace Mc
open PySem L2 PySem.Spec PyProof.Rows Evl
/-! slices, sums, reversals, sorted copies of sequences, as pure values -/
theorem cut_take (xs : List V) (n : Nat) : cutV xs none (some (n : Nat)) = xs.take n := by
  unfold cutV
  rw [show HT.sIx xs.length 0 none = 0 from rfl, HT.sIx_nat, List.drop_zero, Nat.sub_zero]
  by_cases h : n ≤ xs.length
  · rw [Nat.min_eq_left h]
  · rw [Nat.min_eq_right (by omega), List.take_of_length_le (Nat.le_refl _), List.take_of_length_le (by omega)]
theorem cut_drop (xs : List V) (n : Nat) : cutV xs (some (n : Nat)) none = xs.drop n := by
  unfold cutV
  rw [show HT.sIx xs.length xs.length none = xs.length from rfl, HT.sIx_nat]
  by_cases h : n ≤ xs.length
  · rw [Nat.min_eq_left h]
    exact List.take_of_length_le (by rw [List.length_drop]; exact Nat.le_refl _)
  · rw [Nat.min_eq_right (by omega), Nat.sub_self, List.take_zero, List.drop_eq_nil_of_le (by omega)]
theorem cut_last (xs : List V) : cutV xs none (some (-1)) = xs.dropLast := by
  unfold cutV
  rw [show HT.sIx xs.length 0 none = 0 from rfl, List.drop_zero, Nat.sub_zero, List.dropLast_eq_take]
  have : HT.sIx xs.length xs.length (some (-1)) = xs.length - 1 := by
    show (if (-1 : Int) < 0 then (-1 + (xs.length : Int)).toNat else min (-1 : Int).toNat xs.length) = _
    rw [if_pos (by decide)]; omega
  rw [this]
section
variable {K : PySem.W.Frag} {σ : L2.St} {H : Hp} {ta tb te : TE} {a : Addr} {xs ys : List V} {tl th : TO} {lo hi : Option Int}
theorem el_cat (ha : EvL ta σ H xs) (hb : EvL tb σ H ys) (hz : xs.length + ys.length ≤ 100000) : EvL (tOp rCat ta tb) σ H (xs ++ ys) := fun H1 e Q q =>
  ha H1 e _ fun p H2 hp e2 h2 => hb H2 (e.trans e2) _ fun r H3 hr e3 h3 => ⟨p, r, xs, ys, rfl, rfl, e3 _ _ h2, h3, sz_of hz, fun g hg => q g _ (fresh_back (e2.trans e3) hg) ((e2.trans e3).trans (Ex.new hg)) upd_same⟩
/-- the first, the second one a list that stands -/
theorem el_cat1 (ha : Ev ta σ H (.ref a)) (h : H a = some (.lst xs)) (hb : EvL tb σ H ys) (hz : xs.length + ys.length ≤ 100000) : EvL (tOp rCat ta tb) σ H (xs ++ ys) := fun H1 e Q q =>
  ha H1 e _ fun H2 e2 => hb H2 (e.trans e2) _ fun r H3 hr e3 h3 => ⟨a, r, xs, ys, rfl, rfl, ((e.trans e2).trans e3) _ _ h, h3, sz_of hz, fun g hg => q g _ (fresh_back (e2.trans e3) hg) ((e2.trans e3).trans (Ex.new hg)) upd_same⟩
theorem el_cat2 (ha : EvL ta σ H xs) (hb : Ev tb σ H (.ref a)) (h : H a = some (.lst ys)) (hz : xs.length + ys.length ≤ 100000) : EvL (tOp rCat ta tb) σ H (xs ++ ys) := fun H1 e Q q =>
  ha H1 e _ fun p H2 hp e2 h2 => hb H2 (e.trans e2) _ fun H3 e3 => ⟨p, a, xs, ys, rfl, rfl, e3 _ _ h2, ((e.trans e2).trans e3) _ _ h, sz_of hz, fun g hg => q g _ (fresh_back (e2.trans e3) hg) ((e2.trans e3).trans (Ex.new hg)) upd_same⟩
theorem eu_catA (ha : EvU ta σ H xs) (hb : EvU tb σ H ys) (nx : xs ≠ []) (ny : ys ≠ []) (hz : xs.length + ys.length ≤ 100000) : EvU (tOp (rCatA K) ta tb) σ H (xs ++ ys) := fun H1 e Q q =>
  ha H1 e _ fun p H2 hp e2 h2 => hb H2 (e.trans e2) _ fun r H3 hr e3 h3 => ⟨p, r, xs, ys, rfl, rfl, st_of (e3 _ _ h2), st_of h3, sz_of hz, fun z => absurd z nx, fun _ z => absurd z ny, fun _ _ g hg => q g _ (fresh_back (e2.trans e3) hg) ((e2.trans e3).trans (Ex.new hg)) upd_same⟩
theorem eu_slT (h : Ev te σ H (.ref a)) (h1 : EvO tl σ H lo) (h2 : EvO th σ H hi) (hs : SqT K H a xs) (nw : ¬ (HT.sIx xs.length 0 lo = 0 ∧ HT.sIx xs.length xs.length hi = xs.length)) : EvU (tSl (rSlT K) te tl th) σ H (cutV xs lo hi) := fun H1 e _ q =>
  h H1 e _ fun H2 e2 => h1 H2 (e.trans e2) _ fun H3 e3 => h2 H3 ((e.trans e2).trans e3) _ fun H4 e4 => ⟨a, xs, rfl, ex_t (((e.trans e2).trans e3).trans e4) hs, nw, fun p hp => q p _ (fresh_back ((e2.trans e3).trans e4) hp) (((e2.trans e3).trans e4).trans (Ex.new hp)) upd_same⟩
/-- tuple(xs) of a list -/
theorem eu_tupL (h : Ev te σ H (.ref a)) (hs : SqL K H a xs) : EvU (tThen te (kTup K)) σ H xs := fun H1 e _ q =>
  h H1 e _ fun H2 e2 => .inl ⟨a, xs, rfl, ex_l (e.trans e2) hs, fun p hp => q p _ (fresh_back e2 hp) (e2.trans (Ex.new hp)) upd_same⟩
theorem el_revL (h : Ev te σ H (.ref a)) (hs : SqL K H a xs) : EvL (tRevL K te) σ H xs.reverse := fun H1 e _ q =>
  h H1 e _ fun H2 e2 => ⟨a, xs, rfl, ex_l (e.trans e2) hs, fun p hp => q p _ (fresh_back e2 hp) (e2.trans (Ex.new hp)) upd_same⟩
/-- sorted(xs) of a new list of ints -/
theorem el_srtI {ns zs : List Int} (h : EvL te σ H (ns.map V.int)) (hz : ns.length < 64) (pm : zs.Perm ns) (srt : zs.Pairwise (· ≤ ·)) : EvL (tCB (rSorted K) (tCons te tNil)) σ H (zs.map V.int) := fun H1 e Q q =>
  h H1 e _ fun l H2 hl e2 h2 => ⟨l, ns, rfl, sq_of h2, hz, fun ys p pm2 s hp => by
    have : ys = zs := List.Perm.eq_of_pairwise (le := (· ≤ ·)) (fun a b _ _ h k => Int.le_antisymm h k) s srt (pm2.trans pm.symm)
    rw [this]
    exact q p _ (fresh_back e2 hp) (e2.trans (Ex.new hp)) upd_same⟩
theorem mem_sortI (ns : List Int) : ∃ zs : List Int, zs.Perm ns ∧ zs.Pairwise (· ≤ ·) :=
  ⟨ns.mergeSort (fun a b => decide (a ≤ b)), List.mergeSort_perm _ _, (List.pairwise_mergeSort (le := fun a b => decide (a ≤ b)) (fun a b c h1 h2 => by simp at *; omega) (fun a b => by simp; omega) ns).imp fun h => by simpa using h⟩
theorem inV_int {x : Int} {xs : List Int} : inV (.int x) (xs.map V.int) = decide (x ∈ xs) := by
  unfold inV
  induction xs with
  | nil => rfl
  | cons y ys ih =>
    rw [List.map_cons, List.any_cons, ih]
    by_cases e : x = y
    · subst e
      have : eqV (V.int x) (V.int x) = true := by simp [eqV]
      simp [this]
    · have : eqV (V.int y) (V.int x) = false := by
        simp [eqV]
        exact fun z => e z.symm
      simp [this, e]
theorem flat_ints (xs : List Int) : (xs.map V.int).all flatV = true := by
  rw [List.all_map, List.all_eq_true]
  exact fun x _ => rfl
end
end Mc
namespace Mc.Cn
open PySem L2 PySem.Spec PyProof.Rows Evl LamX NdefX
/-! the council: __init__, begin, exchange; _law_bring -/
abbrev sCnI : Stmt := inClass (top 19) 0
abbrev sCnBegin : Stmt := inClass (top 19) 1
abbrev sCnEx : Stmt := inClass (top 19) 9
abbrev sLBring : Stmt := top 0
def spLBring (K : PySem.W.Frag) (CK CS : Addr) (T : List NTab) : Sp := fun vs H Q _ => ∃ (g : Sf) (w : Cw) (B many : Nat) (l : Ltr) (lv : V), vs = [.ref g.kl, .ref g.sl, lv] ∧ SdAt K CK CS H g w ∧ CwOk B many w ∧ many ≤ 1000 ∧ B ≤ 90000 ∧ Dp K H lv l.d ∧ l.ok B many ∧ TabsN T H ∧
  ∀ (g' : Sf) (H' : Hp), BrP K CK CS T H g (w.bring l) g' H' → Q .non H'
def spBegin (K : PySem.W.Frag) (CC CK CS CB : Addr) (T : List NTab) : Sp := fun vs H Q E => ∃ (c ll : Addr) (g : Sf) (w : Cw) (ls : List Ltr) (x : Th), vs = [.ref c, x.v] ∧ CnAt K CC CK CS H c ll g w ls ∧ w.ks.length ≤ 1000 ∧ w.ss.length ≤ 1000 ∧ TabsN T H ∧
  ((∃ e : Int, x = .int e ∧ 0 ≤ e ∧ e ≤ 999999999999 ∧ e ∉ w.ss.map (·.ep) ∧ ∀ (g' : Sf) (H' : Hp), CnP K CC CK CS T H c ll g ⟨w.ks, w.ss ++ [SqS.new e w.ks.length]⟩ ls g' H' → Q (.int w.ss.length) H') ∨
    ((x.within 0 999999999999 = false ∨ ∃ e, x = .int e ∧ e ∈ w.ss.map (·.ep)) ∧ ∀ d H', Same H H' → H' d = some (.xd [("name", x.v)]) → E (.ref CB) (some d) H'))
def spCnI (K : PySem.W.Frag) (CC CK CS : Addr) : Sp := fun vs H Q _ => ∃ (p dx : Addr) (many : Nat), vs = [.ref p, .int many] ∧ H p = some (.ins CC dx []) ∧ many ≤ 1000 ∧
  ∀ (ll : Addr) (g : Sf) (H' : Hp), CnAt K CC CK CS H' p ll g ⟨(List.range many).map KeS.new, []⟩ [] → H ll = none → (∀ b ∈ g.all, H b = none) → Kp [p] H H' → Ks H H' → Q .non H'
def spExC (K : PySem.W.Frag) (CC CK CS : Addr) (T : List NTab) : Sp := fun vs H Q _ => ∃ (c ll ua : Addr) (g : Sf) (w : Cw) (ls : List Ltr) (B many i : Nat) (up : List Nat) (s : SqS), vs = [.ref c, .int i, .ref ua] ∧ CnAt K CC CK CS H c ll g w ls ∧ H ua = some (.lst (up.map fun n : Nat => V.int n)) ∧ ua ∉ g.all ∧ (∀ n ∈ up, n < many) ∧ up.length ≤ 1000 ∧ CwOk B many w ∧ many ≤ 1000 ∧ B + many ≤ 90000 ∧ TabsN T H ∧ w.ss[i]? = some s ∧
  ∀ (g' : Sf) (H' : Hp), CnP K CC CK CS T H c ll g (w.exchange i up) ls g' H' → Q .non H'
section
variable {P : Program} {w : World} {K : PySem.W.Frag} {mg : PySem.Str → Option Value} {base : Heap} {CC CK CS CB : Addr} {TT : List NTab}
theorem prd_zip {α β : Type} {F : α → β → Prop} : ∀ {xs : List α} {ys : List β}, Paired F xs ys → ∃ zs : List (α × β), xs = zs.map (·.1) ∧ ys = zs.map (·.2) ∧ ∀ z ∈ zs, F z.1 z.2
  | _, _, .nil => ⟨[], rfl, rfl, fun _ h => nomatch h⟩
  | _, _, .cons a b => by
    obtain ⟨zs, e1, e2, h⟩ := prd_zip b
    exact ⟨(_, _) :: zs, by rw [e1]; rfl, by rw [e2]; rfl, fun z hz => (List.mem_cons.mp hz).elim (fun e => by rw [e]; exact a) (h z)⟩
theorem scBegin : FnScope ["self", "epoch", "other"] ["self", "epoch"] (defScope sCnBegin) := ⟨rfl, rfl, rfl, by decide +kernel, rfl, by decide +kernel, by decide +kernel⟩
theorem ok_begin {f : Addr} {fd : FuncData} {tr : Tok} (F : Fun K "begin" "Council.begin" sCnBegin f fd) (T : TxC K mg CC) (TS : TxS K mg CS) (TB : TxB K mg CB) (gR : mg "MOST_EPOCH" = some (.int 999999999999 tr)) (cB : CalB P w K mg base CB "name") (c_is_number : Cal P w K mg base 1 "is_number" ["thing", "low", "high"] spIsN) (c_Sequencer : CalI P w K mg base CS 1 "Sequencer" ["self", "epoch", "many"] (spSqI K CS)) :
    FnOk P w K mg base (L2.CX P w) 4 f fd ["self", "epoch"] (spBegin K CC CK CS CB TT) := by
  obtain ⟨fI, fdI, iC, tI, bI, FI⟩ := cB
  refine F.okX scBegin (fun vs H Q E h => ?_) (fun cdv A outer s H vs Q E hr h => ?_)
  · obtain ⟨c, ll, g, w, ls, x, rfl, _⟩ := h
    rfl
  · obtain ⟨c, ll, g, v, ls, x, rfl, CN, hks, hss, hT, h⟩ := h
    refine ⟨_, (pss_cons (ps_if (PW.pt (pw_or (pt_not (pt_val (pe_cal c_is_number (hr.mono (by decide)) rfl (pa_cons (pv 1) (pa_cons pe_int (pa_cons (pe_glob (by rfl) gR rel_int) pa_nil)))))) (pw_or1 (pt_cmpR (op_inK (K := K) rfl) (pv 1) (pe_lc (own := [("other", 2)]) (g := gName 2) (tt := tYes) rfl scBegin.nd (pi_list (pe_fld (pv 0) rfl)) (blkOk_by (own := [("other", 2)]) (N := ["self", "epoch", "other"]) (sc := defScope sCnBegin) (by decide +kernel)) (fun _ _ _ _ _ => pg_name (i := 2) scBegin.nd rfl (Or.inl rfl)) (fun _ _ _ _ _ => pts_nil) (fun _ _ _ _ _ => (pe_fldK (K := K) rfl (pv 2) rfl))) (by rfl)))))
        (pss_one (ps_raise rfl (takes_of rfl rfl rfl rfl) (pmk_B TB.T iC tI FI (hr.mono (by decide)) bI rfl TB.mg (pa_cons (pv 1) pa_nil))))
        pss_nil)
      (pss_cons (ps_expr (pe_bm PySem.F.plainAttrs_list PySem.F.slot_list_append PySem.F.type_list_append mt_append (pe_fld (pv 0) rfl) (pa_cons (pe_calI c_Sequencer (hr.mono (by decide)) rfl (pa_cons (pv 1) (pa_cons (pe_callB call_len_seq (by rfl) T.len PySem.boot_len (pa_cons (pe_fld (pv 0) rfl) pa_nil)) pa_nil))) pa_nil)))
      (pss_one (ps_ret (pe_op op_sub (pe_callB call_len_seq (by rfl) T.len PySem.boot_len (pa_cons (pe_fld (pv 0) rfl) pa_nil)) pe_int))))), ?_⟩
    obtain ⟨⟨dx, hc⟩, ⟨us, hl, hD⟩, sd, n1, n2⟩ := id CN
    obtain ⟨zs, ez1, ez2, hz⟩ := prd_zip sd.ps
    have raise : (∀ d H', Same H H' → H' d = some (.xd [("name", x.v)]) → E (.ref CB) (some d) H') → ∀ H0, Same H H0 → tMkB CB (spBadI CB "name") (tCons (tVar 1) tNil) (L2.start ["self", "epoch", "other"] [.ref c, x.v]) H0 (fun cls d H' => E cls d H') := fun k H0 s0 =>
      ⟨_, rfl, mkB_one fun d hd => k d _ (Same.tr s0 (Same.new hd)) upd_same⟩
    have evE : EvL (tLc (iList K (tFld K (tVar 0) "sequencers")) (gName 2) tYes (tFld K (tVar 2) "epoch") [2]) (L2.start ["self", "epoch", "other"] [.ref c, x.v]) H ((v.ss.map (·.ep)).map V.int) := by
      have hi := ei_L (K := K) (tl := tFld K (tVar 0) "sequencers") (σ := L2.start ["self", "epoch", "other"] [.ref c, x.v]) (H := H) (ev_fld (ev_var (v := .ref c) rfl) hc T.cl T.nSe rfl) (SqL.of sd.hs)
      have e1 : (g.fs.map fun z => V.ref z.a) = zs.map fun y => V.ref y.1.a := by rw [ez1, List.map_map]; rfl
      have e2 : (v.ss.map (·.ep)).map V.int = zs.map fun y => V.int y.2.ep := by rw [ez2, List.map_map, List.map_map]; rfl
      rw [e1] at hi
      rw [e2]
      have lz : zs.length ≤ 1000 := by rw [ez2, List.length_map] at hss; exact hss
      refine el_mI (j := 2) (vs := [2]) (c := fun y : Ft × SqS => V.ref y.1.a) (fun y => V.int y.2.ep) hi (by omega) (fun i y hy H' ex => ?_) (fun _ => rfl)
      obtain ⟨dxs, h1⟩ := ((hz y (List.mem_of_getElem? hy)).same ex).self
      exact ev_fld (ev_var rfl) h1 TS.cl TS.nEp rfl
    refine ⟨_, rfl, x, 0, 999999999999, rfl, _, rfl, ?_⟩
    rcases h with ⟨e, rfl, h0, h1, hne, k⟩ | ⟨hb, k⟩
    · have eb : Th.within (.int e) 0 999999999999 = true := by
        show (decide ((0 : Int) ≤ e) && decide (e ≤ 999999999999)) = true
        rw [decide_eq_true h0, decide_eq_true h1]; rfl
      rw [eb]
      refine ite2 (fun h => absurd h (by decide)) (fun _ => ?_)
      refine ⟨_, rfl, evE H (Ex.refl _) _ fun p H1 hp x1 hp1 => ?_⟩
      refine ⟨p, _, rfl, .inl (SqL.of hp1), rfl, flat_ints _, _, rfl, ?_⟩
      refine ite2 (fun h => ?_) (fun _ => ?_)
      · have h : inV (.int e) ((v.ss.map (·.ep)).map V.int) = true := h
        rw [inV_int] at h
        exact absurd (of_decide_eq_true h) hne
      have hc1 := x1 _ _ hc
      have sd1 := sd.same x1
      refine ⟨_, rfl, c, CC, dx, _, _, rfl, hc1, T.cl, T.nSe, rfl, .inl ⟨rfl, _, SqL.of sd1.hs⟩, ?_⟩
      refine ⟨_, rfl, _, rfl, c, CC, dx, _, _, rfl, hc1, T.cl, T.nKe, rfl, g.kl, _, rfl, .inl (SqL.of sd1.hk), ?_⟩
      have lks : (g.ks.map V.ref).length = v.ks.length := by rw [List.length_map]; exact Paired.length sd.pk
      rw [lks]
      intro q dq hq hdq ne
      refine ⟨q, dq, e, v.ks.length, rfl, upd_same, hks, fun z H2 ez SQ f1 f2 f3 kp ks => ⟨rfl, ?_⟩⟩
      have s02 : Same H H2 := fun b o hb => by
        have h1 := x1 _ _ hb
        have nb : b ≠ q := ne_of_none h1 hq
        exact kp b o (by rw [upd_ne nb, upd_ne (ne_of_none h1 hdq)]; exact h1) (by simpa using nb)
      have new : ∀ b ∈ z.l, H b = none := fun b hb => by
        have bk : ∀ u, u ≠ q → (upd (upd H1 dq (.own q)) q (.ins CS dq [])) u = none → H u = none := fun u nu hu => by
          rw [upd_ne nu] at hu
          exact fresh_back x1 (upd_back hu)
        have h1q : H q = none := fresh_back x1 hq
        simp only [Ft.l, List.mem_cons, List.not_mem_nil, or_false] at hb
        have nq : ∀ {u}, (upd (upd H1 dq (.own q)) q (.ins CS dq [])) u = none → u ≠ q := fun hu e => by rw [e, upd_same] at hu; cases hu
        rcases hb with rfl | rfl | rfl | rfl
        · rw [ez]; exact h1q
        · exact bk _ (nq f1) f1
        · exact bk _ (nq f2) f2
        · exact bk _ (nq f3) f3
      have zn : z.l.Nodup := by
        obtain ⟨⟨dxs, g1⟩, ⟨es, g2, _⟩, ⟨us3, g3, _⟩, g4, g5⟩ := id SQ
        have nar : z.a ≠ z.r := ne_of g1 g2 (by intro e; cases e)
        have nad : z.a ≠ z.d := ne_of g1 g3 (by intro e; cases e)
        have nat : z.a ≠ z.t := ne_of g1 g4 (by intro e; cases e)
        have nrd : z.r ≠ z.d := ne_of g2 g3 (by intro e; cases e)
        have nrt : z.r ≠ z.t := ne_of g2 g4 (by intro e; cases e)
        simp only [Ft.l, List.nodup_cons, List.mem_cons, List.not_mem_nil, or_false, not_or, List.nodup_nil, and_true, not_false_eq_true]
        exact ⟨⟨nar, nad, nat⟩, ⟨nrd, nrt⟩, g5⟩
      have alloc : ∀ b ∈ g.all, H b ≠ none := fun b hb e => by
        obtain ⟨o, ho, _⟩ := sd.nt b hb
        rw [ho] at e; cases e
      have sd2 := sd.same s02
      have psh := sd2.push SQ zn fun b hb m => alloc b m (new b hb)
      have hs2 := sd2.hs
      have lfs : (g.fs.map fun z => V.ref z.a).length = v.ss.length := by rw [List.length_map]; exact Paired.length sd.ps
      refine ⟨g.sl, _, _, rfl, rfl, hs2, by rw [lfs, sizeLine_eq]; omega, ?_⟩
      rw [← ez]
      have nsl : c ≠ g.sl := fun e => n1 (by rw [e]; exact mem_all.mpr (.inr (.inl rfl)))
      have nll : ll ≠ g.sl := fun e => n2 (by rw [e]; exact mem_all.mpr (.inr (.inl rfl)))
      have kk := Ks.lst (o' := .lst (g.fs.map (fun z => V.ref z.a) ++ [.ref z.a])) hs2
      have gm : ∀ b ∈ ({ g with fs := g.fs ++ [z] } : Sf).all, b ∈ g.all ∨ H b = none := fun b hb => by
        rcases mem_all.mp hb with e | e | m | ⟨u, hu, m⟩
        · exact .inl (mem_all.mpr (.inl e))
        · exact .inl (mem_all.mpr (.inr (.inl e)))
        · exact .inl (mem_all.mpr (.inr (.inr (.inl m))))
        · rcases List.mem_append.mp hu with hu | hu
          · exact .inl (mem_all.mpr (.inr (.inr (.inr ⟨u, hu, m⟩))))
          · rw [List.mem_singleton.mp hu] at m
            exact .inr (new b m)
      have hcX : upd H2 g.sl (.lst (g.fs.map (fun z => V.ref z.a) ++ [.ref z.a])) c = some (.ins CC dx (CnF g ll)) := by rw [upd_ne nsl]; exact s02 _ _ hc
      refine ⟨_, rfl, c, CC, dx, _, _, rfl, hcX, T.cl, T.nSe, rfl, g.sl, _, rfl, .inl (SqL.of upd_same), ?_⟩
      refine ⟨_, _, rfl, rfl, ?_⟩
      have el : (((g.fs.map (fun z => V.ref z.a) ++ [V.ref z.a]).length : Nat) : Int) - 1 = (v.ss.length : Nat) := by
        rw [List.length_append, lfs]
        simp
      show Q (.int ((((g.fs.map (fun z => V.ref z.a) ++ [V.ref z.a]).length : Nat) : Int) - 1)) _
      rw [el]
      refine k { g with fs := g.fs ++ [z] } _ ⟨⟨⟨dx, hcX⟩, ⟨us, by rw [upd_ne nll]; exact s02 _ _ hl, dpA_tp ((Ks.same s02).trans kk).tp _ _ (tpAL _) hD⟩, psh, fun m => (gm c m).elim n1 fun q => ?_, fun m => (gm ll m).elim n2 fun q => ?_⟩, ⟨rfl, rfl, rfl, gm, fa_app⟩, (KpN.same s02).trans (KpN.kp (Kp.at (by simp [Sf.all]))), (Ks.same s02).trans kk, fun b hb => Grw.same s02 b (upd_back hb), tabs_lst (TabsN.ext hT s02) hs2⟩
      · rw [hc] at q; cases q
      · rw [hl] at q; cases q
    · rcases hb with hb | ⟨e, rfl, he⟩
      · rw [hb]
        exact ite2 (fun _ => raise k H fun _ _ z => z) (fun h => absurd rfl h)
      · cases eb : Th.within (.int e) 0 999999999999 with
        | false => exact ite2 (fun _ => raise k H fun _ _ z => z) (fun h => absurd rfl h)
        | true =>
          refine ite2 (fun h => absurd h (by decide)) (fun _ => ?_)
          refine ⟨_, rfl, evE H (Ex.refl _) _ fun p H1 hp x1 hp1 => ?_⟩
          refine ⟨p, _, rfl, .inl (SqL.of hp1), rfl, flat_ints _, _, rfl, ?_⟩
          refine ite2 (fun _ => raise k H1 x1) (fun h => ?_)
          have h : ¬ inV (.int e) ((v.ss.map (·.ep)).map V.int) = true := h
          rw [inV_int] at h
          exact absurd (decide_eq_true he) h
end
end Mc.Cn
namespace Mc.Cn
open PySem L2 PySem.Spec PyProof.Rows Evl LamX NdefX
/-! the council: __init__, exchange -/
section
variable {P : Program} {w : World} {K : PySem.W.Frag} {mg : PySem.Str → Option Value} {base : Heap} {CC CK CS CB : Addr} {TT : List NTab}
theorem brings_snoc (v : Cw) (ls : List Ltr) (l : Ltr) : v.brings (ls ++ [l]) = (v.brings ls).bring l := by unfold Cw.brings; rw [List.foldl_append]; rfl
theorem filter_snoc {α : Type} {xs : List α} {i : Nat} {x : α} (p : α → Bool) (h : xs[i]? = some x) : (xs.take (i + 1)).filter p = (xs.take i).filter p ++ if p x = true then [x] else [] := by
  rw [List.take_add_one, h, List.filter_append]
  by_cases q : p x = true
  · simp [q]
  · simp [q]
theorem okFold {B many : Nat} : ∀ (xs : List Nat) {v : Cw}, CwOk B many v → CwOk B many (xs.foldl Cw.flushed v)
  | [], _, h => h
  | x :: xs, _, h => okFold xs (h.flushed (n := x))
theorem fold_snoc {xs : List Nat} {i n : Nat} (v : Cw) (h : xs[i]? = some n) : (xs.take (i + 1)).foldl Cw.flushed v = ((xs.take i).foldl Cw.flushed v).flushed n := by
  rw [List.take_add_one, h, List.foldl_append]; rfl
theorem scCnEx : FnScope ["self", "number", "up", "letter", "keeper", "told"] ["self", "number", "up"] (defScope sCnEx) := ⟨rfl, rfl, rfl, by decide +kernel, rfl, by decide +kernel, by decide +kernel⟩
theorem ok_cnex {f : Addr} {fd : FuncData} (F : Fun K "exchange" "Council.exchange" sCnEx f fd) (T : TxC K mg CC) (clK : Cls K CK) (clS : Cls K CS) (c_Sequencer_to_send : CalM P w K mg base CS 2 "to_send" ["self"] (spSend K CS)) (c_Keeper_flush : CalM P w K mg base CK 1 "flush" ["self"] (spFlush K CK)) (c_bring : CalM P w K mg base CC 5 "bring" ["self", "letter"] (spBring K CC CK CS TT)) : FnOk P w K mg base CX0 6 f fd ["self", "number", "up"] (spExC K CC CK CS TT) := by
  refine F.ok scCnEx (fun vs H Q E h => ?_) (fun cdv A outer s H vs Q E hr h => ?_)
  · obtain ⟨c, ll, ua, g, w, ls, B, many, i, up, s, rfl, _⟩ := h
    rfl
  · obtain ⟨c, ll, ua, g, v, ls, B, many, i, up, sq, rfl, CN, hua, nua, hup, hul, ok, hm, hB, hT, hs, k⟩ := h
    refine ⟨_, (pss_cons (ps_for PassesOwn.never rfl (pi_tup (pe_calM0 (pe_ix ix_list (pe_fld (pv 0) rfl) (pv 1) (fun _ _ => rfl)) clS c_Sequencer_to_send (hr.mono (by decide)))) (pg_name (i := 3) scCnEx.nd rfl (Or.inl rfl))
        (pss_one (ps_if (pt_cmpR (op_inK (K := K) rfl) (pe_ix ix_tup (pv 3) pe_int (fun _ _ => rfl)) (pv 2) (by rfl))
          (pss_one (ps_expr (pe_calM (pv 0) T.cl c_bring (hr.mono (by decide)) (pa_cons (pv 3) pa_nil))))
          pss_nil)))
      (pss_one (ps_for PassesOwn.never rfl (pi_list (pv 2)) (pg_name (i := 4) scCnEx.nd rfl (Or.inl rfl))
        (pss_one (ps_for PassesOwn.never rfl (pi_tup (pe_calM0 (pe_ix ix_list (pe_fld (pv 0) rfl) (pv 4) (fun _ _ => rfl)) clK c_Keeper_flush (hr.mono (by decide)))) (pg_name (i := 5) scCnEx.nd rfl (Or.inl rfl))
          (pss_one (ps_expr (pe_calM (pv 0) T.cl c_bring (hr.mono (by decide)) (pa_cons (pv 5) pa_nil))))))))), ?_⟩
    obtain ⟨⟨dx, hc⟩, hl, sd, n1, n2⟩ := id CN
    obtain ⟨z, hz, SQ⟩ := sd.sget hs
    obtain ⟨dxs, hzs⟩ := SQ.self
    have hix : (g.fs.map fun z => V.ref z.a)[i]? = some (.ref z.a) := by rw [List.getElem?_map, hz]; rfl
    have okB := ok.mono (Nat.le_add_right B many)
    have sok := (ok.ss _ (List.mem_of_getElem? hs)).sends
    -- what stands while the side changes
    have stC : ∀ {w' g' H'}, BrP K CK CS TT H g w' g' H' → H' c = some (.ins CC dx (CnF g' ll)) ∧ c ∉ g'.all ∧ H' ua = some (.lst (up.map fun n : Nat => V.int n)) := fun {w' g' H'} br => by
      refine ⟨?_, fun m => (br.gro.all c m).elim n1 (fun q => by rw [hc] at q; cases q), br.kp _ _ hua nua fun _ z => by cases z⟩
      have e : CnF g' ll = CnF g ll := by unfold CnF; rw [br.gro.kl, br.gro.sl]
      rw [e]
      exact br.kp _ _ hc n1 fun _ z => by cases z
    refine ⟨_, rfl, c, CC, dx, _, _, rfl, hc, T.cl, T.nSe, rfl, _, rfl, g.sl, _, _, .ref z.a, rfl, rfl, SqL.of sd.hs, atN (j := i) rfl hix, ?_⟩
    refine ⟨z.a, dxs, _, rfl, hzs, rfl, z, sq, B, many, rfl, SQ, ok.ss _ (List.mem_of_getElem? hs), hm, by omega, fun t H1 ht s1 td => ?_⟩
    obtain ⟨ts, ht1, dt⟩ := id td
    have lts : ts.length = sq.toSend.length := by rw [dpA_len dt, List.length_map]
    have br0 : BrP K CK CS TT H g v g H1 := (BrP.refl sd hT).ex s1
    refine ⟨t, rfl, ⟨_, SqT.of ht1⟩, for_tup (K := K) (a := t) (xs := ts) (fun j σ H' => ∃ (o : Option V) (g1 : Sf), σ = [some (.ref c), some (.int i), some (.ref ua), o, none, none] ∧ BrP K CK CS TT H g (v.brings ((sq.toSend.take j).filter fun l => decide (l.num ∈ up))) g1 H' ∧ Ks H1 H') ?_ ?_ ?_ ?_⟩
    · exact ⟨none, g, rfl, br0, Ks.refl _⟩
    · rintro j σ H' _ ⟨o, g1, rfl, br, ks⟩
      exact SqT.of (ks.tu _ _ ht1)
    · rintro j y σ H' hj ⟨o, g1, rfl, br, ks⟩
      obtain ⟨dd, hd, dy⟩ := dpA_at dt hj
      rw [List.getElem?_map] at hd
      obtain ⟨l, hlj, rfl⟩ := Option.map_eq_some_iff.mp hd
      have dy' := dp_tp ks.tp _ _ (tp_ltr l) dy
      have hlm := List.mem_of_getElem? hlj
      obtain ⟨lok, lans⟩ := sok.2 l hlm
      obtain ⟨a, xs, rfl, sqL, x0, x2⟩ := dp_word dy'
      obtain ⟨hc', nc', hua'⟩ := stC br
      rw [filter_snoc _ hlj]
      refine ⟨_, rfl, a, xs, 2, _, rfl, rfl, sqL, atN (j := 2) rfl x2, _, rfl, ua, _, rfl, .inl (SqL.of hua'), rfl, ?_, _, rfl, ?_⟩
      · have : (up.map fun n : Nat => V.int n) = (up.map fun n : Nat => (n : Int)).map V.int := by rw [List.map_map]; rfl
        rw [this]
        exact flat_ints _
      have ein : inV (.int (l.num : Nat)) (up.map fun n : Nat => V.int n) = decide (l.num ∈ up) := by
        have e1 : (up.map fun n : Nat => V.int n) = (up.map fun n : Nat => (n : Int)).map V.int := by rw [List.map_map]; rfl
        rw [e1, inV_int]
        refine decide_eq_decide.mpr ⟨fun h => ?_, fun h => List.mem_map.mpr ⟨_, h, rfl⟩⟩
        obtain ⟨n, hn, e⟩ := List.mem_map.mp h
        rw [← Int.ofNat.inj e]; exact hn
      refine ite2 (fun hq => ?_) (fun hq => ?_)
      · have hq : inV (.int (l.num : Nat)) (up.map fun n : Nat => V.int n) = true := hq
        rw [ein] at hq
        rw [if_pos hq, brings_snoc]
        have okj : CwOk (B + many) many (v.brings ((sq.toSend.take j).filter fun l => decide (l.num ∈ up))) := by
          refine (CwOk.brings ok fun x hx => (sok.2 x (List.mem_of_mem_take (List.mem_filter.mp hx).1)).1).mono ?_
          have h1 := List.length_filter_le (fun l : Ltr => decide (l.num ∈ up)) (sq.toSend.take j)
          rw [List.length_take] at h1
          have := sok.1
          omega
        refine ⟨_, rfl, c, dx, _, rfl, hc', rfl, _, rfl, c, dx, ll, g1, _, B + many, many, l, .ref a, rfl, hc', nc', br.sd, okj, hm, hB, dy', lok.mono (Nat.le_add_right _ _), br.tb, fun g2 H2 br2 => ?_⟩
        exact ⟨some (.ref a), g2, rfl, br.trans br2, ks.trans br2.ks⟩
      · have hq : ¬ inV (.int (l.num : Nat)) (up.map fun n : Nat => V.int n) = true := hq
        rw [ein] at hq
        rw [if_neg hq, List.append_nil]
        exact ⟨some (.ref a), g1, rfl, br, ks⟩
    · rintro σ H2 ⟨o, g1, rfl, br, _⟩
      rw [lts, List.take_length] at br
      have esent : v.brings (sq.toSend.filter fun l => decide (l.num ∈ up)) = v.sent i up := by unfold Cw.sent; rw [hs]; rfl
      rw [esent] at br
      have hua2 := (stC br).2.2
      refine ⟨_, rfl, ua, rfl, ⟨_, SqL.of hua2⟩, for_list (K := K) (a := ua) (xs := up.map fun n : Nat => V.int n) (fun j σ H' => ∃ (o4 o5 : Option V) (g2 : Sf), σ = [some (.ref c), some (.int i), some (.ref ua), o, o4, o5] ∧ BrP K CK CS TT H g ((up.take j).foldl Cw.flushed (v.sent i up)) g2 H') ?_ ?_ ?_ ?_⟩
      · exact ⟨none, none, g1, rfl, br⟩
      · rintro j σ H' _ ⟨o4, o5, g2, rfl, br2⟩
        exact SqL.of (stC br2).2.2
      · rintro j y σ H3 hj ⟨o4, o5, g2, rfl, br2⟩
        rw [List.getElem?_map] at hj
        obtain ⟨n, hn, rfl⟩ := Option.map_eq_some_iff.mp hj
        rw [fold_snoc _ hn]
        have ok2 : CwOk (B + many) many ((up.take j).foldl Cw.flushed (v.sent i up)) := okFold _ ok.sent
        generalize (up.take j).foldl Cw.flushed (v.sent i up) = v2 at br2 ok2
        have hnm : n < v2.ks.length := by rw [ok2.len]; exact hup n (List.mem_of_getElem? hn)
        have hke := List.getElem?_eq_getElem hnm
        have kok := ok2.ks _ _ hke
        obtain ⟨ka, hka, KA⟩ := br2.sd.kget hke
        obtain ⟨dxk, r, lo, wa, hk1, _⟩ := id KA
        obtain ⟨hc', nc', hua'⟩ := stC br2
        have hixk : (g2.ks.map V.ref)[n]? = some (.ref ka) := by rw [List.getElem?_map, hka]; rfl
        refine ⟨_, rfl, c, CC, dx, _, _, rfl, hc', T.cl, T.nKe, rfl, _, rfl, g2.kl, _, _, .ref ka, rfl, rfl, SqL.of br2.sd.hk, atN (j := n) rfl hixk, ?_⟩
        refine ⟨ka, dxk, _, rfl, hk1, rfl, ka, v2.ks[n], rfl, KA, by have := kok.len; omega, fun t2 H4 K4 td4 kp4 ks4 => ?_⟩
        have brk := BrP.keeper (TT := TT) br2.sd br2.tb hka K4 kp4 ks4
        rw [set_modify (f := KeS.flush) hke] at brk
        have br4 := br2.trans brk
        obtain ⟨ts4, ht4, dt4⟩ := id td4
        have lts4 : ts4.length = v2.ks[n].wa.length := by rw [dpA_len dt4, List.length_map]
        have efl : v2.flushed n = (v2.onK n KeS.flush).brings v2.ks[n].wa := by unfold Cw.flushed; rw [hke]; rfl
        rw [efl]
        refine ⟨t2, rfl, ⟨_, SqT.of ht4⟩, for_tup (K := K) (a := t2) (xs := ts4) (fun m σ H' => ∃ (o5 : Option V) (g5 : Sf), σ = [some (.ref c), some (.int i), some (.ref ua), o, some (.int n), o5] ∧ BrP K CK CS TT H g ((v2.onK n KeS.flush).brings (v2.ks[n].wa.take m)) g5 H' ∧ Ks H4 H') ?_ ?_ ?_ ?_⟩
        · exact ⟨o5, g2, rfl, br4, Ks.refl _⟩
        · rintro m σ H' _ ⟨o5, g5, rfl, _, ks⟩
          exact SqT.of (ks.tu _ _ ht4)
        · rintro m y σ H5 hy ⟨o5, g5, rfl, br5, ks5⟩
          obtain ⟨dd, hd, dy⟩ := dpA_at dt4 hy
          rw [List.getElem?_map] at hd
          obtain ⟨l, hlm, rfl⟩ := Option.map_eq_some_iff.mp hd
          have dy' := dp_tp ks5.tp _ _ (tp_ltr l) dy
          obtain ⟨hc5, nc5, _⟩ := stC br5
          have hw := kok.wa l (List.mem_of_getElem? hlm)
          have ok5 : CwOk (B + many) many ((v2.onK n KeS.flush).brings (v2.ks[n].wa.take m)) := CwOk.hears ok2.flush fun x hx => kok.wa x (List.mem_of_mem_take hx)
          have et : v2.ks[n].wa.take (m + 1) = v2.ks[n].wa.take m ++ [l] := by rw [List.take_add_one, hlm]; rfl
          rw [et, brings_snoc]
          refine ⟨_, rfl, c, dx, _, rfl, hc5, rfl, _, rfl, c, dx, ll, g5, _, B + many, many, l, y, rfl, hc5, nc5, br5.sd, ok5, hm, hB, dy', hw.1, br5.tb, fun g6 H6 br6 => ?_⟩
          exact ⟨some y, g6, rfl, br5.trans br6, ks5.trans br6.ks⟩
        · rintro σ H5 ⟨o5, g5, rfl, br5, _⟩
          rw [lts4, List.take_length] at br5
          exact ⟨some (.int n), o5, g5, rfl, br5⟩
      · rintro σ H3 ⟨o4, o5, g2, rfl, br2⟩
        rw [List.length_map, List.take_length] at br2
        exact k g2 H3 (CnP.br CN br2)
theorem scCnI : FnScope ["self", "many", "number"] ["self", "many"] (defScope sCnI) := ⟨rfl, rfl, rfl, by decide +kernel, rfl, by decide +kernel, by decide +kernel⟩
theorem ok_cni {f : Addr} {fd : FuncData} (F : Fun K "__init__" "Council.__init__" sCnI f fd) (T : TxC K mg CC) (c_Keeper : CalI P w K mg base CK 1 "Keeper" ["self", "number"] (spKeI K CK)) : FnOk P w K mg base CX0 3 f fd ["self", "many"] (spCnI K CC CK CS) := by
  refine F.ok scCnI (fun vs H Q E h => ?_) (fun cdv A outer s H vs Q E hr h => ?_)
  · obtain ⟨p, dx, many, rfl, _⟩ := h
    rfl
  · obtain ⟨p, dx, many, rfl, hp, hm, k⟩ := h
    refine ⟨_, (pss_cons (ps_fld (pv 0) (pe_lc (own := [("number", 2)]) (g := gName 2) (tt := tYes) rfl scCnI.nd (pi_range1 (by rfl) T.range (pa_cons (pv 1) pa_nil)) (blkOk_by (own := [("number", 2)]) (N := ["self", "many", "number"]) (sc := defScope sCnI) (by decide +kernel)) (fun _ _ _ _ _ => pg_name (i := 2) scCnI.nd rfl (Or.inl rfl)) (fun _ _ _ _ _ => pts_nil) (fun _ _ _ _ _ => (pe_calI c_Keeper (hr.mono (by decide)) rfl (pa_cons (pv 2) pa_nil)))) rfl)
      (pss_cons (ps_fld (pv 0) (pe_lst pa_nil) rfl)
      (pss_one (ps_fld (pv 0) (pe_lst pa_nil) rfl)))), ?_⟩
    have hi : EvI (iRng1 (tCons (tVar 1) tNil)) (start ["self", "many", "number"] [.ref p, .int many]) H ((List.range many).map fun i : Nat => V.int (i : Int)) := by
      have := ei_r1 (ta := tCons (tVar 1) tNil) (σ := start ["self", "many", "number"] [.ref p, .int many]) (H := H) (n := (many : Int)) (ea_cons (ev_var rfl) ea_nil) (by omega) (by omega)
      rwa [Int.toNat_natCast] at this
    dsimp only [tSeq, sFld]
    refine el_RI (j := 2) (vs := [2]) (c := fun i : Nat => V.int (i : Int)) (fun _ => true) (fun (y : Nat) v H' => ∃ a, v = .ref a ∧ H a = none ∧ KeAt K CK H' a (KeS.new y)) (fun y v H1 H2 ⟨a, e, h0, h⟩ s => ⟨a, e, h0, h.same s⟩)
      (fun y v H1 D u ⟨a, e, h0, h⟩ hu _ u' => ⟨a, e, h0, h.stay (Ks.lst hu) fun o z => by
        have : a ≠ D := fun q => by
          obtain ⟨dx, r, l, w, h1, _⟩ := h
          rw [q, hu] at h1; cases h1
        rw [upd_ne this]; exact z⟩)
      hi (by rw [List.length_range]; omega) (fun i y hy H' x => et_yes) (fun i y hy _ H' x => ?_) (fun _ => rfl) H (Ex.refl _) _ fun D us H1 hD x1 hD1 pr => ?_
    · refine fun H1 e1 Q q => ⟨_, rfl, fun a dx ha hdx ne => ⟨a, dx, y, rfl, upd_same, fun H2 K2 kp ks => ⟨rfl, q (.ref a) H2 (fun b o z => ?_) ⟨a, rfl, fresh_back (x.trans e1) ha, K2⟩⟩⟩⟩
      have nb : b ≠ a := ne_of_none z ha
      exact kp b o (by rw [upd_ne nb, upd_ne (ne_of_none z hdx)]; exact z) (by simpa using nb)
    have ef : (List.range many).filter (fun _ => true) = List.range many := List.filter_eq_self.mpr fun _ _ => rfl
    rw [ef] at pr
    have asx : ∃ as : List Addr, us = as.map V.ref ∧ Paired (fun (a : Addr) (y : Nat) => H a = none ∧ KeAt K CK H1 a (KeS.new y)) as (List.range many) := by
      have gen : ∀ {xs : List Nat} {us : List V}, Paired (fun (y : Nat) v => ∃ a, v = V.ref a ∧ H a = none ∧ KeAt K CK H1 a (KeS.new y)) xs us → ∃ as : List Addr, us = as.map V.ref ∧ Paired (fun (a : Addr) (y : Nat) => H a = none ∧ KeAt K CK H1 a (KeS.new y)) as xs := by
        intro xs us h
        induction h with
        | nil => exact ⟨[], rfl, .nil⟩
        | cons a b ih =>
          obtain ⟨as, e, q⟩ := ih
          obtain ⟨a0, rfl, h0, h1⟩ := a
          exact ⟨a0 :: as, by rw [e]; rfl, .cons ⟨h0, h1⟩ q⟩
      exact gen pr
    obtain ⟨as, rfl, pas⟩ := asx
    have hp1 := x1 _ _ hp
    have fresh : ∀ a ∈ as, H a = none := fun a ha => (prd_mem2 pas ha).elim fun y q => q.2.1
    have npa : ∀ a ∈ as, a ≠ p := fun a ha e => by have := fresh a ha; rw [e, hp] at this; cases this
    have nDp : D ≠ p := fun e => by rw [e, hp] at hD; cases hD
    refine ⟨_, rfl, p, CC, dx, [], rfl, hp1, T.cl, T.nKe, (by show 0 < 1000; decide), ?_⟩
    have k1 := Ks.ins (o' := .ins CC dx (putF "keepers" (.ref D) [])) hp1
    generalize e2 : upd H1 p _ = H2 at k1 ⊢
    have g2 : H2 p = some (.ins CC dx [("keepers", .ref D)]) := by rw [← e2]; exact upd_same
    have o2 : ∀ b, b ≠ p → H2 b = H1 b := fun b nb => by rw [← e2, upd_ne nb]
    clear e2
    refine ⟨Nat.zero_le _, fun S hS => ?_⟩
    have nSp : S ≠ p := fun e => by rw [e, g2] at hS; cases hS
    have hS1 : H1 S = none := by rw [← o2 S nSp]; exact hS
    refine ⟨_, rfl, p, CC, dx, _, rfl, (by rw [upd_ne nSp.symm]; exact g2), T.cl, T.nSe, (by show 1 < 1000; decide), ?_⟩
    have k2 := (Ks.new (o := .lst []) hS).trans (Ks.ins (o' := .ins CC dx (putF "sequencers" (.ref S) [("keepers", .ref D)])) (by rw [upd_ne nSp.symm]; exact g2))
    generalize e3 : upd (upd H2 S _) p _ = H3 at k2 ⊢
    have g3 : H3 p = some (.ins CC dx [("keepers", .ref D), ("sequencers", .ref S)]) := by rw [← e3]; exact upd_same
    have s3 : H3 S = some (.lst []) := by rw [← e3, upd_ne nSp, upd_same]
    have o3 : ∀ b, b ≠ p → b ≠ S → H3 b = H2 b := fun b nb ns => by rw [← e3, upd_ne nb, upd_ne ns]
    clear e3
    refine ⟨Nat.zero_le _, fun L hL => ?_⟩
    have nLp : L ≠ p := fun e => by rw [e, g3] at hL; cases hL
    have nLS : L ≠ S := fun e => by rw [e, s3] at hL; cases hL
    have hL1 : H1 L = none := by rw [← o2 L nLp, ← o3 L nLp nLS]; exact hL
    refine ⟨_, rfl, p, CC, dx, _, rfl, (by rw [upd_ne nLp.symm]; exact g3), T.cl, T.nLe, (by show 2 < 1000; decide), ?_⟩
    have k3 := (Ks.new (o := .lst []) hL).trans (Ks.ins (o' := .ins CC dx (putF "letters" (.ref L) [("keepers", .ref D), ("sequencers", .ref S)])) (by rw [upd_ne nLp.symm]; exact g3))
    generalize e4 : upd (upd H3 L _) p _ = H4 at k3 ⊢
    have g4 : H4 p = some (.ins CC dx [("keepers", .ref D), ("sequencers", .ref S), ("letters", .ref L)]) := by rw [← e4]; exact upd_same
    have l4 : H4 L = some (.lst []) := by rw [← e4, upd_ne nLp, upd_same]
    have o4 : ∀ b, b ≠ p → b ≠ L → H4 b = H3 b := fun b nb ns => by rw [← e4, upd_ne nb, upd_ne ns]
    clear e4
    have old : ∀ b, b ≠ p → H1 b ≠ none → H4 b = H1 b := fun b nb nn => by
      have nS : b ≠ S := fun e => nn (e ▸ hS1)
      have nL : b ≠ L := fun e => nn (e ▸ hL1)
      rw [o4 b nb nL, o3 b nb nS, o2 b nb]
    have kk := (k1.trans k2).trans k3
    have kp : Kp [p] H H4 := fun b o z n => by
      have nb : b ≠ p := by simpa using n
      have h1 := x1 _ _ z
      rw [old b nb (by rw [h1]; exact nofun)]; exact h1
    have anS : ∀ a ∈ as, H1 a ≠ none := fun a ha e => (prd_mem2 pas ha).elim fun y q => by
      obtain ⟨dxk, r, lo, wa, h1, _⟩ := q.2.2
      rw [h1] at e; cases e
    have pk : Paired (fun a k => KeAt K CK H4 a k) as ((List.range many).map KeS.new) := by
      have gen : ∀ {as : List Addr} {xs : List Nat}, Paired (fun (a : Addr) (y : Nat) => H a = none ∧ KeAt K CK H1 a (KeS.new y)) as xs → (∀ a ∈ as, a ≠ p ∧ H1 a ≠ none) → Paired (fun a k => KeAt K CK H4 a k) as (xs.map KeS.new) := by
        intro as xs h
        induction h with
        | nil => exact fun _ => .nil
        | cons a b ih => exact fun q => .cons (a.2.stay kk fun o z => by rw [old _ (q _ (.head _)).1 (q _ (.head _)).2]; exact z) (ih fun a ha => q a (.tail _ ha))
      exact gen pas fun a ha => ⟨npa a ha, anS a ha⟩
    have asn : as.Nodup := by
      have gen : ∀ {as : List Addr} {xs : List Nat}, Paired (fun (a : Addr) (y : Nat) => H a = none ∧ KeAt K CK H1 a (KeS.new y)) as xs → xs.Nodup → as.Nodup := by
        intro as xs h
        induction h with
        | nil => exact fun _ => List.nodup_nil
        | @cons a0 y0 as xs a b ih =>
          intro nd
          have nd' := List.nodup_cons.mp nd
          refine List.nodup_cons.mpr ⟨fun hm => ?_, ih nd'.2⟩
          obtain ⟨y, hy, _, q⟩ := prd_mem2 b hm
          obtain ⟨d1, r1, lo1, wa1, h1, _⟩ := a.2
          obtain ⟨d2, r2, lo2, wa2, h2, _⟩ := q
          rw [h1] at h2
          have h2 := Option.some.inj h2
          injection h2 with _ _ h2
          unfold KeF at h2
          injection h2 with h2 _
          have := Prod.mk.inj h2
          have := V.int.inj this.2
          have e : y0 = y := Int.ofNat.inj this
          exact nd'.1 (e ▸ hy)
      exact gen pas List.nodup_range
    have hD4 : H4 D = some (.lst (as.map V.ref)) := by rw [old D nDp (by rw [hD1]; exact nofun)]; exact hD1
    have nSa : S ∉ as := fun m => anS S m hS1
    have nLa : L ∉ as := fun m => anS L m hL1
    have nDa : D ∉ as := fun m => (prd_mem2 pas m).elim fun y q => by
      obtain ⟨dxk, r, lo, wa, h1, _⟩ := q.2.2
      rw [hD1] at h1; cases h1
    have nDS : D ≠ S := fun e => by rw [← e, hD1] at hS1; cases hS1
    have nDL : D ≠ L := fun e => by rw [← e, hD1] at hL1; cases hL1
    have s4 : H4 S = some (.lst []) := by rw [o4 S nSp nLS.symm]; exact s3
    have all_ : (⟨D, S, as, []⟩ : Sf).all = D :: S :: (as ++ []) := rfl
    refine k L ⟨D, S, as, []⟩ H4 ⟨⟨dx, g4⟩, ⟨[], l4, .nil⟩, ⟨hD4, s4, pk, .nil, ?_⟩, ?_, ?_⟩ (fresh_back x1 hL1) ?_ kp ((Ks.same x1).trans kk)
    · rw [all_, List.append_nil]
      exact List.nodup_cons.mpr ⟨fun m => (List.mem_cons.mp m).elim nDS nDa, List.nodup_cons.mpr ⟨nSa, asn⟩⟩
    · rw [all_, List.append_nil]
      exact fun m => (List.mem_cons.mp m).elim (fun e => nDp e.symm) fun m => (List.mem_cons.mp m).elim (fun e => nSp e.symm) fun m => npa p m rfl
    · rw [all_, List.append_nil]
      exact fun m => (List.mem_cons.mp m).elim (fun e => nDL e.symm) fun m => (List.mem_cons.mp m).elim nLS nLa
    · rw [all_, List.append_nil]
      intro b hb
      rcases List.mem_cons.mp hb with rfl | hb
      · exact hD
      · rcases List.mem_cons.mp hb with rfl | hb
        · exact fresh_back x1 hS1
        · exact fresh b hb
end
end Mc.Cn
namespace Mc
open PySem L2 PySem.Spec PyProof.Rows
abbrev sPick : Stmt := top 23
def spPick (K : PySem.W.Frag) : Sp := fun vs H Q _ => ∃ (M : List Addr) (d a l : Addr) (xs : List V), vs = [.ref d, .ref l] ∧ Dr K M d a H ∧ 0 < xs.length ∧ (∀ H', Kp [d] H H' → SqL K H' l xs ∨ SqT K H' l xs) ∧
  ∀ (j : Nat) (x : V) (H' : Hp), xs[j]? = some x → Dr K M d a H' → Kp [d] H H' → Q x H'
section
variable {P : Program} {w : World} {K : PySem.W.Frag} {mg : Str → Option Value} {base : Heap}
theorem scPick : FnScope ["draw", "items"] ["draw", "items"] (defScope sPick) := ⟨rfl, rfl, rfl, by decide +kernel, rfl, by decide +kernel, by decide +kernel⟩
theorem ok_pick {f fN fT : Addr} {fd fdN fdT : FuncData} (F : Fun K "_law_pick" "_law_pick" sPick f fd) (T : TxD K mg fN fT) (FN : Fun K "_law_number" "_law_number" sNum fN fdN) (bN : Binds K fdN ["script", "index"] [])
    (FT : Fun K "_law_take" "_law_take" sTake fT fdT) (bT : Binds K fdT ["draw", "many"] []) : FnOk P w K mg base CX0 3 f fd ["draw", "items"] (spPick K) := by
  have GT : FnOk P w K mg base CX0 2 fT fdT ["draw", "many"] (spTake K) := ok_take FT T FN bN
  refine F.ok scPick (fun vs H Q E h => ?_) (fun cdv A outer s H vs Q E hr h => ?_)
  · obtain ⟨M, d, a, l, xs, rfl, _⟩ := h
    rfl
  · obtain ⟨M, d, a, l, xs, rfl, D, hx, hs, q⟩ := h
    refine ⟨_, pss_one (ps_ret (pe_ix ix_seq (pv 1) (pe_call GT hr rfl T.take FT.kp bT .nil pass0 (pa_cons (pv 0) (pa_cons (pe_callB call_len_seq (by rfl) T.len PySem.boot_len (pa_cons (pv 1) pa_nil)) pa_nil))) (fun _ _ => rfl))), ?_⟩
    refine ⟨_, rfl, _, rfl, _, rfl, l, xs, rfl, hs H (Kp.refl _ H), M, d, a, _, rfl, D, (by show (0 : Int) < _; omega), fun v H' h0 h1 D1 k1 => ?_⟩
    have hj : v.toNat < xs.length := by omega
    have e : v = ((v.toNat : Nat) : Int) := by omega
    have hg : xs[v.toNat]? = some xs[v.toNat] := List.getElem?_eq_getElem hj
    have fin := q v.toNat _ H' hg D1 k1
    rcases hs H' k1 with hL | hT
    · exact .inl ⟨l, xs, v, _, rfl, rfl, hL, at_of e hg, fin⟩
    · exact .inr (.inl ⟨l, xs, v, _, rfl, rfl, hT, at_of e hg, fin⟩)
end
end Mc
namespace Mc.Cn
open PySem L2 PySem.Spec PyProof.Rows Evl LamX NdefX
/-! the law's world: two sides that share no object -/
/-- the draw, its script apart from what may change -/
def Dz (K : PySem.W.Frag) (d a : Addr) (F : List Addr) (H : Hp) : Prop := ∃ (k : Int) (ns : List Int), H d = some (.lst [.ref a, .int k]) ∧ ns.length ≤ 63 ∧ d ∉ F ∧ ((Rd H a (.lst (ns.map V.int)) ∧ a ≠ d ∧ a ∉ F) ∨ ∀ H', SqL K H' a (ns.map V.int))
section
variable {K : PySem.W.Frag} {CC CK CS : Addr} {TT : List NTab} {d a c ll lt : Addr} {F : List Addr} {g1 g2 g' : Sf} {w1 w2 w' : Cw} {l1 l2 l' : List Ltr} {H H' : Hp}
theorem Dz.mk' {ns : List Int} {j : Int} (hs : SqL K H a (ns.map V.int)) (hl : ns.length ≤ 63) (hd : H d = none) : Dz K d a [] (upd H d (.lst [.ref a, .int j])) := by
  refine ⟨j, ns, upd_same, hl, by simp, ?_⟩
  rcases hs with h | h
  · have na : a ≠ d := fun e => by
      rcases h with h | ⟨o, h⟩
      · rw [e, hd] at h; cases h
      · rw [e, hd] at h; cases h
    exact .inl ⟨h.elim (fun z => .inl (by rw [upd_ne na]; exact z)) fun ⟨o, z⟩ => .inr ⟨o, by rw [upd_ne na]; exact z⟩, na, by simp⟩
  · exact .inr fun H' => .inr h
theorem Dz.dr (D : Dz K d a F H) : Dr K [d] d a H := by
  obtain ⟨k, ns, h1, h2, h3, h4⟩ := D
  refine ⟨⟨k, h1⟩, List.mem_singleton.mpr rfl, ns, h2, fun H' kp => ?_⟩
  rcases h4 with ⟨h, na, _⟩ | h
  · exact .inl (h.elim (fun z => .inl (kp _ _ z (by simpa using na))) fun ⟨o, z⟩ => .inr ⟨o, kp _ _ z (by simpa using na)⟩)
  · exact h H'
theorem Dz.next (D : Dz K d a F H) (D' : Dr K [d] d a H') (kp : Kp [d] H H') : Dz K d a F H' := by
  obtain ⟨k, ns, h1, h2, h3, h4⟩ := D
  obtain ⟨k', h'⟩ := D'.at_
  refine ⟨k', ns, h', h2, h3, ?_⟩
  rcases h4 with ⟨h, na, nf⟩ | h
  · exact .inl ⟨h.elim (fun z => .inl (kp _ _ z (by simpa using na))) fun ⟨o, z⟩ => .inr ⟨o, kp _ _ z (by simpa using na)⟩, na, nf⟩
  · exact .inr h
theorem Dz.far (D : Dz K d a F H) {G F' : List Addr} (k : KpN G H H') (hG : ∀ b ∈ G, b ∈ F) (hF : ∀ b ∈ F', b ∈ F ∨ H b = none) : Dz K d a F' H' := by
  obtain ⟨j, ns, h1, h2, h3, h4⟩ := D
  refine ⟨j, ns, k _ _ h1 (fun m => h3 (hG _ m)) (fun _ z => by cases z), h2, fun m => (hF d m).elim h3 (fun q => by rw [h1] at q; cases q), ?_⟩
  rcases h4 with ⟨h, na, nf⟩ | h
  · refine .inl ⟨h.elim (fun z => .inl (k _ _ z (fun m => nf (hG _ m)) fun _ q => by cases q)) fun ⟨o, z⟩ => .inr ⟨o, k _ _ z (fun m => nf (hG _ m)) fun _ q => by cases q⟩, na, fun m => (hF a m).elim nf fun q => ?_⟩
    rcases h with h | ⟨o, h⟩
    · rw [h] at q; cases q
    · rw [h] at q; cases q
  · exact .inr h
def Fp (c ll : Addr) (g1 g2 : Sf) : List Addr := c :: ll :: (g1.all ++ g2.all)
structure W49 (K : PySem.W.Frag) (CC CK CS : Addr) (TT : List NTab) (d a c ll lt : Addr) (g1 g2 : Sf) (w1 : Cw) (l1 : List Ltr) (w2 : Cw) (l2 : List Ltr) (H : Hp) : Prop where
  dz : Dz K d a (Fp c ll g1 g2) H
  tb : TabsN TT H
  cn : CnAt K CC CK CS H c ll g1 w1 l1
  sd : SdAt K CK CS H g2 w2
  lts : LD K H lt (l2.map Ltr.d)
  dis : ∀ b ∈ g2.all, b ∉ c :: ll :: g1.all
  ol : lt ∉ Fp c ll g1 g2
  nd : lt ≠ d
theorem cn_nt (x : CnAt K CC CK CS H c ll g1 w1 l1) : ∀ b ∈ c :: ll :: g1.all, NoTb H b := by
  intro b hb
  obtain ⟨⟨dx, h1⟩, ⟨us, h2, _⟩, sd, _⟩ := x
  rcases List.mem_cons.mp hb with rfl | hb
  · exact ⟨_, h1, fun _ z => by cases z⟩
  · rcases List.mem_cons.mp hb with rfl | hb
    · exact ⟨_, h2, fun _ z => by cases z⟩
    · exact sd.nt b hb
theorem CnAt.far {F : List Addr} (x : CnAt K CC CK CS H c ll g1 w1 l1) (k : Ks H H') (f : KpN F H H') (n : ∀ b ∈ c :: ll :: g1.all, b ∉ F) : CnAt K CC CK CS H' c ll g1 w1 l1 := by
  obtain ⟨⟨dx, h1⟩, ⟨us, h2, h3⟩, sd, n1, n2⟩ := x
  exact ⟨⟨dx, f _ _ h1 (n _ (.head _)) fun _ z => by cases z⟩, ⟨us, f _ _ h2 (n _ (.tail _ (.head _))) (fun _ z => by cases z), dpA_tp k.tp _ _ (tpAL _) h3⟩, sd.far k f fun b hb => n b (.tail _ (.tail _ hb)), n1, n2⟩
theorem mem_fp {b : Addr} : b ∈ Fp c ll g1 g2 ↔ b ∈ c :: ll :: g1.all ∨ b ∈ g2.all := by
  unfold Fp
  rw [List.mem_cons, List.mem_cons, List.mem_append, List.mem_cons, List.mem_cons]
  constructor
  · rintro (h | h | h | h)
    · exact .inl (.inl h)
    · exact .inl (.inr (.inl h))
    · exact .inl (.inr (.inr h))
    · exact .inr h
  · rintro ((h | h | h) | h)
    · exact .inl h
    · exact .inr (.inl h)
    · exact .inr (.inr (.inl h))
    · exact .inr (.inr (.inr h))
theorem W49.d_at (W : W49 K CC CK CS TT d a c ll lt g1 g2 w1 l1 w2 l2 H) : ∃ k, H d = some (.lst [.ref a, .int k]) := by
  obtain ⟨k, ns, h, _⟩ := W.dz
  exact ⟨k, h⟩
theorem W49.d_off (W : W49 K CC CK CS TT d a c ll lt g1 g2 w1 l1 w2 l2 H) : d ∉ Fp c ll g1 g2 := by
  obtain ⟨k, ns, _, _, h, _⟩ := W.dz
  exact h
theorem W49.draw (W : W49 K CC CK CS TT d a c ll lt g1 g2 w1 l1 w2 l2 H) (D : Dr K [d] d a H') (kp : Kp [d] H H') : W49 K CC CK CS TT d a c ll lt g1 g2 w1 l1 w2 l2 H' := by
  obtain ⟨k0, hd0⟩ := W.d_at
  have nd := W.d_off
  obtain ⟨k1, hd1⟩ := D.at_
  have kn := KpN.kp kp
  have ks : Ks H H' := ⟨fun b xs e => by
    have nb : b ≠ d := fun q => by rw [q] at e; rcases e with e | ⟨o, e⟩ <;> (rw [hd0] at e; cases e)
    exact e.elim (fun z => .inl (kp _ _ z (by simpa using nb))) fun ⟨o, z⟩ => .inr ⟨o, kp _ _ z (by simpa using nb)⟩, fun b xs e => kp _ _ e fun m => by rw [List.mem_singleton.mp m, hd0] at e; cases e⟩
  refine ⟨W.dz.next D kp, fun p hp => ?_, W.cn.far ks kn fun b hb m => nd (mem_fp.mpr (.inl (List.mem_singleton.mp m ▸ hb))), W.sd.far ks kn fun b hb m => nd (mem_fp.mpr (.inr (List.mem_singleton.mp m ▸ hb))), W.lts.stay ks.tp (fun vs z => kp _ _ z (by simpa using W.nd)) (tpAL _), W.dis, W.ol, W.nd⟩
  obtain ⟨ps, e1, e2, e3⟩ := W.tb p hp
  refine ⟨ps, kp _ _ e1 (fun m => by rw [List.mem_singleton.mp m, hd0] at e1; cases e1), e2, fun pos cv hc => ?_⟩
  obtain ⟨q, f1, f2⟩ := e3 pos cv hc
  exact ⟨q, f1, kp _ _ f2 (fun m => by rw [List.mem_singleton.mp m, hd0] at f2; unfold CodeO at f2; cases f2)⟩
theorem W49.ex (W : W49 K CC CK CS TT d a c ll lt g1 g2 w1 l1 w2 l2 H) (x : Ex H H') : W49 K CC CK CS TT d a c ll lt g1 g2 w1 l1 w2 l2 H' :=
  ⟨W.dz.far (G := []) (KpN.same x) (fun _ h => nomatch h) fun _ h => .inl h, TabsN.ext W.tb x, W.cn.same x, W.sd.same x, W.lts.stay (Tp.same x) (fun vs z => x _ _ z) (tpAL _), W.dis, W.ol, W.nd⟩
/-- the own side has changed -/
theorem W49.loc (W : W49 K CC CK CS TT d a c ll lt g1 g2 w1 l1 w2 l2 H) (b : BrP K CK CS TT H g2 w' g' H') : W49 K CC CK CS TT d a c ll lt g1 g' w1 l1 w' l2 H' := by
  obtain ⟨us, hl, _⟩ := id W.lts
  have nl : lt ∉ g2.all := fun m => W.ol (mem_fp.mpr (.inr m))
  have ncn := cn_nt W.cn
  refine ⟨W.dz.far b.kp (fun u h => mem_fp.mpr (.inr h)) fun u h => ?_, b.tb, W.cn.far b.ks b.kp fun u h m => W.dis u m h, b.sd, W.lts.stay b.ks.tp (fun vs z => b.kp _ _ z nl fun _ q => by cases q) (tpAL _), fun u h m => ?_, fun m => ?_, W.nd⟩
  · rcases mem_fp.mp h with h | h
    · exact .inl (mem_fp.mpr (.inl h))
    · exact (b.gro.all u h).imp (fun q => mem_fp.mpr (.inr q)) id
  · rcases b.gro.all u h with q | q
    · exact W.dis u q m
    · obtain ⟨o, ho, _⟩ := ncn u m
      rw [ho] at q; cases q
  · rcases mem_fp.mp m with m | m
    · exact W.ol (mem_fp.mpr (.inl m))
    · rcases b.gro.all _ m with q | q
      · exact nl q
      · rw [hl] at q; cases q
/-- the council has changed -/
theorem W49.cou (W : W49 K CC CK CS TT d a c ll lt g1 g2 w1 l1 w2 l2 H) (b : CnP K CC CK CS TT H c ll g1 w' l' g' H') : W49 K CC CK CS TT d a c ll lt g' g2 w' l' w2 l2 H' := by
  obtain ⟨us, hl, _⟩ := id W.lts
  have nl : lt ∉ c :: ll :: g1.all := fun m => W.ol (mem_fp.mpr (.inl m))
  have nsd := W.sd.nt
  have gm : ∀ u ∈ c :: ll :: g'.all, u ∈ c :: ll :: g1.all ∨ H u = none := fun u h => by
    rcases List.mem_cons.mp h with rfl | h
    · exact .inl (.head _)
    · rcases List.mem_cons.mp h with rfl | h
      · exact .inl (.tail _ (.head _))
      · exact (b.gro.all u h).imp (fun q => .tail _ (.tail _ q)) id
  refine ⟨W.dz.far b.kp (fun u h => mem_fp.mpr (.inl h)) fun u h => ?_, b.tb, b.cn, W.sd.far b.ks b.kp fun u h m => W.dis u h m, W.lts.stay b.ks.tp (fun vs z => b.kp _ _ z nl fun _ q => by cases q) (tpAL _), fun u h m => ?_, fun m => ?_, W.nd⟩
  · rcases mem_fp.mp h with h | h
    · exact (gm u h).imp (fun q => mem_fp.mpr (.inl q)) id
    · exact .inl (mem_fp.mpr (.inr h))
  · rcases gm u m with q | q
    · exact W.dis u h q
    · obtain ⟨o, ho, _⟩ := nsd u h
      rw [ho] at q; cases q
  · rcases mem_fp.mp m with m | m
    · rcases gm _ m with q | q
      · exact nl q
      · rw [hl] at q; cases q
    · exact W.ol (mem_fp.mpr (.inr m))
/-- another list of letters -/
theorem W49.let_ {lt' : Addr} (W : W49 K CC CK CS TT d a c ll lt g1 g2 w1 l1 w2 l2 H) (x : Ex H H') (h0 : H lt' = none) (h : LD K H' lt' (l'.map Ltr.d)) : W49 K CC CK CS TT d a c ll lt' g1 g2 w1 l1 w2 l' H' := by
  have W' := W.ex x
  have nc := cn_nt W.cn
  have ns := W.sd.nt
  refine ⟨W'.dz, W'.tb, W'.cn, W'.sd, h, W.dis, fun m => ?_, fun e => ?_⟩
  · rcases mem_fp.mp m with m | m
    · obtain ⟨o, ho, _⟩ := nc _ m
      rw [ho] at h0; cases h0
    · obtain ⟨o, ho, _⟩ := ns _ m
      rw [ho] at h0; cases h0
  · obtain ⟨k, hk⟩ := W.d_at
    rw [e, hk] at h0; cases h0
end
end Mc.Cn
namespace Mc.Cn
open PySem L2 PySem.Spec PyProof.Rows Evl LamX NdefX
/-! for the law: one sequencer changed, one more, the data of a look -/
section
variable {K : PySem.W.Frag} {CC CK CS : Addr} {TT : List NTab} {H H' H2 : Hp} {g : Sf} {v : Cw}
theorem tabs_kp {b : Addr} {o : HO} (t : TabsN TT H) (kp : Kp [b] H H') (hb : H b = some o) (n1 : ∀ ps, o ≠ .tbl ps) (n2 : ∀ c q, o ≠ CodeO c q) : TabsN TT H' := fun p hp => by
  obtain ⟨ps, e1, e2, e3⟩ := t p hp
  refine ⟨ps, kp _ _ e1 (fun m => by rw [List.mem_singleton.mp m, hb] at e1; exact n1 _ (Option.some.inj e1)), e2, fun pos cv hc => ?_⟩
  obtain ⟨c, f1, f2⟩ := e3 pos cv hc
  exact ⟨c, f1, kp _ _ f2 (fun m => by rw [List.mem_singleton.mp m, hb] at f2; exact n2 _ _ (Option.some.inj f2))⟩
theorem BrP.row {i : Nat} {z : Ft} {s s' : SqS} (x : SdAt K CK CS H g v) (t : TabsN TT H) (hz : g.fs[i]? = some z) (sq0 : SqAt K CS H z s) (sq : SqAt K CS H' z s') (kp : Kp [z.r] H H') (ks : Ks H H') : ∃ g', BrP K CK CS TT H g ⟨v.ks, v.ss.set i s'⟩ g' H' := by
  have f : KpN z.l H H' := (KpN.kp kp).mono fun b hb => by rw [List.mem_singleton.mp hb]; simp [Ft.l]
  obtain ⟨sd, gr⟩ := x.seq hz sq rfl rfl rfl (.inl rfl) f ks
  obtain ⟨us, h1, _⟩ := sq.row
  obtain ⟨us0, h0, _⟩ := sq0.row
  exact ⟨_, sd, gr, f.mono fun b hb => mem_all.mpr (.inr (.inr (.inr ⟨z, List.mem_of_getElem? hz, hb⟩))), ks, Grw.kp kp (by rw [h1]; exact nofun), tabs_kp t kp h0 (fun _ q => by cases q) fun c q e => by unfold CodeO at e; cases e⟩
theorem BrP.hearN {i : Nat} {z z' : Ft} {s' : SqS} (x : SdAt K CK CS H g v) (hz : g.fs[i]? = some z) (sq : SqAt K CS H' z' s') (ea : z'.a = z.a) (ed : z'.d = z.d) (et : z'.t = z.t) (er : z'.r = z.r ∨ H z'.r = none) (f : KpN z.l H H') (ks : Ks H H') (gw : Grw H H') (t : TabsN TT H') : ∃ g', BrP K CK CS TT H g ⟨v.ks, v.ss.set i s'⟩ g' H' := by
  obtain ⟨sd, gr⟩ := x.seq hz sq ea ed et er f ks
  exact ⟨_, sd, gr, f.mono fun b hb => mem_all.mpr (.inr (.inr (.inr ⟨z, List.mem_of_getElem? hz, hb⟩))), ks, gw, t⟩
theorem SqAt.nodup {z : Ft} {s : SqS} (SQ : SqAt K CS H z s) : z.l.Nodup := by
  obtain ⟨⟨dxs, g1⟩, ⟨es, g2, _⟩, ⟨us3, g3, _⟩, g4, g5⟩ := id SQ
  have nar : z.a ≠ z.r := ne_of g1 g2 (by intro e; cases e)
  have nad : z.a ≠ z.d := ne_of g1 g3 (by intro e; cases e)
  have nat : z.a ≠ z.t := ne_of g1 g4 (by intro e; cases e)
  have nrd : z.r ≠ z.d := ne_of g2 g3 (by intro e; cases e)
  have nrt : z.r ≠ z.t := ne_of g2 g4 (by intro e; cases e)
  simp only [Ft.l, List.nodup_cons, List.mem_cons, List.not_mem_nil, or_false, not_or, List.nodup_nil, and_true, not_false_eq_true]
  exact ⟨⟨nar, nad, nat⟩, ⟨nrd, nrt⟩, g5⟩
theorem BrP.push {z : Ft} {s : SqS} (x : SdAt K CK CS H g v) (t : TabsN TT H) (s02 : Same H H2) (SQ : SqAt K CS H2 z s) (new : ∀ b ∈ z.l, H b = none) :
    BrP K CK CS TT H g ⟨v.ks, v.ss ++ [s]⟩ { g with fs := g.fs ++ [z] } (upd H2 g.sl (.lst (g.fs.map (fun z => V.ref z.a) ++ [.ref z.a]))) := by
  have alloc : ∀ b ∈ g.all, H b ≠ none := fun b hb e => by
    obtain ⟨o, ho, _⟩ := x.nt b hb
    rw [ho] at e; cases e
  have sd2 := x.same s02
  have hs2 := sd2.hs
  have kk := Ks.lst (o' := .lst (g.fs.map (fun z => V.ref z.a) ++ [.ref z.a])) hs2
  refine ⟨sd2.push SQ SQ.nodup fun b hb m => alloc b m (new b hb), ⟨rfl, rfl, rfl, fun b hb => ?_, fa_app⟩, (KpN.same s02).trans (KpN.kp (Kp.at (by simp [Sf.all]))), (Ks.same s02).trans kk, fun b hb => Grw.same s02 b (upd_back hb), tabs_lst (TabsN.ext t s02) hs2⟩
  rcases mem_all.mp hb with e | e | m | ⟨u, hu, m⟩
  · exact .inl (mem_all.mpr (.inl e))
  · exact .inl (mem_all.mpr (.inr (.inl e)))
  · exact .inl (mem_all.mpr (.inr (.inr (.inl m))))
  · rcases List.mem_append.mp hu with hu | hu
    · exact .inl (mem_all.mpr (.inr (.inr (.inr ⟨u, hu, m⟩))))
    · rw [List.mem_singleton.mp hu] at m
      exact .inr (new b m)
theorem sd_new {D S : Addr} {as : List Addr} {many : Nat} (hD : H D = some (.lst (as.map V.ref))) (hS : H S = some (.lst [])) (pk : Paired (fun a k => KeAt K CK H a k) as ((List.range many).map KeS.new)) (nd : as.Nodup) (n1 : D ∉ as) (n2 : S ∉ as) (n3 : D ≠ S) : SdAt K CK CS H ⟨D, S, as, []⟩ ⟨(List.range many).map KeS.new, []⟩ := by
  refine ⟨hD, hS, pk, .nil, ?_⟩
  show (D :: S :: (as ++ [])).Nodup
  rw [List.append_nil]
  exact List.nodup_cons.mpr ⟨fun m => (List.mem_cons.mp m).elim n3 n1, List.nodup_cons.mpr ⟨n2, nd⟩⟩
end
theorem hear_ref (s : SqS) : s.hear (.refused s.ep 0 (s.ep + 1)) = s.stop := by
  unfold SqS.hear
  by_cases h : s.st = .stopped
  · rw [if_pos (.inr h)]
    cases s
    cases h
    rfl
  · rw [if_neg fun q => q.elim (fun q => q rfl) h]; rfl
theorem cw_new {B many : Nat} : CwOk B many ⟨(List.range many).map KeS.new, []⟩ := by
  refine ⟨by rw [List.length_map, List.length_range], fun i k e => ?_, fun s h => nomatch h⟩
  rw [List.getElem?_map] at e
  obtain ⟨n, hn, rfl⟩ := Option.map_eq_some_iff.mp e
  obtain ⟨hl, e2⟩ := List.getElem?_eq_some_iff.mp hn
  rw [List.getElem_range] at e2
  subst e2
  exact KOk.new
theorem CwOk.setS {B B' many i : Nat} {v : Cw} {s' : SqS} (h : CwOk B many v) (b : B ≤ B') (hs : SOk B' many s') : CwOk B' many ⟨v.ks, v.ss.set i s'⟩ := by
  refine ⟨h.len, fun j k e => (h.ks j k e).mono b, fun s m => ?_⟩
  rcases List.mem_or_eq_of_mem_set m with m | rfl
  · exact (h.ss s m).mono b
  · exact hs
theorem CwOk.addS {B many : Nat} {v : Cw} {s' : SqS} (h : CwOk B many v) (hs : SOk B many s') : CwOk B many ⟨v.ks, v.ss ++ [s']⟩ := by
  refine ⟨h.len, h.ks, fun s m => ?_⟩
  rcases List.mem_append.mp m with m | m
  · exact h.ss s m
  · rw [List.mem_singleton.mp m]; exact hs
/-! the looks are data that can be compared -/
theorem sdT (xs : List PyData) : sdD (.tuple xs) = sdA xs := by rw [sdD]
theorem sdL (xs : List PyData) : sdD (.list xs) = sdA xs := by rw [sdD]
theorem sdI (i : Int) : sdD (.int i) = true := by rw [sdD]
theorem sd_pair {q : Int × En} (h : q.2.ok) : sdD (pairD q) = true := by
  show sdD (.tuple [.int q.1, q.2.d]) = true
  rw [sdT, sdA, sdA, sdI, En.sd h]; rfl
theorem sd_rec {r : Rec} (h : r.ok) : sdD r.d = true := by
  cases r with
  | prom e =>
    show sdD (.tuple [.str "promise", .int e]) = true
    rw [sdT, sdA, sdA, sdI]; decide +kernel
  | take e p x =>
    show sdD (.tuple [.str "take", .int e, .int p, x.d]) = true
    rw [sdT, sdA, sdA, sdA, sdA, sdI, sdI, En.sd h]; decide +kernel
theorem sd_ltr {B : Nat} {l : Ltr} (h : l.in_ B) : sdD l.d = true := by
  cases l with
  | ask e n => show sdD (.tuple [.str "ask", .int e, .int n]) = true; rw [sdT, sdA, sdA, sdA, sdI, sdI]; decide +kernel
  | write e n p x => show sdD (.tuple [.str "write", .int e, .int n, .int p, x.d]) = true; rw [sdT, sdA, sdA, sdA, sdA, sdA, sdI, sdI, sdI, En.sd h]; decide +kernel
  | refused e n k => show sdD (.tuple [.str "refused", .int e, .int n, .int k]) = true; rw [sdT, sdA, sdA, sdA, sdA, sdI, sdI, sdI]; decide +kernel
  | told e n r =>
    show sdD (.tuple [.str "told", .int e, .int n, rowD r]) = true
    have : sdD (rowD r) = true := by
      show sdD (.tuple (r.map pairD)) = true
      rw [sdT]
      exact sdA_map fun q hq => sd_pair (h.2 q hq)
    rw [sdT, sdA, sdA, sdA, sdA, sdI, sdI, this]; decide +kernel
  | taken e n p => show sdD (.tuple [.str "taken", .int e, .int n, .int p]) = true; rw [sdT, sdA, sdA, sdA, sdA, sdI, sdI, sdI]; decide +kernel
theorem depT {n : Nat} {xs : List PyData} (h : ∀ x ∈ xs, x.depth ≤ n) : (PyData.tuple xs).depth ≤ n + 1 := by
  have e := depA_map (f := fun x : PyData => x) (xs := xs) (n := n) h
  rw [List.map_id'] at e
  rw [PyData.depth]
  omega
theorem depL {n : Nat} {xs : List PyData} (h : ∀ x ∈ xs, x.depth ≤ n) : (PyData.list xs).depth ≤ n + 1 := by
  have e := depA_map (f := fun x : PyData => x) (xs := xs) (n := n) h
  rw [List.map_id'] at e
  rw [PyData.depth]
  omega
theorem dI (i : Int) (n : Nat) : (PyData.int i).depth ≤ n := by rw [PyData.depth]; exact Nat.zero_le _
theorem dS (x : PySem.Str) (n : Nat) : (PyData.str x).depth ≤ n := by rw [PyData.depth]; exact Nat.zero_le _
theorem dep_pair (q : Int × En) : (pairD q).depth ≤ 2 := depT fun x hx => by
  simp only [List.mem_cons, List.not_mem_nil, or_false] at hx
  rcases hx with rfl | rfl
  · exact dI _ _
  · exact En.dep _
theorem dep_rec (r : Rec) : r.d.depth ≤ 4 := by
  cases r with
  | prom e => exact Nat.le_trans (depT (n := 1) fun x hx => by simp only [List.mem_cons, List.not_mem_nil, or_false] at hx; rcases hx with rfl | rfl <;> first | exact dS _ _ | exact dI _ _) (by decide)
  | take e p y => exact Nat.le_trans (depT (n := 1) fun x hx => by
      simp only [List.mem_cons, List.not_mem_nil, or_false] at hx
      rcases hx with rfl | rfl | rfl | rfl
      · exact dS _ _
      · exact dI _ _
      · exact dI _ _
      · exact En.dep _) (by decide)
theorem dep_ltr (l : Ltr) : l.d.depth ≤ 4 := by
  cases l with
  | told e n r =>
    exact depT (n := 3) fun x hx => by
      simp only [List.mem_cons, List.not_mem_nil, or_false] at hx
      rcases hx with rfl | rfl | rfl | rfl
      · exact dS _ _
      · exact dI _ _
      · exact dI _ _
      · exact depT (n := 2) fun y hy => by
          obtain ⟨q, _, rfl⟩ := List.mem_map.mp hy
          exact dep_pair q
  | write e n p y => exact Nat.le_trans (depT (n := 1) fun x hx => by
      simp only [List.mem_cons, List.not_mem_nil, or_false] at hx
      rcases hx with rfl | rfl | rfl | rfl | rfl
      · exact dS _ _
      · exact dI _ _
      · exact dI _ _
      · exact dI _ _
      · exact En.dep _) (by decide)
  | ask e n => exact Nat.le_trans (depT (n := 1) fun x hx => by simp only [List.mem_cons, List.not_mem_nil, or_false] at hx; rcases hx with rfl | rfl | rfl <;> first | exact dS _ _ | exact dI _ _) (by decide)
  | refused e n k => exact Nat.le_trans (depT (n := 1) fun x hx => by simp only [List.mem_cons, List.not_mem_nil, or_false] at hx; rcases hx with rfl | rfl | rfl | rfl <;> first | exact dS _ _ | exact dI _ _) (by decide)
  | taken e n p => exact Nat.le_trans (depT (n := 1) fun x hx => by simp only [List.mem_cons, List.not_mem_nil, or_false] at hx; rcases hx with rfl | rfl | rfl | rfl <;> first | exact dS _ _ | exact dI _ _) (by decide)
theorem sd_ltrs {B many : Nat} {ls : List Ltr} (h : ∀ l ∈ ls, l.ok B many) : sdD (.list (ls.map Ltr.d)) = true ∧ (PyData.list (ls.map Ltr.d)).depth ≤ 64 := by
  refine ⟨by rw [sdL]; exact sdA_map fun l hl => sd_ltr (h l hl).2, Nat.le_trans (depL (n := 4) fun x hx => ?_) (by decide)⟩
  obtain ⟨l, _, rfl⟩ := List.mem_map.mp hx
  exact dep_ltr l
end Mc.Cn
namespace Mc
open PySem L2 PySem.Spec PyProof.Rows Evl
/-! x in t, x not in t: t a tuple of data -/
def rInDT (K : PySem.W.Frag) : R2 := fun x y H Q => ∃ d ds b, Dp K H x d ∧ Dp K H y (.tuple ds) ∧ sdD d = true ∧ sdA ds = true ∧ d.depth ≤ 62 ∧ (b = true ↔ d ∈ ds) ∧ Q (.bl b) H
def rNinDT (K : PySem.W.Frag) : R2 := fun x y H Q => ∃ d ds b, Dp K H x d ∧ Dp K H y (.tuple ds) ∧ sdD d = true ∧ sdA ds = true ∧ d.depth ≤ 62 ∧ (b = true ↔ d ∈ ds) ∧ Q (.bl (!b)) H
theorem sdA_mem : ∀ {ds : List PyData}, sdA ds = true → ∀ d ∈ ds, sdD d = true
  | [], _, d, hd => nomatch hd
  | e :: ds, h, d, hd => by
    rw [sdA, Bool.and_eq_true] at h
    rcases List.mem_cons.mp hd with rfl | hd
    · exact h.1
    · exact sdA_mem h.2 d hd
theorem any_eqv {d : PyData} {ds : List PyData} {b : Bool} (sd : sdD d = true) (se : sdA ds = true) (hb : b = true ↔ d ∈ ds) : (ds.any fun z => PyData.eqv z d) = b := by
  cases b with
  | true =>
    exact List.any_eq_true.mpr ⟨d, hb.mp rfl, (eqv_sd d d sd sd).mpr rfl⟩
  | false =>
    rw [← Bool.not_eq_true, List.any_eq_true]
    rintro ⟨z, hz, e⟩
    have := (eqv_sd z d (sdA_mem se z hz) sd).mp e
    rw [this] at hz
    exact absurd (hb.mpr hz) (by decide)
section
variable {X : Cx} {K : PySem.W.Frag}
theorem op_inDT (hK : X.K = K) (hu : X.A.units + 64 < cLine) : OpR X (compareOp .In) (rInDT K) := by
  subst hK
  intro pins s σ H x y v u Q I rx ry h
  obtain ⟨d, ds, b, hd, he, sd, se, nd, hb, q⟩ := h
  obtain ⟨as, r1⟩ := Dp.reads I d x v hd rx
  obtain ⟨bs, r2⟩ := Dp.reads I (.tuple ds) y u he ry
  refine SeqAt.in_tuple_reads r2 r1 (sdA_lay ds se) (sdD_lay d sd) (by have := Nat.min_le_right (PyData.depthAll ds) d.depth; omega) ?_
  rw [any_eqv sd se hb]
  exact ⟨.bl _, H, I, rfl, q⟩
theorem op_ninDT (hK : X.K = K) (hu : X.A.units + 64 < cLine) : OpR X (compareOp .NotIn) (rNinDT K) := by
  subst hK
  intro pins s σ H x y v u Q I rx ry h
  obtain ⟨d, ds, b, hd, he, sd, se, nd, hb, q⟩ := h
  obtain ⟨as, r1⟩ := Dp.reads I d x v hd rx
  obtain ⟨bs, r2⟩ := Dp.reads I (.tuple ds) y u he ry
  refine SeqAt.notIn_tuple_reads r2 r1 (sdA_lay ds se) (sdD_lay d sd) (by have := Nat.min_le_right (PyData.depthAll ds) d.depth; omega) ?_
  rw [any_eqv sd se hb]
  exact ⟨.bl _, H, I, rfl, q⟩
end
end Mc
/-! the mathematics of combinations: all parts of so many items, in the order of their places -/
namespace Cmb
/-- the next places -/
def nextC (n : Nat) (idx : List Nat) : Option (List Nat) :=
  let r := idx.length
  match (List.range r).reverse.find? fun i => idx.getD i 0 != i + n - r with
  | none => none
  | some i => some (idx.take i ++ (List.range (r - i)).map (idx.getD i 0 + 1 + ·))
/-- what is handed out still -/
inductive Rst (n : Nat) : Int → List Nat → List (List Nat) → Prop
  | fst {idx : List Nat} {l : List (List Nat)} : Rst n 1 idx l → Rst n 0 idx (idx :: l)
  | nxt {idx nx : List Nat} {l : List (List Nat)} : nextC n idx = some nx → Rst n 1 nx l → Rst n 1 idx (nx :: l)
  | nil {idx : List Nat} : nextC n idx = none → Rst n 1 idx []
  | fin {idx : List Nat} : Rst n 2 idx []
/-- all parts of r items -/
def cmb {α : Type} : Nat → List α → List (List α)
  | 0, _ => [[]]
  | _ + 1, [] => []
  | r + 1, x :: xs => (cmb r xs).map (x :: ·) ++ cmb (r + 1) xs
theorem range_succ_rev (r : Nat) : (List.range (r + 1)).reverse = ((List.range r).map (· + 1)).reverse ++ [0] := by
  rw [List.range_succ_eq_map, List.reverse_cons]
theorem next_cons (n f : Nat) (s : List Nat) (hn : s.length + 1 ≤ n) : nextC n (f :: s) = match nextC n s with
    | some s' => some (f :: s')
    | none => if f ≠ n - (s.length + 1) then some (List.range' (f + 1) (s.length + 1)) else none := by
  unfold nextC
  simp only [List.length_cons]
  rw [range_succ_rev, List.find?_append, ← List.map_reverse, List.find?_map]
  have e : ((fun i => (f :: s).getD i 0 != i + n - (s.length + 1)) ∘ fun x => x + 1) = fun i => s.getD i 0 != i + n - s.length := by
    funext i
    show ((f :: s).getD (i + 1) 0 != i + 1 + n - (s.length + 1)) = _
    rw [List.getD_cons_succ, show i + 1 + n - (s.length + 1) = i + n - s.length from by omega]
  rw [e]
  cases h : (List.range s.length).reverse.find? fun i => s.getD i 0 != i + n - s.length with
  | some i =>
    show some _ = some _
    congr 1
    show List.take (i + 1) (f :: s) ++ List.map (fun x => (f :: s).getD (i + 1) 0 + 1 + x) (List.range (s.length + 1 - (i + 1))) = f :: (s.take i ++ _)
    rw [List.take_succ_cons, List.getD_cons_succ, show s.length + 1 - (i + 1) = s.length - i from by omega]
    rfl
  | none =>
    show (match (Option.map (fun x => x + 1) none).or (List.find? (fun i => (f :: s).getD i 0 != i + n - (s.length + 1)) [0]) with | none => none | some i => _) = _
    have e0 : List.find? (fun i => (f :: s).getD i 0 != i + n - (s.length + 1)) [0] = if f ≠ n - (s.length + 1) then some 0 else none := by
      rw [List.find?_cons]
      show (match (f != 0 + n - (s.length + 1)) with | true => some 0 | false => _) = _
      rw [Nat.zero_add]
      by_cases q : f = n - (s.length + 1)
      · rw [if_neg (fun z => z q), show (f != n - (s.length + 1)) = false from by simp [q]]; rfl
      · rw [if_pos q, show (f != n - (s.length + 1)) = true from by simp [q]]
    rw [e0]
    by_cases q : f = n - (s.length + 1)
    · rw [if_neg (fun z => z q)]; simp [q]
    · rw [if_pos q, if_pos q]
      show some (List.take 0 (f :: s) ++ (List.range (s.length + 1 - 0)).map fun x => (f :: s).getD 0 0 + 1 + x) = _
      congr 1
      show ([] : List Nat) ++ (List.range (s.length + 1)).map (fun x => f + 1 + x) = _
      rw [List.nil_append, List.range'_eq_map_range]
theorem next_len {n : Nat} {s s' : List Nat} (h : nextC n s = some s') : s'.length = s.length := by
  unfold nextC at h
  simp only at h
  split at h
  · cases h
  · rename_i i hi
    have hm := List.mem_of_find?_eq_some hi
    have hl : i < s.length := by simpa using hm
    cases h
    rw [List.length_append, List.length_take, List.length_map, List.length_range]
    omega
theorem rst_cons {n lo : Nat} {T : List (List Nat)} : ∀ {s : List Nat} {tl : List (List Nat)} {r : Nat}, Rst n 1 s tl → s.length = r → r + 1 ≤ n →
    (lo ≠ n - (r + 1) → ∃ T', T = List.range' (lo + 1) (r + 1) :: T' ∧ Rst n 1 (List.range' (lo + 1) (r + 1)) T') → (lo = n - (r + 1) → T = []) → Rst n 1 (lo :: s) (tl.map (lo :: ·) ++ T) := by
  intro s tl
  induction tl generalizing s with
  | nil =>
    intro r h hl hn h1 h2
    have hnone : nextC n s = none := by cases h with | nil q => exact q
    have e := next_cons n lo s (by omega)
    rw [hnone, hl] at e
    by_cases q : lo = n - (r + 1)
    · rw [h2 q]
      exact .nil (by rw [e]; exact if_neg fun z => z q)
    · obtain ⟨T', rfl, hT⟩ := h1 q
      exact .nxt (by rw [e]; exact if_pos q) hT
  | cons nx tl ih =>
    intro r h hl hn h1 h2
    cases h with
    | nxt q k =>
      have e := next_cons n lo s (by omega)
      rw [q] at e
      exact .nxt e (ih k ((next_len q).trans hl) hn h1 h2)
theorem cmb_long {α : Type} : ∀ (xs : List α) (r : Nat), xs.length < r → cmb r xs = []
  | [], 0, h => by cases h
  | [], _ + 1, _ => rfl
  | _ :: _, 0, h => by cases h
  | x :: xs, r + 1, h => by
    have h' : xs.length < r := Nat.lt_of_succ_lt_succ h
    show (cmb r xs).map (x :: ·) ++ cmb (r + 1) xs = []
    rw [cmb_long xs r h', cmb_long xs (r + 1) (Nat.lt_succ_of_lt h')]; rfl
theorem rst_cmb (n : Nat) : ∀ (m lo r : Nat), lo + m = n → r ≤ m → ∃ tl, cmb r (List.range' lo m) = List.range' lo r :: tl ∧ Rst n 1 (List.range' lo r) tl
  | m, lo, 0, _, _ => ⟨[], by cases m <;> rfl, .nil rfl⟩
  | 0, _, _ + 1, _, h => by cases h
  | m + 1, lo, r + 1, e, h => by
    obtain ⟨tl, e1, R1⟩ := rst_cmb n m (lo + 1) r (by omega) (by omega)
    have ec : cmb (r + 1) (List.range' lo (m + 1)) = (cmb r (List.range' (lo + 1) m)).map (lo :: ·) ++ cmb (r + 1) (List.range' (lo + 1) m) := rfl
    rw [ec, e1]
    refine ⟨tl.map (lo :: ·) ++ cmb (r + 1) (List.range' (lo + 1) m), rfl, ?_⟩
    refine rst_cons (r := r) R1 (by simp) (by omega) (fun q => ?_) fun q => cmb_long _ _ (by simp; omega)
    obtain ⟨T', e2, R2⟩ := rst_cmb n m (lo + 1) (r + 1) (by omega) (by omega)
    exact ⟨T', e2, R2⟩
theorem rst_all (n r : Nat) (h : r ≤ n) : Rst n 0 (List.range r) (cmb r (List.range n)) := by
  obtain ⟨tl, e, R⟩ := rst_cmb n n 0 r (by omega) h
  rw [List.range_eq_range', List.range_eq_range', e]
  exact .fst R
theorem cmb_map {α β : Type} (f : α → β) : ∀ (r : Nat) (xs : List α), cmb r (xs.map f) = (cmb r xs).map (·.map f)
  | 0, xs => by cases xs <;> rfl
  | _ + 1, [] => rfl
  | r + 1, x :: xs => by
    show (cmb r (xs.map f)).map (f x :: ·) ++ cmb (r + 1) (xs.map f) = ((cmb r xs).map (x :: ·) ++ cmb (r + 1) xs).map (·.map f)
    rw [cmb_map f r xs, cmb_map f (r + 1) xs, List.map_append, List.map_map, List.map_map]; rfl
theorem mem_cmb {α : Type} {l : List α} : ∀ {r : Nat} {xs : List α}, l ∈ cmb r xs ↔ l.Sublist xs ∧ l.length = r
  | 0, xs => by
    have e : cmb 0 xs = [[]] := by cases xs <;> rfl
    rw [e, List.mem_singleton]
    exact ⟨fun h => by rw [h]; exact ⟨List.nil_sublist _, rfl⟩, fun h => List.length_eq_zero_iff.mp h.2⟩
  | _ + 1, [] => ⟨fun h => (nomatch h), fun h => by
    have := List.sublist_nil.mp h.1
    rw [this] at h; exact nomatch h.2⟩
  | r + 1, x :: xs => by
    show l ∈ (cmb r xs).map (x :: ·) ++ cmb (r + 1) xs ↔ _
    rw [List.mem_append, List.mem_map]
    constructor
    · rintro (⟨k, hk, rfl⟩ | h)
      · obtain ⟨a, b⟩ := mem_cmb.mp hk
        exact ⟨a.cons_cons x, by simp [b]⟩
      · obtain ⟨a, b⟩ := mem_cmb.mp h
        exact ⟨a.cons x, b⟩
    · rintro ⟨a, b⟩
      cases a with
      | cons _ a => exact .inr (mem_cmb.mpr ⟨a, b⟩)
      | cons_cons _ a => exact .inl ⟨_, mem_cmb.mpr ⟨a, Nat.succ.inj b⟩, rfl⟩
/-- the order of rows of the same length -/
inductive LexR {α : Type} (lt : α → α → Prop) : List α → List α → Prop
  | head {a b : α} {x y : List α} : lt a b → LexR lt (a :: x) (b :: y)
  | tail {a : α} {x y : List α} : LexR lt x y → LexR lt (a :: x) (a :: y)
theorem cmb_asc {α : Type} {lt : α → α → Prop} : ∀ (r : Nat) (xs : List α), xs.Pairwise lt → (cmb r xs).Pairwise (LexR lt)
  | 0, xs, _ => by
    have e : cmb 0 xs = [[]] := by cases xs <;> rfl
    rw [e]; exact List.pairwise_singleton _ _
  | _ + 1, [], _ => .nil
  | r + 1, x :: xs, h => by
    obtain ⟨h1, h2⟩ := List.pairwise_cons.mp h
    refine List.pairwise_append.mpr ⟨List.pairwise_map.mpr ((cmb_asc r xs h2).imp fun q => .tail q), cmb_asc (r + 1) xs h2, fun a ha b hb => ?_⟩
    obtain ⟨k, _, rfl⟩ := List.mem_map.mp ha
    obtain ⟨sb, lb⟩ := mem_cmb.mp hb
    cases b with
    | nil => cases lb
    | cons y b => exact .head (h1 y (sb.subset List.mem_cons_self))
end Cmb
namespace Mc
open PySem L2 PySem.Spec PyProof.Rows Evl
/-! < of pairs (a number, a list of texts); x not in a list of data -/
/-- (a number, a list of texts), (a list of texts, a number) -/
def pD8 (l : Int) (xs : List PySem.Str) : PyData := .tuple [.int l, .list (xs.map PyData.str)]
def qD8 (xs : List PySem.Str) (l : Int) : PyData := .tuple [.list (xs.map PyData.str), .int l]
theorem depS8 : ∀ xs : List PySem.Str, PyData.depthAll (xs.map PyData.str) = 0
  | [] => by simp [PyData.depthAll]
  | x :: xs => by
    have := depS8 xs
    simp [PyData.depthAll, PyData.depth] at this ⊢
    exact this
theorem dep_pD8 (l : Int) (xs : List PySem.Str) : (pD8 l xs).depth = 2 := by
  have := depS8 xs
  simp [pD8, PyData.depth, PyData.depthAll, this]
theorem dep_qD8 (l : Int) (xs : List PySem.Str) : (qD8 xs l).depth = 2 := by
  have := depS8 xs
  simp [qD8, PyData.depth, PyData.depthAll, this]
theorem str_inj8 : ∀ {xs ys : List PySem.Str}, xs.map PyData.str = ys.map PyData.str → xs = ys
  | [], [], _ => rfl
  | [], _ :: _, h => nomatch h
  | _ :: _, [], h => nomatch h
  | x :: xs, y :: ys, h => by
    injection h with h1 h2
    injection h1 with h1
    rw [h1, str_inj8 h2]
theorem qD8_inj {xs ys : List PySem.Str} {l m : Int} (h : qD8 xs l = qD8 ys m) : xs = ys ∧ l = m := by
  unfold qD8 at h
  injection h with h
  injection h with h1 h2
  injection h1 with h1
  injection h2 with h2 _
  injection h2 with h2
  exact ⟨str_inj8 h1, h2⟩
theorem sdS8 : ∀ {xs : List PySem.Str}, (∀ x ∈ xs, PyData.strOk x = true) → sdA (xs.map PyData.str) = true
  | [], _ => by simp [sdA]
  | x :: xs, h => by
    show sdA (PyData.str x :: xs.map PyData.str) = true
    rw [sdA, sdD, h x List.mem_cons_self, sdS8 fun y hy => h y (List.mem_cons_of_mem _ hy)]
    rfl
theorem sd_qD8 {xs : List PySem.Str} {l : Int} (h : ∀ x ∈ xs, PyData.strOk x = true) : sdD (qD8 xs l) = true := by
  unfold qD8
  rw [sdD, sdA, sdD, sdS8 h, sdA, sdD, sdA]
  rfl
theorem dpS8 (K : PySem.W.Frag) (H : Hp) : ∀ xs : List PySem.Str, DpAll K H (xs.map V.str) (xs.map PyData.str)
  | [] => .nil
  | x :: xs => .cons (.str x) (dpS8 K H xs)
theorem dp_pD8 {K : PySem.W.Frag} {H : Hp} {t p : Addr} {l : Int} {xs : List PySem.Str} (ht : SqT K H t [.int l, .ref p]) (hp : SqL K H p (xs.map V.str)) : Dp K H (.ref t) (pD8 l xs) :=
  .tup ht (.cons (.int l) (.cons (.lst hp (dpS8 K H xs)) .nil))
theorem dp_qD8 {K : PySem.W.Frag} {H : Hp} {t p : Addr} {l : Int} {xs : List PySem.Str} (ht : SqT K H t [.ref p, .int l]) (hp : SqL K H p (xs.map V.str)) : Dp K H (.ref t) (qD8 xs l) :=
  .tup ht (.cons (.lst hp (dpS8 K H xs)) (.cons (.int l) .nil))
def lt8 (l : Int) (xs : List PySem.Str) (m : Int) (ys : List PySem.Str) : Bool := PySem.W.DatumOrd.lt (l, xs) (m, ys)
def rLt8 (K : PySem.W.Frag) : R2 := fun x y H Q => ∃ (l m : Int) (xs ys : List PySem.Str), Dp K H x (pD8 l xs) ∧ Dp K H y (pD8 m ys) ∧ Q (.bl (lt8 l xs m ys)) H
def rNinDL (K : PySem.W.Frag) : R2 := fun x y H Q => ∃ d ds b, Dp K H x d ∧ Dp K H y (.list ds) ∧ sdD d = true ∧ sdA ds = true ∧ d.depth ≤ 62 ∧ (b = true ↔ d ∈ ds) ∧ Q (.bl (!b)) H
/-- rows in their order: the shorter first, then by the first difference -/
theorem lt8_asc {xs ys : List PySem.Str} (hl : xs.length = ys.length) : lt8 xs.length xs ys.length ys = true ↔ Cmb.LexR (fun a b => a.cps.toList < b.cps.toList) xs ys := by
  have e : lt8 xs.length xs ys.length ys = PySem.W.listLt xs ys := by
    show (if (xs.length : Int) = (ys.length : Int) then PySem.W.DatumOrd.lt xs ys else _) = _
    rw [if_pos (by rw [hl])]
    rfl
  rw [e]
  clear e
  induction xs generalizing ys with
  | nil =>
    cases ys with
    | nil => exact ⟨fun h => (nomatch h), fun h => (nomatch h)⟩
    | cons => cases hl
  | cons x xs ih =>
    cases ys with
    | nil => cases hl
    | cons y ys =>
      have ih := ih (ys := ys) (Nat.succ.inj hl)
      rw [PySem.W.listLt]
      by_cases h : x = y
      · subst h
        rw [if_pos rfl]
        exact ⟨fun h => .tail (ih.mp h), fun h => by
          cases h with
          | head h => exact absurd h (List.lt_irrefl _)
          | tail h => exact ih.mpr h⟩
      · rw [if_neg h]
        exact ⟨fun h => .head (of_decide_eq_true h), fun k => by
          cases k with
          | head k => exact decide_eq_true k
          | tail k => exact absurd rfl h⟩
theorem lt8_len {xs ys : List PySem.Str} (hl : xs.length ≠ ys.length) : lt8 xs.length xs ys.length ys = decide (xs.length < ys.length) := by
  show (if (xs.length : Int) = (ys.length : Int) then _ else PySem.W.DatumOrd.lt (xs.length : Int) (ys.length : Int)) = _
  rw [if_neg (by omega)]
  show decide ((xs.length : Int) < (ys.length : Int)) = _
  simp
section
variable {X : Cx} {K : PySem.W.Frag}
theorem op_lt8 (hK : X.K = K) (hu : X.A.units + 64 < cLine) : OpR X (compareOp .Lt) (rLt8 K) := by
  subst hK
  intro pins s σ H x y v u Q I rx ry h
  obtain ⟨l, m, xs, ys, hd, he, q⟩ := h
  obtain ⟨as, r1⟩ := Dp.reads I _ x v hd rx
  obtain ⟨bs, r2⟩ := Dp.reads I _ y u he ry
  refine PySem.W.lt_data r1 r2 (PySem.W.DatumOrd.alike (l, xs) (m, ys)) (by intro e; cases e) (by rw [dep_pD8, dep_pD8]; omega) ?_
  rw [show PySem.W.dataLt (pD8 l xs) (pD8 m ys) = lt8 l xs m ys from PySem.W.DatumOrd.lt_eq (l, xs) (m, ys)]
  exact ⟨.bl _, H, I, rfl, q⟩
theorem op_ninDL (hK : X.K = K) (hu : X.A.units + 64 < cLine) : OpR X (compareOp .NotIn) (rNinDL K) := by
  subst hK
  intro pins s σ H x y v u Q I rx ry h
  obtain ⟨d, ds, b, hd, he, sd, se, nd, hb, q⟩ := h
  obtain ⟨as, r1⟩ := Dp.reads I d x v hd rx
  obtain ⟨bs, r2⟩ := Dp.reads I (.list ds) y u he ry
  refine SeqAt.notIn_list_reads r2 r1 (sdA_lay ds se) (sdD_lay d sd) (by have := Nat.min_le_right (PyData.depthAll ds) d.depth; omega) ?_
  rw [any_eqv sd se hb]
  exact ⟨.bl _, H, I, rfl, q⟩
end
end Mc
namespace Mc
open PySem L2 PySem.Spec PyProof.Rows Evl
def tTru (K : PySem.W.Frag) (ta : TE) : TT := fun σ H Q => ta σ H fun x H' => ∃ k, TruV K x H' k ∧ Q k H'
theorem pt_truthK {X : Cx} {K : PySem.W.Frag} {a : Expr} {ta : TE} (h : X.K = K) (ha : PE X a ta) (he : ∀ whole, isTrue a X.env whole = (do let v ← whole; standAt a.pos; holding [v] (truthy v))) : L2.PT X a (tTru K ta) := by
  subst h
  exact pt_truth ha he
section
variable {X : Cx} {K : PySem.W.Frag} {o e : Expr} {es : List Expr} {to : TE} {t : TA} {name : PySem.Str} {apos cpos : Pos} {T id : String} {r : V → List V → Hp → VK → Prop}
theorem pe_bmK (h : X.K = K) (pa : PlainAttrs T) (slot : Slot T name id) (hty : typeOf (.builtin id) = pure (.type "method_descriptor")) (hm : MtR X id r) (ho : PE X o to) (ha : PA X (e :: es) t)
    (hbase : attributeBase o name X.env (eval o X.env) = eval o X.env := by rfl)
    (hfew : ((backTo cpos (starEach (e :: es) X.env)).all (fun x => !x.1) && (backToKw cpos (keywordEach [] X.env)).all (fun x => x.1.isSome)
      && decide ((e :: es).length + ([] : List Keyword).length + (if ([] : List Keyword).isEmpty then 0 else 1) < 30)) = true := by rfl)
    (hline : (apos.endLine == cpos.line) = true := by rfl) (hs : starEach (e :: es) X.env = (false, eval e X.env) :: starEach es X.env := by rfl) (hplain : (backTo cpos (starEach es X.env)).any (·.1) = false := by rfl) :
    PE X (.Call (.Attribute o name apos) (e :: es) [] cpos) (tBM K T r to t) := by
  subst h
  exact pe_bm pa slot hty hm ho ha hbase hfew hline hs hplain
end
theorem et_truT {K : PySem.W.Frag} {te : TE} {σ : L2.St} {H : Hp} {a : Addr} {xs : List V} (h : Ev te σ H (.ref a)) (hx : SqT K H a xs) : EvT (tTru K te) σ H (!xs.isEmpty) := fun H1 e Q q => h H1 e _ fun H2 e2 => ⟨_, .inr (.inl ⟨xs, ex_t (e.trans e2) hx, rfl⟩), q H2 e2⟩
end Mc
namespace Mc.Cn
open PySem L2 PySem.Spec PyProof.Rows
/-! ### why no two entries are ever settled at one place -/
def KeS.recs (k : KeS) : List Rec := k.rs ++ k.lo
def KeS.dur (k : KeS) : Int := (Kn.new.all k.rs).ep
theorem KeS.kn_all (k : KeS) : k.kn = Kn.new.all k.recs := rfl
theorem ep_step {k : Kn} {r : Rec} : k.ep ≤ (k.step r).ep ∧ r.ep ≤ (k.step r).ep := by
  cases r with
  | prom e => show k.ep ≤ (if e > k.ep then e else k.ep) ∧ e ≤ (if e > k.ep then e else k.ep); split <;> omega
  | take e p x => show k.ep ≤ (if e > k.ep then e else k.ep) ∧ e ≤ (if e > k.ep then e else k.ep); split <;> omega
theorem ep_all : ∀ {rs : List Rec} {k : Kn}, k.ep ≤ (k.all rs).ep ∧ ∀ r ∈ rs, r.ep ≤ (k.all rs).ep
  | [], k => ⟨Int.le_refl _, fun _ h => nomatch h⟩
  | r :: rs, k => by
    have ih := ep_all (rs := rs) (k := k.step r)
    have st := ep_step (k := k) (r := r)
    refine ⟨Int.le_trans st.1 ih.1, fun x hx => ?_⟩
    rcases List.mem_cons.mp hx with rfl | hx
    · exact Int.le_trans st.2 ih.1
    · exact ih.2 x hx
theorem KeS.dur_le (k : KeS) : k.dur ≤ k.kn.ep := by
  unfold KeS.dur KeS.kn
  rw [Kn.all_app]
  exact ep_all.1
theorem put_get {k : Kn} {e : Int} {p j : Nat} {x : En} (h : p ≤ k.row.length) : (k.put e p x)[j]? = if j = p then some (e, x) else k.row[j]? := by
  unfold Kn.put
  have lt : (k.row.take p).length = p := by rw [List.length_take]; omega
  by_cases c : j = p
  · subst c
    rw [if_pos rfl, List.append_assoc, List.getElem?_append_right (by omega), lt, Nat.sub_self]; rfl
  · rw [if_neg c]
    by_cases c2 : j < p
    · rw [List.append_assoc, List.getElem?_append_left (by omega), List.getElem?_take, if_pos c2]
    · rw [List.getElem?_append_right (by rw [List.length_append, lt]; simp; omega), List.length_append, lt, List.getElem?_drop]
      congr 1
      simp
      omega
theorem snoc_ind {α : Type} {M : List α → Prop} (h0 : M []) (h1 : ∀ xs x, M xs → M (xs ++ [x])) : ∀ xs, M xs := by
  have : ∀ (n : Nat) (xs : List α), xs.length = n → M xs := by
    intro n
    induction n with
    | zero => intro xs h; rw [List.length_eq_zero_iff.mp h]; exact h0
    | succ n ih =>
      intro xs h
      have hne : xs ≠ [] := fun e => by rw [e] at h; cases h
      have e := List.dropLast_concat_getLast hne
      rw [← e]
      exact h1 _ _ (ih _ (by rw [List.length_dropLast]; omega))
  exact fun xs => this _ xs rfl
/-- a pair of the row was taken; and the row's pair is as late as any take -/
theorem row_from : ∀ {rs : List Rec}, Kn.new.wf rs → ∀ {p : Nat} {q : Int × En}, (Kn.new.all rs).row[p]? = some q → Rec.take q.1 p q.2 ∈ rs := by
  intro rs
  refine snoc_ind (M := fun rs => Kn.new.wf rs → ∀ {p : Nat} {q : Int × En}, (Kn.new.all rs).row[p]? = some q → Rec.take q.1 p q.2 ∈ rs) ?_ ?_ rs
  · intro _ p q h
    exact nomatch h
  · intro rs r ih wf p q h
    obtain ⟨w1, w2⟩ := Kn.wf_app.mp wf
    rw [Kn.all_app, Kn.all_one] at h
    cases r with
    | prom e => exact List.mem_append.mpr (.inl (ih w1 h))
    | take e p2 x =>
      have h : ((Kn.new.all rs).put e p2 x)[p]? = some q := h
      rw [put_get w2.1] at h
      by_cases c : p = p2
      · rw [if_pos c] at h
        cases h
        subst c
        exact List.mem_append.mpr (.inr (List.mem_singleton.mpr rfl))
      · rw [if_neg c] at h
        exact List.mem_append.mpr (.inl (ih w1 h))
theorem row_late : ∀ {rs : List Rec}, Kn.new.wf rs → rs.Pairwise (fun a b => a.ep ≤ b.ep) → ∀ {e : Int} {p : Nat} {x : En}, Rec.take e p x ∈ rs → ∃ q, (Kn.new.all rs).row[p]? = some q ∧ e ≤ q.1 := by
  intro rs
  refine snoc_ind (M := fun rs => Kn.new.wf rs → rs.Pairwise (fun a b => a.ep ≤ b.ep) → ∀ {e : Int} {p : Nat} {x : En}, Rec.take e p x ∈ rs → ∃ q, (Kn.new.all rs).row[p]? = some q ∧ e ≤ q.1) ?_ ?_ rs
  · intro _ _ e p x h
    exact nomatch h
  · intro rs r ih wf asc e p x h
    obtain ⟨w1, w2⟩ := Kn.wf_app.mp wf
    obtain ⟨a1, _, a3⟩ := List.pairwise_append.mp asc
    rw [Kn.all_app, Kn.all_one]
    cases r with
    | prom e2 =>
      rcases List.mem_append.mp h with h | h
      · exact ih w1 a1 h
      · exact nomatch (List.mem_singleton.mp h)
    | take e2 p2 x2 =>
      show ∃ q, ((Kn.new.all rs).put e2 p2 x2)[p]? = some q ∧ e ≤ q.1
      rw [put_get w2.1]
      rcases List.mem_append.mp h with h | h
      · by_cases c : p = p2
        · rw [if_pos c]
          exact ⟨_, rfl, a3 _ h _ (List.mem_singleton.mpr rfl)⟩
        · rw [if_neg c]
          exact ih w1 a1 h
      · have h := List.mem_singleton.mp h
        injection h with h1 h2 h3
        subst h1; subst h2; subst h3
        rw [if_pos rfl]
        exact ⟨_, rfl, Int.le_refl _⟩
/-! majorities -/
structure Maj (many : Nat) (Q : List Nat) : Prop where
  nd : Q.Nodup
  lt : ∀ n ∈ Q, n < many
  len : most many ≤ Q.length
theorem Maj.meet {many : Nat} {P Q : List Nat} (a : Maj many P) (b : Maj many Q) : ∃ n ∈ P, n ∈ Q := by
  apply Decidable.byContradiction
  intro h
  have nd : (P ++ Q).Nodup := List.nodup_append.mpr ⟨a.nd, b.nd, fun x hx y hy e => h ⟨x, hx, e ▸ hy⟩⟩
  have := nd.length_le_of_subset (l₂ := List.range many) fun x hx => List.mem_range.mpr ((List.mem_append.mp hx).elim (a.lt x) (b.lt x))
  rw [List.length_append, List.length_range] at this
  have h1 := a.len
  have h2 := b.len
  unfold most at h1 h2
  omega
/-! what has been proposed, what can't be taken any more -/
def Prp (w : Cw) (e : Int) (p : Nat) (x : En) : Prop := ∃ s ∈ w.ss, s.ep = e ∧ s.row[p]? = some x
def NoV (k : KeS) (e : Int) (p : Nat) : Prop := e < k.dur ∧ ∀ x, Rec.take e p x ∉ k.recs
def Safe (many : Nat) (w : Cw) (e : Int) (p : Nat) (x : En) : Prop := ∀ e', e' < e → Prp w e' p x ∨ ∃ Q, Maj many Q ∧ ∀ n ∈ Q, ∃ k, w.ks[n]? = some k ∧ NoV k e' p
def TellK (w : Cw) (k : KeS) (e : Int) (row : Row) : Prop := (∀ e' p x, Rec.take e' p x ∈ k.recs → e' < e → ∃ q, row[p]? = some q ∧ e' ≤ q.1) ∧ ∀ (p : Nat) (q : Int × En), row[p]? = some q → Prp w q.1 p q.2 ∧ q.1 ≤ e
def TellD (w : Cw) (e : Int) (n : Nat) (row : Row) : Prop := ∃ k, w.ks[n]? = some k ∧ e ≤ k.dur ∧ TellK w k e row
/-- how a keeper may change -/
structure KS (k k' : KeS) : Prop where
  rs : ∀ r ∈ k.rs, r ∈ k'.rs
  dur : k.dur ≤ k'.dur
  nw : ∀ e p x, Rec.take e p x ∈ k'.recs → Rec.take e p x ∈ k.recs ∨ k.kn.ep ≤ e
theorem KS.refl (k : KeS) : KS k k := ⟨fun _ h => h, Int.le_refl _, fun _ _ _ h => .inl h⟩
structure Wk (w w' : Cw) : Prop where
  pr : ∀ e p x, Prp w e p x → Prp w' e p x
  ks : ∀ (n : Nat) (k : KeS), w.ks[n]? = some k → ∃ k', w'.ks[n]? = some k' ∧ KS k k'
theorem NoV.ks {k k' : KeS} {e : Int} {p : Nat} (h : NoV k e p) (s : KS k k') : NoV k' e p := by
  refine ⟨Int.lt_of_lt_of_le h.1 s.dur, fun x hx => ?_⟩
  rcases s.nw _ _ _ hx with q | q
  · exact h.2 x q
  · have := k.dur_le
    have := h.1
    omega
theorem Safe.wk {many : Nat} {w w' : Cw} {e : Int} {p : Nat} {x : En} (h : Safe many w e p x) (s : Wk w w') : Safe many w' e p x := fun e' he => by
  rcases h e' he with h | ⟨Q, m, h⟩
  · exact .inl (s.pr _ _ _ h)
  · refine .inr ⟨Q, m, fun n hn => ?_⟩
    obtain ⟨k, hk, nv⟩ := h n hn
    obtain ⟨k', hk', ks⟩ := s.ks n k hk
    exact ⟨k', hk', nv.ks ks⟩
theorem TellK.ks {w w' : Cw} {k k' : KeS} {e : Int} {row : Row} (h : TellK w k e row) (he : e ≤ k.kn.ep) (s : KS k k') (pr : ∀ e p x, Prp w e p x → Prp w' e p x) : TellK w' k' e row := by
  refine ⟨fun e' p x hx lt => ?_, fun p q hq => ⟨pr _ _ _ (h.2 p q hq).1, (h.2 p q hq).2⟩⟩
  rcases s.nw _ _ _ hx with q | q
  · exact h.1 e' p x q lt
  · omega
theorem TellD.wk {w w' : Cw} {e : Int} {n : Nat} {row : Row} (h : TellD w e n row) (s : Wk w w') : TellD w' e n row := by
  obtain ⟨k, hk, hd, ht⟩ := h
  obtain ⟨k', hk', ks⟩ := s.ks n k hk
  have := k.dur_le
  exact ⟨k', hk', Int.le_trans hd ks.dur, ht.ks (by omega) ks s.pr⟩
/-- what is known of a letter under way -/
def LtF (w : Cw) : Ltr → Prop
  | .write e _ p x => Prp w e p x
  | .told e n row => TellD w e n row
  | .taken e n p => ∃ k x, w.ks[n]? = some k ∧ Rec.take e p x ∈ k.rs
  | _ => True
theorem LtF.wk {w w' : Cw} {l : Ltr} (h : LtF w l) (s : Wk w w') : LtF w' l := by
  cases l with
  | write e n p x => exact s.pr _ _ _ h
  | told e n row => exact TellD.wk h s
  | taken e n p =>
    obtain ⟨k, x, hk, hx⟩ := h
    obtain ⟨k', hk', ks⟩ := s.ks n k hk
    exact ⟨k', x, hk', ks.rs _ hx⟩
  | _ => trivial
structure KI (w : Cw) (i : Nat) (k : KeS) : Prop where
  num : k.n = i
  asc : k.recs.Pairwise fun a b => a.ep ≤ b.ep
  wf : Kn.new.wf k.recs
  vote : ∀ e p x, Rec.take e p x ∈ k.recs → Prp w e p x
  wtl : ∀ e n row, Ltr.told e n row ∈ k.wa → n = i ∧ e ≤ k.kn.ep ∧ TellK w k e row
  wtk : ∀ e n p, Ltr.taken e n p ∈ k.wa → n = i ∧ ∃ x, Rec.take e p x ∈ k.recs
  ans : ∀ l ∈ k.wa, l.isAns = true
structure SI (many : Nat) (w : Cw) (s : SqS) : Prop where
  mny : s.many = many
  tkl : s.tk.length = many
  ask : s.st = .asking → s.row = []
  rows : ∀ q ∈ s.rows, q.1 < many ∧ TellD w s.ep q.1 q.2 ∧ ∀ (p : Nat) (y : Int × En), q.2[p]? = some y → y.1 < s.ep
  nd : (s.rows.map (·.1)).Nodup
  lead : s.st = .leading → most many ≤ s.rows.length ∧ maxLen (s.rows.map (·.2)) ≤ s.row.length
  safe : ∀ (p : Nat) (x : En), s.row[p]? = some x → Safe many w s.ep p x
  stk : ∀ n, n < many → ∀ p, p < s.tk.getD n 0 → ∃ k x, w.ks[n]? = some k ∧ Rec.take s.ep p x ∈ k.rs
theorem SI.wk {many : Nat} {w w' : Cw} {s : SqS} (h : SI many w s) (v : Wk w w') : SI many w' s := by
  refine ⟨h.mny, h.tkl, h.ask, fun q hq => ⟨(h.rows q hq).1, (h.rows q hq).2.1.wk v, (h.rows q hq).2.2⟩, h.nd, h.lead, fun p x hx => (h.safe p x hx).wk v, fun n hn p hp => ?_⟩
  obtain ⟨k, x, hk, hx⟩ := h.stk n hn p hp
  obtain ⟨k', hk', ks⟩ := v.ks n k hk
  exact ⟨k', x, hk', ks.rs _ hx⟩
theorem KI.pr {w w' : Cw} {i : Nat} {k : KeS} (h : KI w i k) (pr : ∀ e p x, Prp w e p x → Prp w' e p x) : KI w' i k :=
  ⟨h.num, h.asc, h.wf, fun e p x hx => pr _ _ _ (h.vote e p x hx), fun e n row hm => ⟨(h.wtl e n row hm).1, (h.wtl e n row hm).2.1, (h.wtl e n row hm).2.2.ks (h.wtl e n row hm).2.1 (KS.refl _) pr⟩, h.wtk, h.ans⟩
structure Sfe (many : Nat) (w : Cw) (ls : List Ltr) : Prop where
  len : w.ks.length = many
  eps : (w.ss.map (·.ep)).Nodup
  ki : ∀ (i : Nat) (k : KeS), w.ks[i]? = some k → KI w i k
  si : ∀ s ∈ w.ss, SI many w s
  lf : ∀ l ∈ ls, LtF w l
theorem eps_uniq {w : Cw} (h : (w.ss.map (·.ep)).Nodup) {s t : SqS} (hs : s ∈ w.ss) (ht : t ∈ w.ss) (e : s.ep = t.ep) : s = t := by
  have : ∀ {xs : List SqS}, (xs.map (·.ep)).Nodup → s ∈ xs → t ∈ xs → s = t := by
    intro xs
    induction xs with
    | nil => exact fun _ h => nomatch h
    | cons x xs ih =>
      intro nd hs ht
      have nd' := List.nodup_cons.mp nd
      rcases List.mem_cons.mp hs with h1 | h1 <;> rcases List.mem_cons.mp ht with h2 | h2
      · exact h1.trans h2.symm
      · exact absurd (List.mem_map.mpr ⟨t, h2, e.symm.trans (congrArg _ h1)⟩) nd'.1
      · exact absurd (List.mem_map.mpr ⟨s, h1, e.trans (congrArg _ h2)⟩) nd'.1
      · exact ih nd'.2 h1 h2
  exact this h hs ht
theorem Sfe.uniq {many : Nat} {w : Cw} {ls : List Ltr} (h : Sfe many w ls) {e : Int} {p : Nat} {x y : En} (a : Prp w e p x) (b : Prp w e p y) : x = y := by
  obtain ⟨s, hs, es, hx⟩ := a
  obtain ⟨t, ht, et, hy⟩ := b
  have := eps_uniq h.eps hs ht (es.trans et.symm)
  subst this
  rw [hx] at hy
  exact Option.some.inj hy
theorem Sfe.safe {many : Nat} {w : Cw} {ls : List Ltr} (h : Sfe many w ls) {e : Int} {p : Nat} {x : En} (a : Prp w e p x) : Safe many w e p x := by
  obtain ⟨s, hs, rfl, hx⟩ := a
  exact (h.si s hs).safe p x hx
/-! the agreement -/
def SetAt (many : Nat) (w : Cw) (p : Nat) (x : En) : Prop := ∃ e Q, Maj many Q ∧ ∀ n ∈ Q, ∃ k, w.ks[n]? = some k ∧ Rec.take e p x ∈ k.rs
theorem SetAt.wk {many : Nat} {w w' : Cw} {p : Nat} {x : En} (h : SetAt many w p x) (v : Wk w w') : SetAt many w' p x := by
  obtain ⟨e, Q, m, h⟩ := h
  refine ⟨e, Q, m, fun n hn => ?_⟩
  obtain ⟨k, hk, hx⟩ := h n hn
  obtain ⟨k', hk', ks⟩ := v.ks n k hk
  exact ⟨k', hk', ks.rs _ hx⟩
theorem most_pos (many : Nat) : 0 < most many := Nat.succ_pos _
theorem Maj.some_ {many : Nat} {Q : List Nat} (m : Maj many Q) : ∃ n, n ∈ Q := by
  have := m.len
  have := most_pos many
  cases Q with
  | nil => simp at this; omega
  | cons n _ => exact ⟨n, .head _⟩
theorem Sfe.later {many : Nat} {w : Cw} {ls : List Ltr} (h : Sfe many w ls) {e1 e2 : Int} {p : Nat} {x y : En} {Q : List Nat} (m : Maj many Q) (hQ : ∀ n ∈ Q, ∃ k, w.ks[n]? = some k ∧ Rec.take e1 p x ∈ k.rs) (hy : Prp w e2 p y) (lt : e1 ≤ e2) : x = y := by
  obtain ⟨n0, hn0⟩ := m.some_
  obtain ⟨k0, hk0, hx0⟩ := hQ n0 hn0
  have px : Prp w e1 p x := (h.ki n0 k0 hk0).vote e1 p x (List.mem_append.mpr (.inl hx0))
  by_cases c : e1 = e2
  · subst c; exact h.uniq px hy
  · rcases h.safe hy e1 (by omega) with q | ⟨R, mR, q⟩
    · exact h.uniq px q
    · obtain ⟨n, h1, h2⟩ := m.meet mR
      obtain ⟨k, hk, hx⟩ := hQ n h1
      obtain ⟨k', hk', nv⟩ := q n h2
      rw [hk] at hk'
      obtain rfl := Option.some.inj hk'
      exact absurd (List.mem_append.mpr (.inl hx)) (nv.2 x)
theorem Sfe.agree {many : Nat} {w : Cw} {ls : List Ltr} (h : Sfe many w ls) {p : Nat} {x y : En} (a : SetAt many w p x) (b : SetAt many w p y) : x = y := by
  obtain ⟨e1, Q1, m1, h1⟩ := a
  obtain ⟨e2, Q2, m2, h2⟩ := b
  have pr : ∀ {e Q z}, Maj many Q → (∀ n ∈ Q, ∃ k, w.ks[n]? = some k ∧ Rec.take e p z ∈ k.rs) → Prp w e p z := fun m hh => by
    obtain ⟨n0, hn0⟩ := m.some_
    obtain ⟨k0, hk0, hx0⟩ := hh n0 hn0
    exact (h.ki n0 k0 hk0).vote _ p _ (List.mem_append.mpr (.inl hx0))
  rcases Int.le_total e1 e2 with c | c
  · exact h.later m1 h1 (pr m2 h2) c
  · exact (h.later m2 h2 (pr m1 h1) c).symm
end Mc.Cn
namespace Mc.Cn
open PySem L2 PySem.Spec PyProof.Rows
/-! every operation of the council keeps what is safe -/
theorem KS.handle (k : KeS) (l : Ltr) : KS k (k.handle l) := by
  refine ⟨fun r h => h, Int.le_refl _, fun e p x h => ?_⟩
  have h : Rec.take e p x ∈ k.rs ++ (k.lo ++ oList (k.kn.recOf l)) := h
  rw [← List.append_assoc] at h
  rcases List.mem_append.mp h with h | h
  · exact .inl h
  · refine .inr ?_
    cases l with
    | ask e2 n =>
      have h : Rec.take e p x ∈ oList (if e2 < k.kn.ep then none else if e2 > k.kn.ep then some (Rec.prom e2) else none) := h
      split at h
      · exact nomatch h
      · split at h
        · exact nomatch (List.mem_singleton.mp h)
        · exact nomatch h
    | write e2 n p2 x2 =>
      have h : Rec.take e p x ∈ oList (if e2 < k.kn.ep then none else if k.kn.bars e2 p2 then none else if k.kn.isNew e2 p2 x2 then some (Rec.take e2 p2 x2) else none) := h
      split at h
      · exact nomatch h
      · rename_i hlt
        split at h
        · exact nomatch h
        · split at h
          · have := List.mem_singleton.mp h
            injection this with h1 h2 h3
            omega
          · exact nomatch h
    | _ => exact nomatch h
theorem KS.flush (k : KeS) : KS k k.flush := by
  refine ⟨fun r h => List.mem_append.mpr (.inl h), ?_, fun e p x h => .inl ?_⟩
  · show (Kn.new.all k.rs).ep ≤ (Kn.new.all (k.rs ++ k.lo)).ep
    rw [Kn.all_app]
    exact ep_all.1
  · have h : Rec.take e p x ∈ (k.rs ++ k.lo) ++ [] := h
    rwa [List.append_nil] at h
theorem fall_sub (k : KeS) (m : Nat) {r : Rec} (h : r ∈ (k.fall m).recs) : r ∈ k.recs := by
  have h : r ∈ (k.rs ++ k.lo.take m) ++ [] := h
  rw [List.append_nil] at h
  rcases List.mem_append.mp h with h | h
  · exact List.mem_append.mpr (.inl h)
  · exact List.mem_append.mpr (.inr (List.mem_of_mem_take h))
theorem KS.fall (k : KeS) (m : Nat) : KS k (k.fall m) := by
  refine ⟨fun r h => List.mem_append.mpr (.inl h), ?_, fun e p x h => .inl (fall_sub k m h)⟩
  show (Kn.new.all k.rs).ep ≤ (Kn.new.all (k.rs ++ k.lo.take m)).ep
  rw [Kn.all_app]
  exact ep_all.1
theorem Wk.onK {w : Cw} {n : Nat} {f : KeS → KeS} (h : ∀ k, w.ks[n]? = some k → KS k (f k)) : Wk w (w.onK n f) := by
  refine ⟨fun _ _ _ h => h, fun i k hk => ?_⟩
  show ∃ k', (w.ks.modify n f)[i]? = some k' ∧ KS k k'
  rw [List.getElem?_modify]
  by_cases c : n = i
  · subst c
    rw [hk]
    exact ⟨f k, by simp, h k hk⟩
  · rw [hk]
    exact ⟨k, by simp [c], KS.refl k⟩
theorem Sfe.onK {many : Nat} {w : Cw} {ls : List Ltr} {n : Nat} {f : KeS → KeS} (S : Sfe many w ls) (h1 : ∀ k, w.ks[n]? = some k → KS k (f k)) (h2 : ∀ k, w.ks[n]? = some k → KI w n k → KI w n (f k)) : Sfe many (w.onK n f) ls := by
  have v := Wk.onK h1
  refine ⟨by show (w.ks.modify n f).length = many; rw [List.length_modify]; exact S.len, S.eps, fun i k hk => ?_, fun s hs => (S.si s hs).wk v, fun l hl => (S.lf l hl).wk v⟩
  have hk : (w.ks.modify n f)[i]? = some k := hk
  rw [List.getElem?_modify] at hk
  by_cases c : n = i
  · subst c
    cases e : w.ks[n]? with
    | none => rw [e] at hk; simp at hk
    | some k0 =>
      rw [e] at hk
      simp at hk
      subst hk
      exact (h2 k0 e (S.ki n k0 e)).pr fun _ _ _ h => h
  · cases e : w.ks[i]? with
    | none => rw [e] at hk; simp at hk
    | some k0 =>
      rw [e] at hk
      simp [c] at hk
      subst hk
      exact (S.ki i k0 e).pr fun _ _ _ h => h
theorem recs_handle (k : KeS) (l : Ltr) : (k.handle l).recs = k.recs ++ oList (k.kn.recOf l) := (List.append_assoc ..).symm
theorem KI.handle {w : Cw} {i : Nat} {k : KeS} {l : Ltr} (h : KI w i k) (hl : LtF w l) (ha : l.isAns = false) : KI w i (k.handle l) := by
  have ks := KS.handle k l
  have epk : ∀ r ∈ k.recs, r.ep ≤ k.kn.ep := ep_all.2
  have gr : k.kn.ep ≤ (k.handle l).kn.ep := by
    show (Kn.new.all k.recs).ep ≤ (Kn.new.all (k.handle l).recs).ep
    rw [recs_handle, Kn.all_app]
    exact ep_all.1
  have newR : ∀ r ∈ oList (k.kn.recOf l), k.kn.ep ≤ r.ep ∧ ∀ e p x, r = .take e p x → Prp w e p x := by
    intro r hr
    cases l with
    | ask e n =>
      have hr : r ∈ oList (if e < k.kn.ep then none else if e > k.kn.ep then some (Rec.prom e) else none) := hr
      split at hr
      · exact nomatch hr
      · split at hr
        · rename_i h1 h2
          rw [List.mem_singleton.mp hr]
          exact ⟨by show k.kn.ep ≤ e; omega, fun _ _ _ z => nomatch z⟩
        · exact nomatch hr
    | write e n p x =>
      have hr : r ∈ oList (if e < k.kn.ep then none else if k.kn.bars e p then none else if k.kn.isNew e p x then some (Rec.take e p x) else none) := hr
      split at hr
      · exact nomatch hr
      · rename_i h1
        split at hr
        · exact nomatch hr
        · split at hr
          · rw [List.mem_singleton.mp hr]
            refine ⟨by show k.kn.ep ≤ e; omega, fun e2 p2 x2 z => ?_⟩
            injection z with z1 z2 z3
            subst z1; subst z2; subst z3
            exact hl
          · exact nomatch hr
    | _ => exact nomatch hr
  refine ⟨h.num, ?_, ?_, fun e p x hx => ?_, fun e n row hm => ?_, fun e n p hm => ?_, fun x hx => ?_⟩
  · rw [recs_handle]
    refine List.pairwise_append.mpr ⟨h.asc, ?_, fun a ha b hb => Int.le_trans (epk a ha) (newR b hb).1⟩
    cases k.kn.recOf l with
    | none => exact .nil
    | some r => exact List.pairwise_singleton _ _
  · rw [recs_handle]
    exact Kn.wf_app.mpr ⟨h.wf, recOf_ok⟩
  · rw [recs_handle] at hx
    rcases List.mem_append.mp hx with hx | hx
    · exact h.vote e p x hx
    · exact (newR _ hx).2 e p x rfl
  · have hm : Ltr.told e n row ∈ k.wa ++ oList (k.kn.ansOf k.n l) := hm
    rcases List.mem_append.mp hm with hm | hm
    · obtain ⟨h1, h2, h3⟩ := h.wtl e n row hm
      exact ⟨h1, Int.le_trans h2 gr, h3.ks h2 ks fun _ _ _ z => z⟩
    · cases l with
      | ask e2 n2 =>
        have hm : Ltr.told e n row ∈ oList (if e2 < k.kn.ep then some (Ltr.refused e2 k.n k.kn.ep) else some (.told e2 k.n k.kn.row)) := hm
        split at hm
        · exact nomatch (List.mem_singleton.mp hm)
        · rename_i hlt
          have := List.mem_singleton.mp hm
          injection this with h1 h2 h3
          subst h1; subst h2; subst h3
          have eo : k.kn.recOf (.ask e n2) = if e > k.kn.ep then some (.prom e) else none := if_neg hlt
          refine ⟨h.num, ?_, ?_, ?_⟩
          · show e ≤ (Kn.new.all (k.handle (.ask e n2)).recs).ep
            rw [recs_handle, Kn.all_app, eo]
            split
            · exact ep_all.2 (.prom e) (List.mem_singleton.mpr rfl)
            · show e ≤ k.kn.ep
              omega
          · intro e' p x hx _
            rw [recs_handle, eo] at hx
            have hx : Rec.take e' p x ∈ k.recs := by
              rcases List.mem_append.mp hx with hx | hx
              · exact hx
              · split at hx
                · exact nomatch (List.mem_singleton.mp hx)
                · exact nomatch hx
            exact row_late h.wf h.asc hx
          · intro p q hq
            have hq := row_from h.wf hq
            refine ⟨h.vote _ _ _ hq, ?_⟩
            have := epk _ hq
            show q.1 ≤ e
            have : q.1 ≤ k.kn.ep := this
            omega
      | write e2 n2 p2 x2 =>
        have hm : Ltr.told e n row ∈ oList (if e2 < k.kn.ep then some (Ltr.refused e2 k.n k.kn.ep) else if k.kn.bars e2 p2 then none else some (.taken e2 k.n p2)) := hm
        split at hm
        · exact nomatch (List.mem_singleton.mp hm)
        · split at hm
          · exact nomatch hm
          · exact nomatch (List.mem_singleton.mp hm)
      | _ => cases ha
  · have hm : Ltr.taken e n p ∈ k.wa ++ oList (k.kn.ansOf k.n l) := hm
    rcases List.mem_append.mp hm with hm | hm
    · obtain ⟨h1, x, hx⟩ := h.wtk e n p hm
      exact ⟨h1, x, by rw [recs_handle]; exact List.mem_append.mpr (.inl hx)⟩
    · cases l with
      | ask e2 n2 =>
        have hm : Ltr.taken e n p ∈ oList (if e2 < k.kn.ep then some (Ltr.refused e2 k.n k.kn.ep) else some (.told e2 k.n k.kn.row)) := hm
        split at hm <;> exact nomatch (List.mem_singleton.mp hm)
      | write e2 n2 p2 x2 =>
        have hm : Ltr.taken e n p ∈ oList (if e2 < k.kn.ep then some (Ltr.refused e2 k.n k.kn.ep) else if k.kn.bars e2 p2 then none else some (.taken e2 k.n p2)) := hm
        split at hm
        · exact nomatch (List.mem_singleton.mp hm)
        · rename_i hlt
          split at hm
          · exact nomatch hm
          · rename_i hb
            have := List.mem_singleton.mp hm
            injection this with h1 h2 h3
            subst h1; subst h2; subst h3
            refine ⟨h.num, x2, ?_⟩
            rw [recs_handle]
            have eo : k.kn.recOf (.write e n2 p x2) = if k.kn.isNew e p x2 then some (.take e p x2) else none := (if_neg hlt).trans (if_neg hb)
            rw [eo]
            by_cases c : k.kn.isNew e p x2 = true
            · rw [if_pos c]
              exact List.mem_append.mpr (.inr (List.mem_singleton.mpr rfl))
            · refine List.mem_append.mpr (.inl ?_)
              have c : k.kn.isNew e p x2 = false := by simpa using c
              unfold Kn.isNew at c
              rw [Bool.or_eq_false_iff] at c
              have c2 := c.2
              rw [Bool.not_eq_false', decide_eq_true_eq] at c2
              exact row_from h.wf c2
      | _ => cases ha
  · have hx : x ∈ k.wa ++ oList (k.kn.ansOf k.n l) := hx
    rcases List.mem_append.mp hx with hx | hx
    · exact h.ans x hx
    · cases l with
      | ask e n =>
        have hx : x ∈ oList (if e < k.kn.ep then some (Ltr.refused e k.n k.kn.ep) else some (.told e k.n k.kn.row)) := hx
        split at hx <;> (rw [List.mem_singleton.mp hx]; rfl)
      | write e n p y =>
        have hx : x ∈ oList (if e < k.kn.ep then some (Ltr.refused e k.n k.kn.ep) else if k.kn.bars e p then none else some (.taken e k.n p)) := hx
        split at hx
        · rw [List.mem_singleton.mp hx]; rfl
        · split at hx
          · exact nomatch hx
          · rw [List.mem_singleton.mp hx]; rfl
      | _ => cases ha
theorem recs_flush (k : KeS) : k.flush.recs = k.recs := List.append_nil _
theorem KI.flush {w : Cw} {i : Nat} {k : KeS} (h : KI w i k) : KI w i k.flush :=
  ⟨h.num, by rw [recs_flush]; exact h.asc, by rw [recs_flush]; exact h.wf, fun e p x hx => h.vote e p x (by rw [recs_flush] at hx; exact hx), (fun _ _ _ hm => (nomatch hm)), (fun _ _ _ hm => (nomatch hm)), (fun _ hm => (nomatch hm))⟩
theorem KI.fall {w : Cw} {i m : Nat} {k : KeS} (h : KI w i k) : KI w i (k.fall m) := by
  have e : k.recs = (k.fall m).recs ++ k.lo.drop m := by
    show k.rs ++ k.lo = ((k.rs ++ k.lo.take m) ++ []) ++ k.lo.drop m
    rw [List.append_nil, List.append_assoc, List.take_append_drop]
  refine ⟨h.num, ?_, ?_, fun e p x hx => h.vote e p x (fall_sub k m hx), (fun _ _ _ hm => (nomatch hm)), (fun _ _ _ hm => (nomatch hm)), (fun _ hm => (nomatch hm))⟩
  · have := h.asc
    rw [e] at this
    exact (List.pairwise_append.mp this).1
  · have := h.wf
    rw [e] at this
    exact (Kn.wf_app.mp this).1
/-- what a keeper hands out is known -/
theorem Sfe.flush {many : Nat} {w : Cw} {ls : List Ltr} {n : Nat} {k : KeS} (S : Sfe many w ls) (hk : w.ks[n]? = some k) : Sfe many (w.onK n KeS.flush) (ls ++ k.wa) := by
  have S2 := S.onK (n := n) (f := KeS.flush) (fun k _ => KS.flush k) fun k _ h => h.flush
  refine ⟨S2.len, S2.eps, S2.ki, S2.si, fun l hl => ?_⟩
  rcases List.mem_append.mp hl with hl | hl
  · exact S2.lf l hl
  have ki := S.ki n k hk
  have hk2 : (w.onK n KeS.flush).ks[n]? = some k.flush := by
    show (w.ks.modify n KeS.flush)[n]? = _
    rw [List.getElem?_modify, hk]; simp
  cases l with
  | told e n2 row =>
    obtain ⟨rfl, h2, h3⟩ := ki.wtl e n2 row hl
    exact ⟨k.flush, hk2, h2, by
      refine ⟨fun e' p x hx lt => h3.1 e' p x (by rw [recs_flush] at hx; exact hx) lt, fun p q hq => h3.2 p q hq⟩⟩
  | taken e n2 p =>
    obtain ⟨rfl, x, hx⟩ := ki.wtk e n2 p hl
    exact ⟨k.flush, x, hk2, hx⟩
  | write e n2 p x => exact nomatch (show false = true from ki.ans _ hl)
  | _ => trivial
theorem Sfe.fall {many : Nat} {w : Cw} {ls : List Ltr} {n m : Nat} (S : Sfe many w ls) : Sfe many (w.onK n (·.fall m)) ls := S.onK (fun k _ => KS.fall k m) fun k _ h => h.fall
theorem Sfe.sub {many : Nat} {w : Cw} {ls l2 : List Ltr} (S : Sfe many w ls) (h : ∀ l ∈ l2, l ∈ ls) : Sfe many w l2 := ⟨S.len, S.eps, S.ki, S.si, fun l hl => S.lf l (h l hl)⟩
theorem Sfe.handle {many : Nat} {w : Cw} {ls : List Ltr} {l : Ltr} (S : Sfe many w ls) (hl : LtF w l) (ha : l.isAns = false) : Sfe many (w.onK l.num (·.handle l)) ls := S.onK (fun k _ => KS.handle k l) fun k _ h => h.handle hl ha
/-! a sequencer hears -/
theorem fstMax_ge {l : List (Int × En)} : ∀ y ∈ l, y.1 ≤ (fstMax l).1 := by
  cases l with
  | nil => exact fun _ h => nomatch h
  | cons q qs =>
    intro y hy
    have := bst_ge (qs := qs) (b := q)
    rcases List.mem_cons.mp hy with rfl | hy
    · exact this.1
    · exact this.2 y hy
theorem rows_maj {many : Nat} {rows : List (Nat × Row)} (nd : (rows.map (·.1)).Nodup) (lt : ∀ q ∈ rows, q.1 < many) (hm : most many ≤ rows.length) : Maj many (rows.map (·.1)) :=
  ⟨nd, fun n hn => by obtain ⟨q, hq, rfl⟩ := List.mem_map.mp hn; exact lt q hq, by rw [List.length_map]; exact hm⟩
theorem lead_safe {many : Nat} {w : Cw} {ls : List Ltr} {e : Int} {rows : List (Nat × Row)} {p : Nat} {x : En} (S : Sfe many w ls) (hr : ∀ q ∈ rows, q.1 < many ∧ TellD w e q.1 q.2 ∧ ∀ (p : Nat) (y : Int × En), q.2[p]? = some y → y.1 < e) (nd : (rows.map (·.1)).Nodup) (hm : most many ≤ rows.length)
    (hx : (newest (rows.map (·.2)))[p]? = some x) : Safe many w e p x := by
  unfold newest at hx
  rw [List.getElem?_map] at hx
  obtain ⟨p', hp', ex⟩ := Option.map_eq_some_iff.mp hx
  obtain ⟨hl, e1⟩ := List.getElem?_eq_some_iff.mp hp'
  rw [List.getElem_range] at e1
  subst e1
  rw [List.length_range] at hl
  have hq := fstMax_mem (pairsAt_ne hl)
  have hge := fstMax_ge (l := pairsAt (rows.map (·.2)) p)
  generalize fstMax (pairsAt (rows.map (·.2)) p) = q at hq ex hge
  subst ex
  obtain ⟨row, hrow, hat⟩ := List.mem_filterMap.mp hq
  obtain ⟨z, hz, rfl⟩ := List.mem_map.mp hrow
  obtain ⟨_, ⟨k, hk, hd, ht⟩, hlt⟩ := hr z hz
  have hp := ht.2 p q hat
  have hqe := hlt p q hat
  intro e' he'
  rcases Int.lt_trichotomy e' q.1 with c | c | c
  · exact S.safe hp.1 e' c
  · subst c; exact .inl hp.1
  · refine .inr ⟨_, rows_maj nd (fun q hq => (hr q hq).1) hm, fun n hn => ?_⟩
    obtain ⟨y, hy, rfl⟩ := List.mem_map.mp hn
    obtain ⟨_, ⟨k2, hk2, hd2, ht2⟩, _⟩ := hr y hy
    refine ⟨k2, hk2, by omega, fun x' hx' => ?_⟩
    obtain ⟨q2, hq2, le⟩ := ht2.1 e' p x' hx' he'
    have := hge q2 (List.mem_filterMap.mpr ⟨y.2, List.mem_map.mpr ⟨y, hy, rfl⟩, hq2⟩)
    omega
theorem add_safe {many : Nat} {w : Cw} {e : Int} {rows : List (Nat × Row)} {p : Nat} {x : En} (hr : ∀ q ∈ rows, q.1 < many ∧ TellD w e q.1 q.2 ∧ ∀ (p : Nat) (y : Int × En), q.2[p]? = some y → y.1 < e) (nd : (rows.map (·.1)).Nodup) (hm : most many ≤ rows.length) (hp : maxLen (rows.map (·.2)) ≤ p) : Safe many w e p x := by
  intro e' he'
  refine .inr ⟨_, rows_maj nd (fun q hq => (hr q hq).1) hm, fun n hn => ?_⟩
  obtain ⟨y, hy, rfl⟩ := List.mem_map.mp hn
  obtain ⟨_, ⟨k2, hk2, hd2, ht2⟩, _⟩ := hr y hy
  refine ⟨k2, hk2, by omega, fun x' hx' => ?_⟩
  obtain ⟨q2, hq2, le⟩ := ht2.1 e' p x' hx' he'
  have h1 := (List.getElem?_eq_some_iff.mp hq2).1
  have h2 := maxLen_ge (List.mem_map.mpr ⟨y, hy, rfl⟩ : y.2 ∈ rows.map (·.2))
  omega
theorem hear_row {many : Nat} {w : Cw} {s : SqS} (h : SI many w s) (l : Ltr) {p : Nat} {x : En} (hx : s.row[p]? = some x) : (s.hear l).row[p]? = some x := by
  unfold SqS.hear
  split
  · exact hx
  · cases l with
    | told e n r =>
      dsimp only
      split
      · rename_i hs
        rw [h.ask hs] at hx
        exact nomatch hx
      · exact hx
    | taken e n p => dsimp only; split <;> exact hx
    | _ => exact hx
theorem hear_ep' (s : SqS) (l : Ltr) : (s.hear l).ep = s.ep := by
  unfold SqS.hear
  split
  · rfl
  · cases l with
    | told e n r => dsimp only; split; (unfold SqS.told; dsimp only; split <;> rfl); rfl
    | taken e n p => dsimp only; split <;> rfl
    | _ => rfl
theorem Wk.hear {many : Nat} {w : Cw} {ls : List Ltr} (S : Sfe many w ls) (l : Ltr) : Wk w ⟨w.ks, w.ss.map (·.hear l)⟩ := by
  refine ⟨fun e p x ⟨s, hs, es, hx⟩ => ⟨s.hear l, List.mem_map.mpr ⟨s, hs, rfl⟩, (hear_ep' s l).trans es, hear_row (S.si s hs) l hx⟩, fun n k hk => ⟨k, hk, KS.refl k⟩⟩
theorem SI.hear {many : Nat} {w : Cw} {ls : List Ltr} {s : SqS} {l : Ltr} (S : Sfe many w ls) (hs : s ∈ w.ss) (hl : LtF w l) : SI many w (s.hear l) := by
  have h := S.si s hs
  unfold SqS.hear
  split
  · exact h
  · rename_i hne
    have hep : l.ep = s.ep := Decidable.byContradiction fun z => hne (.inl z)
    cases l with
    | refused e n k => exact ⟨h.mny, h.tkl, (fun z => (nomatch z)), h.rows, h.nd, (fun z => (nomatch z)), h.safe, h.stk⟩
    | told e n r =>
      dsimp only
      split
      · rename_i hask
        have hep : e = s.ep := hep
        subst hep
        obtain ⟨k, hk, hd, ht⟩ := hl
        have hn : n < many := by rw [← S.len]; exact (List.getElem?_eq_some_iff.mp hk).1
        have hnew : ∀ (p : Nat) (y : Int × En), r[p]? = some y → y.1 < s.ep := fun p y hy => by
          obtain ⟨⟨t, ht1, ht2, ht3⟩, le⟩ := ht.2 p y hy
          rcases Int.lt_or_eq_of_le le with c | c
          · exact c
          · have := eps_uniq S.eps ht1 hs (ht2.trans c)
            subst this
            rw [h.ask hask] at ht3
            exact nomatch ht3
        have hrows : ∀ q ∈ putR n r s.rows, q.1 < many ∧ TellD w s.ep q.1 q.2 ∧ ∀ (p : Nat) (y : Int × En), q.2[p]? = some y → y.1 < s.ep := fun q hq => by
          rcases putR_mem hq with rfl | hq
          · exact ⟨hn, ⟨k, hk, hd, ht⟩, hnew⟩
          · exact h.rows q hq
        have hnd : ((putR n r s.rows).map (·.1)).Nodup := by
          rw [putR_keys]
          split
          · exact h.nd
          · rename_i hm
            exact List.nodup_append.mpr ⟨h.nd, by simp, fun a ha b hb => by rw [List.mem_singleton.mp hb]; exact fun e => hm (e ▸ ha)⟩
        unfold SqS.told
        dsimp only
        split
        · rename_i hmost
          rw [h.mny] at hmost
          exact ⟨h.mny, h.tkl, (fun z => (nomatch z)), hrows, hnd, fun _ => ⟨hmost, by show _ ≤ (newest _).length; rw [newest_len]; exact Nat.le_refl _⟩, fun p x hx => lead_safe S hrows hnd hmost hx, h.stk⟩
        · exact ⟨h.mny, h.tkl, h.ask, hrows, hnd, (fun z => by rw [hask] at z; exact (nomatch z)), h.safe, h.stk⟩
      · exact h
    | taken e n p =>
      dsimp only
      split
      · rename_i hc
        have hep : e = s.ep := hep
        subst hep
        obtain ⟨k, x, hk, hx⟩ := hl
        refine ⟨h.mny, by show (s.tk.set n _).length = many; rw [List.length_set]; exact h.tkl, h.ask, h.rows, h.nd, h.lead, h.safe, fun i hi q hq => ?_⟩
        have hq : q < (s.tk.set n (s.tk.getD n 0 + 1)).getD i 0 := hq
        rw [List.getD_eq_getElem?_getD, List.getElem?_set] at hq
        by_cases c : n = i
        · subst c
          rw [if_pos rfl, if_pos (by rw [h.tkl]; exact hi)] at hq
          have hq : q < s.tk.getD n 0 + 1 := hq
          by_cases c2 : q = s.tk.getD n 0
          · rw [c2, ← hc.2]
            exact ⟨k, x, hk, hx⟩
          · exact h.stk n hi q (by omega)
        · rw [if_neg c] at hq
          exact h.stk i hi q (by rw [List.getD_eq_getElem?_getD]; exact hq)
      · exact h
    | _ => exact h
theorem Sfe.hear {many : Nat} {w : Cw} {ls : List Ltr} {l : Ltr} (S : Sfe many w ls) (hl : LtF w l) : Sfe many ⟨w.ks, w.ss.map (·.hear l)⟩ ls := by
  have v := Wk.hear S l
  refine ⟨S.len, ?_, fun i k hk => (S.ki i k hk).pr v.pr, fun s hs => ?_, fun x hx => (S.lf x hx).wk v⟩
  · show ((w.ss.map (·.hear l)).map (·.ep)).Nodup
    rw [List.map_map]
    have : w.ss.map ((fun s : SqS => s.ep) ∘ fun s => s.hear l) = w.ss.map (·.ep) := List.map_congr_left fun s _ => hear_ep' s l
    rw [this]
    exact S.eps
  · obtain ⟨s0, h0, rfl⟩ := List.mem_map.mp hs
    exact (SI.hear S h0 hl).wk v
theorem Sfe.bring {many : Nat} {w : Cw} {ls : List Ltr} {l : Ltr} (S : Sfe many w ls) (hl : LtF w l) : Sfe many (w.bring l) ls ∧ Wk w (w.bring l) := by
  unfold Cw.bring
  split
  · exact ⟨S.hear hl, Wk.hear S l⟩
  · rename_i h
    exact ⟨S.handle hl (by simpa using h), Wk.onK fun k _ => KS.handle k l⟩
theorem Wk.refl (w : Cw) : Wk w w := ⟨fun _ _ _ h => h, fun _ k h => ⟨k, h, KS.refl k⟩⟩
theorem KS.trans {a b c : KeS} (x : KS a b) (y : KS b c) (h : a.kn.ep ≤ b.kn.ep ∨ True) : (∀ r ∈ a.rs, r ∈ c.rs) ∧ a.dur ≤ c.dur := ⟨fun r hr => y.rs r (x.rs r hr), Int.le_trans x.dur y.dur⟩
end Mc.Cn
namespace Mc.Cn
open PySem L2 PySem.Spec PyProof.Rows
/-! the council's own deeds keep what is safe; what is settled -/
theorem Sfe.start {many : Nat} : Sfe many ⟨(List.range many).map KeS.new, []⟩ [] := by
  refine ⟨by rw [List.length_map, List.length_range], List.nodup_nil, fun i k hk => ?_, fun _ h => (nomatch h), fun _ h => (nomatch h)⟩
  have hk : ((List.range many).map KeS.new)[i]? = some k := hk
  rw [List.getElem?_map] at hk
  obtain ⟨j, hj, rfl⟩ := Option.map_eq_some_iff.mp hk
  obtain ⟨hl, e⟩ := List.getElem?_eq_some_iff.mp hj
  rw [List.getElem_range] at e
  exact ⟨e.symm, .nil, trivial, (fun _ _ _ hm => (nomatch hm)), (fun _ _ _ hm => (nomatch hm)), (fun _ _ _ hm => (nomatch hm)), (fun _ hm => (nomatch hm))⟩
/-- other sequencers, the same keepers -/
theorem Sfe.onS {many : Nat} {w : Cw} {ls : List Ltr} {ss : List SqS} (S : Sfe many w ls) (pr : ∀ e p x, Prp w e p x → Prp ⟨w.ks, ss⟩ e p x) (nd : (ss.map (·.ep)).Nodup) (h : ∀ s ∈ ss, SI many w s ∨ SI many ⟨w.ks, ss⟩ s) : Sfe many ⟨w.ks, ss⟩ ls ∧ Wk w ⟨w.ks, ss⟩ := by
  have v : Wk w ⟨w.ks, ss⟩ := ⟨pr, fun _ k h => ⟨k, h, KS.refl k⟩⟩
  exact ⟨⟨S.len, nd, fun i k hk => (S.ki i k hk).pr pr, fun s hs => (h s hs).elim (fun q => q.wk v) id, fun l hl => (S.lf l hl).wk v⟩, v⟩
theorem SI.new {many : Nat} {w : Cw} {e : Int} : SI many w (SqS.new e many) := by
  refine ⟨rfl, List.length_replicate, fun _ => rfl, fun _ h => (nomatch h), List.nodup_nil, (fun z => (nomatch z)), fun p x hx => (nomatch (show ([] : List En)[p]? = some x from hx)), fun n hn p hp => ?_⟩
  have hp : p < (List.replicate many 0).getD n 0 := hp
  rw [List.getD_eq_getElem?_getD, List.getElem?_replicate] at hp
  split at hp <;> exact absurd hp (Nat.not_lt_zero _)
theorem Sfe.begin {many : Nat} {w : Cw} {ls : List Ltr} {e : Int} (S : Sfe many w ls) (h : e ∉ w.ss.map (·.ep)) : Sfe many ⟨w.ks, w.ss ++ [SqS.new e many]⟩ ls ∧ Wk w ⟨w.ks, w.ss ++ [SqS.new e many]⟩ := by
  refine S.onS (fun e p x ⟨s, hs, h1, h2⟩ => ⟨s, List.mem_append.mpr (.inl hs), h1, h2⟩) ?_ fun s hs => ?_
  · rw [List.map_append]
    exact List.nodup_append.mpr ⟨S.eps, by simp, fun a ha b hb => by rw [List.mem_singleton.mp hb]; exact fun q => h (by have q : a = e := q; rw [← q]; exact ha)⟩
  · rcases List.mem_append.mp hs with hs | hs
    · exact .inl (S.si s hs)
    · rw [List.mem_singleton.mp hs]; exact .inl SI.new
theorem map_set_same {α β : Type} {f : α → β} {xs : List α} {i : Nat} {x y : α} (h : xs[i]? = some x) (e : f y = f x) : (xs.set i y).map f = xs.map f := by
  rw [List.map_set, e]
  refine List.ext_getElem? fun j => ?_
  rw [List.getElem?_set]
  by_cases c : i = j
  · subst c
    rw [if_pos rfl, List.getElem?_map, h]
    have := (List.getElem?_eq_some_iff.mp h).1
    rw [if_pos (by rw [List.length_map]; exact this)]; rfl
  · rw [if_neg c]
theorem mem_set {α : Type} {xs : List α} {i : Nat} {y z : α} (h : z ∈ xs.set i y) : z = y ∨ z ∈ xs := by
  rcases List.mem_or_eq_of_mem_set h with h | h
  · exact .inr h
  · exact .inl h
theorem Sfe.stop {many i : Nat} {w : Cw} {ls : List Ltr} {s : SqS} (S : Sfe many w ls) (hs : w.ss[i]? = some s) : Sfe many ⟨w.ks, w.ss.set i s.stop⟩ ls ∧ Wk w ⟨w.ks, w.ss.set i s.stop⟩ := by
  have hi := (List.getElem?_eq_some_iff.mp hs).1
  have h := S.si s (List.mem_of_getElem? hs)
  refine S.onS (fun e p x ⟨t, ht, h1, h2⟩ => ?_) (by have e1 := map_set_same (f := fun s : SqS => s.ep) hs (y := s.stop) rfl; rw [e1]; exact S.eps) fun t ht => ?_
  · by_cases c : t.ep = s.ep
    · have := eps_uniq S.eps ht (List.mem_of_getElem? hs) c
      subst this
      exact ⟨t.stop, List.mem_iff_getElem?.mpr ⟨i, List.getElem?_set_self hi⟩, h1, h2⟩
    · obtain ⟨j, hj⟩ := List.mem_iff_getElem?.mp ht
      refine ⟨t, List.mem_iff_getElem?.mpr ⟨j, ?_⟩, h1, h2⟩
      rw [List.getElem?_set_ne (fun e => by subst e; rw [hs] at hj; exact c (by rw [Option.some.inj hj]))]
      exact hj
  · rcases mem_set ht with rfl | ht
    · exact .inl ⟨h.mny, h.tkl, (fun z => (nomatch z)), h.rows, h.nd, (fun z => (nomatch z)), h.safe, h.stk⟩
    · exact .inl (S.si t ht)
theorem Sfe.add {many i : Nat} {w : Cw} {ls : List Ltr} {s : SqS} {x : En} (S : Sfe many w ls) (hs : w.ss[i]? = some s) (hl : s.st = .leading) : Sfe many ⟨w.ks, w.ss.set i (s.add x)⟩ ls ∧ Wk w ⟨w.ks, w.ss.set i (s.add x)⟩ := by
  have hi := (List.getElem?_eq_some_iff.mp hs).1
  have h := S.si s (List.mem_of_getElem? hs)
  have row_ : ∀ {p : Nat} {y : En}, s.row[p]? = some y → (s.add x).row[p]? = some y := fun {p y} q => by
    show (s.row ++ [x])[p]? = some y
    rw [List.getElem?_append_left (List.getElem?_eq_some_iff.mp q).1]; exact q
  refine S.onS (fun e p y ⟨t, ht, h1, h2⟩ => ?_) (by have e1 := map_set_same (f := fun s : SqS => s.ep) hs (y := s.add x) rfl; rw [e1]; exact S.eps) fun t ht => ?_
  · by_cases c : t.ep = s.ep
    · have := eps_uniq S.eps ht (List.mem_of_getElem? hs) c
      subst this
      exact ⟨t.add x, List.mem_iff_getElem?.mpr ⟨i, List.getElem?_set_self hi⟩, h1, row_ h2⟩
    · obtain ⟨j, hj⟩ := List.mem_iff_getElem?.mp ht
      refine ⟨t, List.mem_iff_getElem?.mpr ⟨j, ?_⟩, h1, h2⟩
      rw [List.getElem?_set_ne (fun e => by subst e; rw [hs] at hj; exact c (by rw [Option.some.inj hj]))]
      exact hj
  · rcases mem_set ht with rfl | ht
    · refine .inl ⟨h.mny, h.tkl, (fun z => by rw [show (s.add x).st = s.st from rfl, hl] at z; exact (nomatch z)), h.rows, h.nd, fun z => ⟨(h.lead hl).1, ?_⟩, fun p y hy => ?_, h.stk⟩
      · have := (h.lead hl).2
        show _ ≤ (s.row ++ [x]).length
        rw [List.length_append]
        exact Nat.le_trans this (Nat.le_add_right _ _)
      · have hy : (s.row ++ [x])[p]? = some y := hy
        by_cases c : p < s.row.length
        · rw [List.getElem?_append_left c] at hy
          exact h.safe p y hy
        · exact add_safe h.rows h.nd (h.lead hl).1 (Nat.le_trans (h.lead hl).2 (by omega))
    · exact .inl (S.si t ht)
theorem Sfe.sends {many i : Nat} {w : Cw} {ls : List Ltr} {s : SqS} (S : Sfe many w ls) (hs : w.ss[i]? = some s) : ∀ l ∈ s.toSend, LtF w l ∧ l.isAns = false := by
  intro l hl
  unfold SqS.toSend at hl
  cases e : s.st with
  | asking =>
    rw [e] at hl
    obtain ⟨n, _, rfl⟩ := List.mem_map.mp hl
    exact ⟨trivial, rfl⟩
  | leading =>
    rw [e] at hl
    obtain ⟨n, hn, rfl⟩ := List.mem_map.mp hl
    have h2 := of_decide_eq_true (List.mem_filter.mp hn).2
    refine ⟨⟨s, List.mem_of_getElem? hs, rfl, ?_⟩, rfl⟩
    show s.row[s.tk.getD n 0]? = some (s.row.getD (s.tk.getD n 0) (.int 0))
    generalize s.tk.getD n 0 = j at h2
    rw [List.getD_eq_getElem?_getD, List.getElem?_eq_getElem h2]
    rfl
  | stopped => rw [e] at hl; exact nomatch hl
theorem Sfe.more {many : Nat} {w : Cw} {ls l2 : List Ltr} (S : Sfe many w ls) (h : ∀ l ∈ l2, LtF w l) : Sfe many w (ls ++ l2) := ⟨S.len, S.eps, S.ki, S.si, fun l hl => (List.mem_append.mp hl).elim (S.lf l) (h l)⟩
theorem Sfe.send {many i : Nat} {w : Cw} {ls : List Ltr} {s : SqS} (S : Sfe many w ls) (hs : w.ss[i]? = some s) : Sfe many w (ls ++ s.toSend) := S.more fun l hl => (S.sends hs l hl).1
/-! what stays: takes on disks -/
def RsG (w w' : Cw) : Prop := ∀ (n : Nat) (k : KeS), w.ks[n]? = some k → ∃ k', w'.ks[n]? = some k' ∧ ∀ r ∈ k.rs, r ∈ k'.rs
theorem Wk.rs {w w' : Cw} (v : Wk w w') : RsG w w' := fun n k h => by
  obtain ⟨k', h1, h2⟩ := v.ks n k h
  exact ⟨k', h1, h2.rs⟩
theorem RsG.refl (w : Cw) : RsG w w := fun _ k h => ⟨k, h, fun _ z => z⟩
theorem RsG.trans {a b c : Cw} (x : RsG a b) (y : RsG b c) : RsG a c := fun n k h => by
  obtain ⟨k1, h1, h2⟩ := x n k h
  obtain ⟨k2, h3, h4⟩ := y n k1 h1
  exact ⟨k2, h3, fun r hr => h4 r (h2 r hr)⟩
theorem SetAt.rs {many : Nat} {w w' : Cw} {p : Nat} {x : En} (h : SetAt many w p x) (v : RsG w w') : SetAt many w' p x := by
  obtain ⟨e, Q, m, h⟩ := h
  refine ⟨e, Q, m, fun n hn => ?_⟩
  obtain ⟨k, hk, hx⟩ := h n hn
  obtain ⟨k', hk', ks⟩ := v n k hk
  exact ⟨k', hk', ks _ hx⟩
/-- one deed: what is safe stays, what is on disks stays -/
structure Stp (many : Nat) (w w' : Cw) (ls' : List Ltr) : Prop where
  sf : Sfe many w' ls'
  rs : RsG w w'
theorem Sfe.brings : ∀ {bs : List Ltr} {many : Nat} {w : Cw} {ls : List Ltr}, Sfe many w ls → (∀ l ∈ bs, l ∈ ls) → Sfe many (w.brings bs) ls ∧ RsG w (w.brings bs)
  | [], _, _, _, S, _ => ⟨S, RsG.refl _⟩
  | b :: bs, many, w, ls, S, h => by
    have h1 := S.bring (S.lf b (h b (.head _)))
    have h2 := Sfe.brings (bs := bs) h1.1 fun l hl => h l (.tail _ hl)
    exact ⟨h2.1, h1.2.rs.trans h2.2⟩
theorem Sfe.flushed {many n : Nat} {w : Cw} {ls : List Ltr} (S : Sfe many w ls) : Stp many w (w.flushed n) ls := by
  cases e : w.ks[n]? with
  | none =>
    have e2 : w.flushed n = w := by
      unfold Cw.flushed Cw.onK
      rw [e]
      have : w.ks.modify n KeS.flush = w.ks := by
        refine List.ext_getElem? fun j => ?_
        rw [List.getElem?_modify]
        by_cases c : n = j
        · subst c; rw [e]; rfl
        · simp [c]
      rw [this]; rfl
    rw [e2]
    exact ⟨S, RsG.refl _⟩
  | some k =>
    have h1 := S.flush e
    have h2 := h1.brings (bs := k.wa) fun l hl => List.mem_append.mpr (.inr hl)
    have ee : w.flushed n = (w.onK n KeS.flush).brings k.wa := by unfold Cw.flushed; rw [e]; rfl
    rw [ee]
    exact ⟨h2.1.sub fun l hl => List.mem_append.mpr (.inl hl), (Wk.onK fun k _ => KS.flush k).rs.trans h2.2⟩
theorem Sfe.exchange {many i : Nat} {up : List Nat} {w : Cw} {ls : List Ltr} (S : Sfe many w ls) : Stp many w (w.exchange i up) ls := by
  have h1 : Stp many w (w.sent i up) ls := by
    cases e : w.ss[i]? with
    | none =>
      have : w.sent i up = w := by unfold Cw.sent; rw [e]; rfl
      rw [this]
      exact ⟨S, RsG.refl _⟩
    | some s =>
      have : w.sent i up = w.brings (s.toSend.filter fun l => decide (l.num ∈ up)) := by unfold Cw.sent; rw [e]; rfl
      rw [this]
      have h2 := (S.send e).brings (bs := s.toSend.filter fun l => decide (l.num ∈ up)) fun l hl => List.mem_append.mpr (.inr (List.mem_filter.mp hl).1)
      exact ⟨h2.1.sub fun l hl => List.mem_append.mpr (.inl hl), h2.2⟩
  unfold Cw.exchange
  generalize w.sent i up = w1 at h1
  have : ∀ (xs : List Nat) (v : Cw), Stp many w v ls → Stp many w (xs.foldl Cw.flushed v) ls := by
    intro xs
    induction xs with
    | nil => exact fun v hv => hv
    | cons x xs ih => exact fun v hv => ih _ ⟨hv.sf.flushed.sf, hv.rs.trans hv.sf.flushed.rs⟩
  exact this up w1 h1
/-! the settled row -/
structure RowS (many : Nat) (w : Cw) (R : List En) : Prop where
  at_ : ∀ (p : Nat) (x : En), R[p]? = some x → SetAt many w p x
  no : ∀ x, ¬ SetAt many w R.length x
theorem pre_of {many : Nat} {w : Cw} {ls : List Ltr} (S : Sfe many w ls) {R L : List En} (h : RowS many w R) (hl : ∀ (p : Nat) (x : En), L[p]? = some x → SetAt many w p x) : L = R.take L.length := by
  have le : L.length ≤ R.length := by
    apply Decidable.byContradiction
    intro c
    have lt : R.length < L.length := by omega
    exact h.no _ (hl R.length _ (List.getElem?_eq_getElem lt))
  refine List.ext_getElem? fun p => ?_
  rw [List.getElem?_take]
  by_cases c : p < L.length
  · rw [if_pos c]
    have a := hl p _ (List.getElem?_eq_getElem c)
    have b := h.at_ p _ (List.getElem?_eq_getElem (by omega))
    rw [List.getElem?_eq_getElem c, List.getElem?_eq_getElem (by omega), S.agree a b]
  · rw [if_neg c, List.getElem?_eq_none (by omega)]
/-- the entries that are settled at a place, as the program finds them -/
structure SetL (many : Nat) (w : Cw) (p : Nat) (es : List En) : Prop where
  nd : es.Nodup
  mem : ∀ x, x ∈ es ↔ SetAt many w p x
theorem SetL.row {many p : Nat} {w : Cw} {ls : List Ltr} {R es : List En} (S : Sfe many w ls) (h : RowS many w R) (q : SetL many w p es) (le : p ≤ R.length) : es = if hp : p < R.length then [R[p]] else [] := by
  by_cases c : p < R.length
  · rw [dif_pos c]
    have hx := h.at_ p _ (List.getElem?_eq_getElem c)
    have hm := (q.mem _).mpr hx
    cases es with
    | nil => exact nomatch hm
    | cons a as =>
      have ea : a = R[p] := S.agree ((q.mem a).mp (.head _)) hx
      cases as with
      | nil => rw [ea]
      | cons b bs =>
        have eb : b = R[p] := S.agree ((q.mem b).mp (.tail _ (.head _))) hx
        have := List.nodup_cons.mp q.nd
        exact absurd (by rw [ea, eb]; exact .head _) this.1
  · rw [dif_neg c]
    have e : p = R.length := by omega
    subst e
    cases es with
    | nil => rfl
    | cons a as => exact absurd ((q.mem a).mp (.head _)) (h.no a)
theorem take_place {many B i : Nat} {k : KeS} {e : Int} {p : Nat} {x : En} (h : KOk B many i k) (hm : Rec.take e p x ∈ k.rs) : p < B := by
  obtain ⟨a, b, eb⟩ := List.mem_iff_append.mp hm
  have wf := h.wf
  rw [eb, List.append_assoc] at wf
  obtain ⟨w1, w2⟩ := Kn.wf_app.mp wf
  have h1 : p ≤ (Kn.new.all a).row.length := w2.1
  have h2 := Kn.all_len w1
  have h3 := h.len
  rw [eb, List.append_assoc, List.length_append, List.cons_append, List.length_cons] at h3
  have : (Kn.new).row.length = 0 := rfl
  omega
theorem SetAt.lt {many B : Nat} {w : Cw} {p : Nat} {x : En} (h : SetAt many w p x) (ok : CwOk B many w) : p < B := by
  obtain ⟨e, Q, m, h⟩ := h
  obtain ⟨n, hn⟩ := m.some_
  obtain ⟨k, hk, hx⟩ := h n hn
  exact take_place (ok.ks n k hk) hx
theorem SetAt.ok {many B : Nat} {w : Cw} {p : Nat} {x : En} (h : SetAt many w p x) (ok : CwOk B many w) : x.ok := by
  obtain ⟨e, Q, m, h⟩ := h
  obtain ⟨n, hn⟩ := m.some_
  obtain ⟨k, hk, hx⟩ := h n hn
  exact (ok.ks n k hk).ok _ (List.mem_append.mpr (.inl hx))
theorem fm_congr {α β : Type} {f g : α → Option β} : ∀ {xs : List α}, (∀ x ∈ xs, f x = g x) → xs.filterMap f = xs.filterMap g
  | [], _ => rfl
  | x :: xs, h => by rw [List.filterMap_cons, List.filterMap_cons, h x (.head _), fm_congr fun y hy => h y (.tail _ hy)]
/-- how many keepers hold a take -/
def holds (w : Cw) (r : Rec) : List KeS := w.ks.filter fun k => decide (r ∈ k.rs)
theorem hold_maj {many : Nat} {w : Cw} {e : Int} {p : Nat} {x : En} (len : w.ks.length = many) : most many ≤ (holds w (.take e p x)).length ↔ ∃ Q, Maj many Q ∧ ∀ n ∈ Q, ∃ k, w.ks[n]? = some k ∧ Rec.take e p x ∈ k.rs := by
  have ix : holds w (.take e p x) = (((List.range many).filter fun n => decide (∃ k, w.ks[n]? = some k ∧ Rec.take e p x ∈ k.rs)).filterMap (w.ks[·]?)) := by
    unfold holds
    subst len
    have gen : ∀ (xs : List KeS), xs.filter (fun k => decide (Rec.take e p x ∈ k.rs)) = (((List.range xs.length).filter fun n => decide (∃ k, xs[n]? = some k ∧ Rec.take e p x ∈ k.rs)).filterMap (xs[·]?)) := by
      intro xs
      refine snoc_ind (M := fun xs => xs.filter (fun k => decide (Rec.take e p x ∈ k.rs)) = (((List.range xs.length).filter fun n => decide (∃ k, xs[n]? = some k ∧ Rec.take e p x ∈ k.rs)).filterMap (xs[·]?))) rfl (fun xs y ih => ?_) xs
      rw [List.filter_append, ih, List.length_append, List.length_singleton, List.range_succ, List.filter_append, List.filterMap_append]
      congr 1
      · have e1 : (List.range xs.length).filter (fun n => decide (∃ k, (xs ++ [y])[n]? = some k ∧ Rec.take e p x ∈ k.rs)) = (List.range xs.length).filter (fun n => decide (∃ k, xs[n]? = some k ∧ Rec.take e p x ∈ k.rs)) := List.filter_congr fun n hn => by
          rw [List.getElem?_append_left (List.mem_range.mp hn)]
        rw [e1]
        refine fm_congr fun n hn => ?_
        have := List.mem_range.mp (List.mem_filter.mp hn).1
        show xs[n]? = (xs ++ [y])[n]?
        rw [List.getElem?_append_left this]
      · have e1 : (xs ++ [y])[xs.length]? = some y := by rw [List.getElem?_append_right (Nat.le_refl _), Nat.sub_self]; rfl
        by_cases c : Rec.take e p x ∈ y.rs
        · rw [List.filter_cons, List.filter_cons, if_pos (by simpa using c), if_pos (by rw [e1]; simpa using c)]
          simp [e1]
        · rw [List.filter_cons, List.filter_cons, if_neg (by simpa using c), if_neg (by rw [e1]; simpa using c)]
          rfl
    exact gen w.ks
  have ll : (holds w (.take e p x)).length = ((List.range many).filter fun n => decide (∃ k, w.ks[n]? = some k ∧ Rec.take e p x ∈ k.rs)).length := by
    rw [ix]
    have gen : ∀ (ns : List Nat), (∀ n ∈ ns, n < w.ks.length) → (ns.filterMap (w.ks[·]?)).length = ns.length := by
      intro ns
      induction ns with
      | nil => exact fun _ => rfl
      | cons n ns ih =>
        intro h
        rw [List.filterMap_cons, List.getElem?_eq_getElem (h n (.head _))]
        show _ + 1 = _ + 1
        rw [ih fun m hm => h m (.tail _ hm)]
    exact gen _ fun n hn => by rw [len]; exact List.mem_range.mp (List.mem_filter.mp hn).1
  constructor
  · intro h
    exact ⟨_, ⟨List.nodup_range.sublist List.filter_sublist, fun n hn => List.mem_range.mp (List.mem_filter.mp hn).1, by rw [← ll]; exact h⟩, fun n hn => of_decide_eq_true (List.mem_filter.mp hn).2⟩
  · rintro ⟨Q, m, h⟩
    rw [ll]
    refine Nat.le_trans m.len (m.nd.length_le_of_subset fun n hn => List.mem_filter.mpr ⟨List.mem_range.mpr (m.lt n hn), decide_eq_true (h n hn)⟩)
/-- what a sequencer knows as settled is settled -/
theorem desc_count {xs : List Nat} {j p : Nat} (hj : j < xs.length) (hp : p < (xs.mergeSort fun a b => decide (b ≤ a)).getD j 0) : j + 1 ≤ (xs.filter fun c => decide (p < c)).length := by
  have pm : (xs.mergeSort fun a b => decide (b ≤ a)).Perm xs := List.mergeSort_perm _ _
  have st : (xs.mergeSort fun a b => decide (b ≤ a)).Pairwise (· ≥ ·) := (List.pairwise_mergeSort (le := fun a b => decide (b ≤ a)) (fun a b c h1 h2 => by simp at *; omega) (fun a b => by simp; omega) xs).imp fun h => by simpa using h
  generalize (xs.mergeSort fun a b => decide (b ≤ a)) = ys at pm st hp
  rw [← (pm.filter _).length_eq]
  have hj : j < ys.length := by rw [pm.length_eq]; exact hj
  rw [List.getD_eq_getElem?_getD, List.getElem?_eq_getElem hj] at hp
  have hp : p < ys[j] := hp
  have hs : (ys.take (j + 1)).filter (fun c => decide (p < c)) = ys.take (j + 1) := List.filter_eq_self.mpr fun c hc => by
    obtain ⟨i, hi⟩ := List.mem_iff_getElem?.mp hc
    rw [List.getElem?_take] at hi
    split at hi
    · rename_i lt
      obtain ⟨li, ei⟩ := List.getElem?_eq_some_iff.mp hi
      have : ys[j] ≤ c := by
        rw [← ei]
        rcases Nat.lt_or_eq_of_le (Nat.le_of_lt_succ lt) with q | q
        · exact List.pairwise_iff_getElem.mp st i j li hj q
        · subst q; exact Nat.le_refl _
      exact decide_eq_true (by omega)
    · exact nomatch hi
  have sub := (List.take_sublist (j + 1) ys).filter fun c => decide (p < c)
  have := sub.length_le
  rw [hs, List.length_take] at this
  omega
theorem Sfe.settled {many : Nat} {w : Cw} {ls : List Ltr} {s : SqS} (S : Sfe many w ls) (hs : s ∈ w.ss) (pos : 0 < many) : ∀ (p : Nat) (x : En), s.settled[p]? = some x → SetAt many w p x := by
  intro p x hx
  have h := S.si s hs
  unfold SqS.settled at hx
  rw [List.getElem?_take] at hx
  split at hx
  · rename_i lt
    have hm : most many - 1 < s.tk.length := by rw [h.tkl]; unfold most; omega
    unfold SqS.cnt desc at lt
    rw [h.mny] at lt
    have cnt := desc_count hm lt
    refine ⟨s.ep, (List.range many).filter fun n => decide (p < s.tk.getD n 0), ⟨List.nodup_range.sublist List.filter_sublist, fun n hn => List.mem_range.mp (List.mem_filter.mp hn).1, ?_⟩, fun n hn => ?_⟩
    · have e : s.tk = (List.range many).map fun n => s.tk.getD n 0 := by
        refine List.ext_getElem? fun j => ?_
        rw [List.getElem?_map]
        by_cases c : j < many
        · rw [List.getElem?_range c, List.getElem?_eq_getElem (by rw [h.tkl]; exact c)]
          show _ = some (s.tk.getD j 0)
          rw [List.getD_eq_getElem?_getD, List.getElem?_eq_getElem (by rw [h.tkl]; exact c)]; rfl
        · rw [List.getElem?_eq_none (by rw [h.tkl]; omega), List.getElem?_eq_none (by rw [List.length_range]; omega)]; rfl
      have : (s.tk.filter fun c => decide (p < c)).length = ((List.range many).filter fun n => decide (p < s.tk.getD n 0)).length := by
        conv => lhs; rw [e]
        rw [List.filter_map, List.length_map]; rfl
      rw [← this]
      have := most_pos many
      omega
    · obtain ⟨k, y, hk, hy⟩ := h.stk n (List.mem_range.mp (List.mem_filter.mp hn).1) p (of_decide_eq_true (List.mem_filter.mp hn).2)
      have pr := (S.ki n k hk).vote _ _ _ (List.mem_append.mpr (.inl hy))
      have : y = x := S.uniq pr ⟨s, hs, rfl, hx⟩
      subst this
      exact ⟨k, hk, hy⟩
  · exact nomatch hx
end Mc.Cn
namespace Mc.Cn
open PySem L2 PySem.Spec PyProof.Rows Evl LamX NdefX
/-! takes_at, settled_at, settled_row, Council.settled -/
abbrev sTakesAt : Stmt := top 12
abbrev sSettledAt : Stmt := top 11
abbrev sSettledRow : Stmt := top 13
abbrev sCnSettled : Stmt := inClass (top 19) 10
theorem Rec.inj {a b : Rec} : a.d = b.d ↔ a = b := by
  constructor
  · intro h
    cases a with
    | prom e => cases b with
      | prom e2 => simp [Rec.d] at h; rw [h]
      | take e2 p x => simp [Rec.d] at h
    | take e p x => cases b with
      | prom e2 => simp [Rec.d] at h
      | take e2 p2 x2 =>
        simp [Rec.d] at h
        obtain ⟨h1, h2, h3⟩ := h
        have h2 : p = p2 := by omega
        rw [h1, h2, En.inj.mp h3]
  · rintro rfl; rfl
theorem mem_map_inj {α : Type} {f : α → PyData} (h : ∀ a b, f a = f b ↔ a = b) {x : α} {xs : List α} : f x ∈ xs.map f ↔ x ∈ xs :=
  ⟨fun m => by obtain ⟨y, hy, e⟩ := List.mem_map.mp m; rw [← (h y x).mp e]; exact hy, fun m => List.mem_map.mpr ⟨x, m, rfl⟩⟩
theorem prd_get {α β : Type} {F : α → β → Prop} {xs : List α} {ys : List β} (h : Paired F xs ys) : ∀ {i : Nat} {x : α} {y : β}, xs[i]? = some x → ys[i]? = some y → F x y := by
  induction h with
  | nil => intro i x y h; simp at h
  | cons a b ih =>
    intro i x y h1 h2
    cases i with
    | zero => cases h1; cases h2; exact a
    | succ i => exact ih (i := i) h1 h2
def Rec.at_ (p : Nat) : Rec → Bool | .prom _ => false | .take _ q _ => decide (q = p)
def addT (p : Nat) (ts : List Rec) (r : Rec) : List Rec := if r.at_ p = true ∧ r ∉ ts then ts ++ [r] else ts
def takesK (p : Nat) (ts : List Rec) (k : KeS) : List Rec := k.rs.foldl (addT p) ts
def takesOf (p : Nat) (ks : List KeS) : List Rec := ks.foldl (takesK p) []
theorem addT_mem {p : Nat} {ts : List Rec} {r x : Rec} : x ∈ addT p ts r ↔ x ∈ ts ∨ (x = r ∧ r.at_ p = true) := by
  unfold addT
  by_cases c : r.at_ p = true ∧ r ∉ ts
  · rw [if_pos c, List.mem_append, List.mem_singleton]
    exact ⟨fun h => h.imp id fun e => ⟨e, c.1⟩, fun h => h.imp id fun e => e.1⟩
  · rw [if_neg c]
    refine ⟨.inl, fun h => h.elim id fun ⟨e, a⟩ => ?_⟩
    rw [e]
    exact Decidable.byContradiction fun z => c ⟨a, z⟩
theorem addT_len {p : Nat} {ts : List Rec} {r : Rec} : (addT p ts r).length ≤ ts.length + 1 := by
  unfold addT
  split
  · rw [List.length_append]; exact Nat.le_refl _
  · omega
theorem foldA_mem {p : Nat} : ∀ {rs ts : List Rec} {x : Rec}, x ∈ rs.foldl (addT p) ts ↔ x ∈ ts ∨ (x ∈ rs ∧ x.at_ p = true)
  | [], ts, x => ⟨.inl, fun h => h.elim id fun h => nomatch h.1⟩
  | r :: rs, ts, x => by
    show x ∈ rs.foldl (addT p) (addT p ts r) ↔ _
    rw [foldA_mem (rs := rs), addT_mem]
    constructor
    · rintro ((h | ⟨rfl, h⟩) | ⟨h1, h2⟩)
      · exact .inl h
      · exact .inr ⟨.head _, h⟩
      · exact .inr ⟨.tail _ h1, h2⟩
    · rintro (h | ⟨h1, h2⟩)
      · exact .inl (.inl h)
      · rcases List.mem_cons.mp h1 with rfl | h1
        · exact .inl (.inr ⟨rfl, h2⟩)
        · exact .inr ⟨h1, h2⟩
theorem foldA_len {p : Nat} : ∀ {rs ts : List Rec}, (rs.foldl (addT p) ts).length ≤ ts.length + rs.length
  | [], ts => Nat.le_refl _
  | r :: rs, ts => by
    have h1 := addT_len (p := p) (ts := ts) (r := r)
    have h2 := foldA_len (p := p) (rs := rs) (ts := addT p ts r)
    show (rs.foldl (addT p) (addT p ts r)).length ≤ _
    rw [List.length_cons]; omega
theorem foldK_mem {p : Nat} : ∀ {ks : List KeS} {ts : List Rec} {x : Rec}, x ∈ ks.foldl (takesK p) ts ↔ x ∈ ts ∨ (x.at_ p = true ∧ ∃ k ∈ ks, x ∈ k.rs)
  | [], ts, x => ⟨.inl, fun h => h.elim id fun ⟨_, _, h, _⟩ => nomatch h⟩
  | k :: ks, ts, x => by
    show x ∈ ks.foldl (takesK p) (takesK p ts k) ↔ _
    rw [foldK_mem (ks := ks)]
    unfold takesK
    rw [foldA_mem]
    constructor
    · rintro ((h | ⟨h1, h2⟩) | ⟨h1, k2, h2, h3⟩)
      · exact .inl h
      · exact .inr ⟨h2, k, .head _, h1⟩
      · exact .inr ⟨h1, k2, .tail _ h2, h3⟩
    · rintro (h | ⟨h1, k2, h2, h3⟩)
      · exact .inl (.inl h)
      · rcases List.mem_cons.mp h2 with rfl | h2
        · exact .inl (.inr ⟨h3, h1⟩)
        · exact .inr ⟨h1, k2, h2, h3⟩
theorem foldK_len {p B : Nat} : ∀ {ks : List KeS} {ts : List Rec}, (∀ k ∈ ks, k.rs.length ≤ B) → (ks.foldl (takesK p) ts).length ≤ ts.length + ks.length * B
  | [], ts, _ => by simp
  | k :: ks, ts, h => by
    have h1 := foldA_len (p := p) (rs := k.rs) (ts := ts)
    have h2 := foldK_len (p := p) (ks := ks) (ts := takesK p ts k) fun x hx => h x (.tail _ hx)
    have h3 := h k (.head _)
    show (ks.foldl (takesK p) (takesK p ts k)).length ≤ _
    rw [List.length_cons, Nat.add_mul]
    unfold takesK at h2 ⊢
    omega
theorem takes_mem {p : Nat} {ks : List KeS} {x : Rec} : x ∈ takesOf p ks ↔ x.at_ p = true ∧ ∃ k ∈ ks, x ∈ k.rs := by
  unfold takesOf
  rw [foldK_mem]
  exact ⟨fun h => h.elim (fun z => nomatch z) id, .inr⟩
/-- the keepers of a side, as what a reader needs of them -/
structure KsAt (K : PySem.W.Frag) (CK : Addr) (H : Hp) (kl : Addr) (B : Nat) (ks : List KeS) : Prop where
  hk : ∃ as : List Addr, H kl = some (.lst (as.map V.ref)) ∧ Paired (fun a k => KeAt K CK H a k) as ks
  len : ks.length ≤ 60
  rcs : ∀ k ∈ ks, k.rs.length ≤ B ∧ ∀ r ∈ k.rs, r.ok
  bd : B ≤ 16000
theorem KsAt.same {K : PySem.W.Frag} {CK : Addr} {H H' : Hp} {kl : Addr} {B : Nat} {ks : List KeS} (x : KsAt K CK H kl B ks) (s : Same H H') : KsAt K CK H' kl B ks := by
  obtain ⟨⟨as, h1, h2⟩, h3, h4, h5⟩ := x
  exact ⟨⟨as, s _ _ h1, prd_map2 h2 fun _ _ _ _ q => q.same s⟩, h3, h4, h5⟩
def spTakesAt (K : PySem.W.Frag) (CK : Addr) : Sp := fun vs H Q _ => ∃ (kl : Addr) (p B : Nat) (ks : List KeS), vs = [.ref kl, .int p] ∧ KsAt K CK H kl B ks ∧
  ∀ (q : Addr) (H' : Hp), H q = none → Same H H' → LD K H' q ((takesOf p ks).map Rec.d) → Q (.ref q) H'
section
variable {P : Program} {w : World} {K : PySem.W.Frag} {mg : PySem.Str → Option Value} {base : Heap} {CC CK CS CB CN : Addr} {TT : List NTab}
theorem sdA_map {α : Type} {f : α → PyData} : ∀ {xs : List α}, (∀ x ∈ xs, sdD (f x) = true) → sdA (xs.map f) = true
  | [], _ => by simp [sdA]
  | x :: xs, h => by
    show sdA (f x :: xs.map f) = true
    rw [sdA, h x (.head _), sdA_map fun y hy => h y (.tail _ hy)]
    rfl
theorem scTakesAt : FnScope ["keepers", "place", "takes", "keeper", "record"] ["keepers", "place"] (defScope sTakesAt) := ⟨rfl, rfl, rfl, by decide +kernel, rfl, by decide +kernel, by decide +kernel⟩
theorem ok_takesAt {f : Addr} {fd : FuncData} (F : Fun K "takes_at" "takes_at" sTakesAt f fd) (T : TxK K mg CK CN) : FnOk P w K mg base CX0 1 f fd ["keepers", "place"] (spTakesAt K CK) := by
  refine F.ok scTakesAt (fun vs H Q E h => ?_) (fun cdv A outer s H vs Q E hr h => ?_)
  · obtain ⟨kl, p, B, ks, rfl, _⟩ := h
    rfl
  · obtain ⟨kl, p, B, ks, rfl, ⟨⟨as, hk, pk⟩, hl, hrec, hB⟩, k⟩ := h
    refine ⟨_, (pss_cons (ps_set (i := 2) scTakesAt.nd rfl (Or.inl rfl) (pe_lst pa_nil))
      (pss_cons (ps_for PassesOwn.never rfl (pi_list (pv 0)) (pg_name (i := 3) scTakesAt.nd rfl (Or.inl rfl))
        (pss_one (ps_for PassesOwn.never rfl (pi_tup (pe_fld (pv 3) rfl)) (pg_name (i := 4) scTakesAt.nd rfl (Or.inl rfl))
          (pss_one (ps_if (PW.pt (pw_and (pt_cmpR op_eq (pe_ix ix_tup (pv 4) pe_int (fun _ _ => rfl)) pe_str (nomark _)) (pw_and (pt_cmpR op_eq (pe_ix ix_tup (pv 4) pe_int (fun _ _ => rfl)) (pv 1) (nomark _)) (pw_and1 (pt_cmpR (op_ninDL (K := K) rfl hr.units) (pv 4) (pv 2) (by rfl))))))
            (pss_one (ps_expr (pe_bm PySem.F.plainAttrs_list PySem.F.slot_list_append PySem.F.type_list_append mt_append (pv 2) (pa_cons (pv 4) pa_nil))))
            pss_nil)))))
      (pss_one (ps_ret (pv 2))))), ?_⟩
    refine ⟨Nat.zero_le _, fun q hq => ?_⟩
    have lks : as.length = ks.length := Paired.length pk
    have bound : ∀ j, (ks.take j).length * B ≤ 960000 := fun j => by
      have h1 : (ks.take j).length ≤ 60 := by rw [List.length_take]; omega
      exact Nat.le_trans (Nat.mul_le_mul h1 hB) (by decide)
    have inv0 : Same H (upd H q (.lst [])) := Same.new hq
    refine ⟨_, rfl, kl, rfl, ⟨_, SqL.of (inv0 _ _ hk)⟩, for_list (K := K) (a := kl) (xs := as.map V.ref) (fun j σ H' => ∃ o3 o4 : Option V, σ = [some (.ref kl), some (.int p), some (.ref q), o3, o4] ∧ Same H H' ∧ LD K H' q ((takesOf p (ks.take j)).map Rec.d)) ?_ ?_ ?_ ?_⟩
    · exact ⟨none, none, rfl, inv0, [], upd_same, .nil⟩
    · rintro j σ H' _ ⟨_, _, rfl, s, _⟩
      exact SqL.of (s _ _ hk)
    · rintro j y σ H1 hj ⟨o3, o4, rfl, s1, ld⟩
      rw [List.getElem?_map] at hj
      obtain ⟨a, ha, rfl⟩ := Option.map_eq_some_iff.mp hj
      have hjl : j < ks.length := by
        have := (List.getElem?_eq_some_iff.mp ha).1
        omega
      have hkj := List.getElem?_eq_getElem hjl
      have KA := (prd_get pk ha hkj).same s1
      obtain ⟨dx, r, lo, wa, h1, ⟨us, hr1, dus⟩, _⟩ := KA
      have hkm := hrec _ (List.getElem_mem hjl)
      have ltk : (takesOf p (ks.take j)).length ≤ 960000 := by
        have := foldK_len (p := p) (ks := ks.take j) (ts := []) fun x hx => (hrec x (List.mem_of_mem_take hx)).1
        have := bound j
        unfold takesOf
        simp only [List.length_nil] at *
        omega
      have et : takesOf p (ks.take (j + 1)) = takesK p (takesOf p (ks.take j)) ks[j] := by
        unfold takesOf
        rw [List.take_add_one, hkj, List.foldl_append]; rfl
      rw [et]
      have oks : ∀ x ∈ takesOf p (ks.take j), x.ok := fun x hx => by
        obtain ⟨_, k2, hk2, hx2⟩ := takes_mem.mp hx
        exact (hrec k2 (List.mem_of_mem_take hk2)).2 x hx2
      generalize takesOf p (ks.take j) = ts0 at ld ltk oks
      have lus : us.length = ks[j].rs.length := by rw [dpA_len dus, List.length_map]
      refine ⟨_, rfl, a, CK, dx, _, _, rfl, h1, T.cl, T.nRec, rfl, r, rfl, ⟨_, SqT.of hr1⟩, for_tup (K := K) (a := r) (xs := us) (fun i σ H' => ∃ o4 : Option V, σ = [some (.ref kl), some (.int p), some (.ref q), some (.ref a), o4] ∧ Same H H' ∧ LD K H' q (((ks[j].rs.take i).foldl (addT p) ts0).map Rec.d) ∧ Ks H1 H') ?_ ?_ ?_ ?_⟩
      · exact ⟨o4, rfl, s1, ld, Ks.refl _⟩
      · rintro i σ H' _ ⟨_, rfl, _, _, k2⟩
        exact SqT.of (k2.tu _ _ hr1)
      · rintro i y σ H2 hi ⟨p4, rfl, s2, ⟨ws, hq2, dws⟩, k2⟩
        obtain ⟨dd, hd, dy⟩ := dpA_at dus hi
        rw [List.getElem?_map] at hd
        obtain ⟨x, hx, rfl⟩ := Option.map_eq_some_iff.mp hd
        have dy := dp_tp k2.tp _ _ (tp_rec x) dy
        have e2 : (ks[j].rs.take (i + 1)).foldl (addT p) ts0 = addT p ((ks[j].rs.take i).foldl (addT p) ts0) x := by
          rw [List.take_add_one, hx, List.foldl_append]; rfl
        rw [e2]
        have xok : x.ok := hkm.2 x (List.mem_of_getElem? hx)
        have oks2 : ∀ z ∈ (ks[j].rs.take i).foldl (addT p) ts0, z.ok := fun z hz => by
          rcases foldA_mem.mp hz with hz | ⟨hz, _⟩
          · exact oks z hz
          · exact hkm.2 z (List.mem_of_mem_take hz)
        have lt2 : ((ks[j].rs.take i).foldl (addT p) ts0).length ≤ 990000 := by
          have := foldA_len (p := p) (rs := ks[j].rs.take i) (ts := ts0)
          rw [List.length_take] at this
          have := hkm.1
          omega
        generalize (ks[j].rs.take i).foldl (addT p) ts0 = ts at dws oks2 lt2
        have lws : ws.length = ts.length := by rw [dpA_len dws, List.length_map]
        have stay : addT p ts x = ts → ∃ o4 : Option V, [some (V.ref kl), some (.int p), some (.ref q), some (.ref a), some y] = [some (.ref kl), some (.int p), some (.ref q), some (.ref a), o4] ∧ Same H H2 ∧ LD K H2 q ((addT p ts x).map Rec.d) ∧ Ks H1 H2 := fun e => by
          rw [e]; exact ⟨_, rfl, s2, ⟨ws, hq2, dws⟩, k2⟩
        cases x with
        | prom e =>
          obtain ⟨c, rfl, sq⟩ := dp_prom dy
          refine ⟨_, rfl, c, _, 0, .str "promise", rfl, rfl, sq, rfl, rfl, _, rfl, ?_⟩
          refine ite2 (fun h => absurd h (by decide)) (fun _ => ?_)
          exact stay (if_neg fun h => nomatch h.1)
        | take e pl x =>
          obtain ⟨c, xv, rfl, sq, dx_⟩ := dp_take dy
          refine ⟨_, rfl, c, _, 0, .str "take", rfl, rfl, sq, rfl, rfl, _, rfl, ?_⟩
          refine ite2 (fun _ => ?_) (fun h => absurd (by decide) h)
          refine ⟨_, rfl, c, _, 2, .int pl, rfl, rfl, sq, rfl, _, rfl, rfl, _, rfl, ?_⟩
          have ea : decide (V.int (pl : Int) = V.int (p : Int)) = decide (pl = p) := decide_eq_decide.mpr ⟨fun z => Int.ofNat.inj (V.int.inj z), fun z => by rw [z]⟩
          refine ite2 (fun h => ?_) (fun h => ?_)
          · rw [ea] at h
            have epl : pl = p := of_decide_eq_true h
            subst epl
            refine ⟨_, rfl, _, rfl, _, ts.map Rec.d, decide (Rec.take e pl x ∈ ts), dy, (LD.dp ⟨ws, hq2, dws⟩), sd_rec xok, sdA_map fun z hz => sd_rec (oks2 z hz), Nat.le_trans (dep_rec _) (by decide), ?_, _, rfl, ?_⟩
            · rw [mem_map_inj (fun a b => Rec.inj), decide_eq_true_iff]
            refine ite2 (fun hm => ?_) (fun hm => ?_)
            · have hn : Rec.take e pl x ∉ ts := by simpa using hm
              have e3 : addT pl ts (.take e pl x) = ts ++ [.take e pl x] := if_pos ⟨by show decide (pl = pl) = true; exact decide_eq_true rfl, hn⟩
              rw [e3]
              have kk := Ks.lst (o' := .lst (ws ++ [V.ref c])) hq2
              refine ⟨_, rfl, .inl ⟨rfl, _, SqL.of hq2⟩, _, rfl, q, _, _, rfl, rfl, hq2, by rw [lws, sizeLine_eq]; omega, ?_⟩
              refine ⟨_, rfl, fun b o z => by rw [upd_ne (fun e => by rw [e, hq] at z; cases z)]; exact s2 _ _ z, ⟨_, upd_same, ?_⟩, k2.trans kk⟩
              rw [List.map_append]
              exact dpA_app (dpA_tp kk.tp _ _ (tpAR _) dws) (.cons (dp_tp kk.tp _ _ (tp_rec _) dy) .nil)
            · have hn : Rec.take e pl x ∈ ts := by simpa using hm
              exact stay (if_neg fun z => z.2 hn)
          · rw [ea] at h
            exact stay (if_neg fun z => h z.1)
      · rintro σ H2 ⟨p4, rfl, s2, ld2, _⟩
        rw [lus, List.take_length] at ld2
        exact ⟨_, _, rfl, s2, ld2⟩
    · rintro σ H1 ⟨o3, o4, rfl, s1, ld⟩
      rw [List.length_map, lks, List.take_length] at ld
      exact ⟨_, rfl, k q H1 hq s1 ld⟩
def hold (ks : List KeS) (r : Rec) : List KeS := ks.filter fun k => decide (r ∈ k.rs)
def setOne (ks : List KeS) (es : List En) (r : Rec) (x : En) : List En := if most ks.length ≤ (hold ks r).length ∧ x ∉ es then es ++ [x] else es
def setStep (ks : List KeS) (es : List En) : Rec → List En
  | .prom _ => es
  | .take e p x => setOne ks es (.take e p x) x
def setOf (p : Nat) (ks : List KeS) : List En := (takesOf p ks).foldl (setStep ks) []
theorem setStep_len {ks : List KeS} {es : List En} {r : Rec} : (setStep ks es r).length ≤ es.length + 1 := by
  cases r with
  | prom e => exact Nat.le_succ _
  | take e p x =>
    show (setOne ks es _ x).length ≤ _
    unfold setOne
    split
    · rw [List.length_append]; exact Nat.le_refl _
    · exact Nat.le_succ _
theorem foldS_len {ks : List KeS} : ∀ {rs : List Rec} {es : List En}, (rs.foldl (setStep ks) es).length ≤ es.length + rs.length
  | [], _ => Nat.le_refl _
  | r :: rs, es => by
    have h1 := setStep_len (ks := ks) (es := es) (r := r)
    have h2 := foldS_len (ks := ks) (rs := rs) (es := setStep ks es r)
    show (rs.foldl (setStep ks) (setStep ks es r)).length ≤ _
    rw [List.length_cons]; omega
theorem foldS_mem {ks : List KeS} : ∀ {rs : List Rec} {es : List En} {x : En}, x ∈ rs.foldl (setStep ks) es ↔ x ∈ es ∨ ∃ e p, Rec.take e p x ∈ rs ∧ most ks.length ≤ (hold ks (.take e p x)).length
  | [], es, x => ⟨.inl, fun h => h.elim id fun ⟨_, _, h, _⟩ => nomatch h⟩
  | r :: rs, es, x => by
    show x ∈ rs.foldl (setStep ks) (setStep ks es r) ↔ _
    rw [foldS_mem (rs := rs)]
    cases r with
    | prom e =>
      constructor
      · rintro (h | ⟨e2, p2, h, hm⟩)
        · exact .inl h
        · exact .inr ⟨e2, p2, .tail _ h, hm⟩
      · rintro (h | ⟨e2, p2, h, hm⟩)
        · exact .inl h
        · rcases List.mem_cons.mp h with h | h
          · exact nomatch h
          · exact .inr ⟨e2, p2, h, hm⟩
    | take e p y =>
      have st : x ∈ setStep ks es (.take e p y) ↔ x ∈ es ∨ (x = y ∧ most ks.length ≤ (hold ks (.take e p y)).length) := by
        show x ∈ setOne ks es _ y ↔ _
        unfold setOne
        by_cases c : most ks.length ≤ (hold ks (.take e p y)).length ∧ y ∉ es
        · rw [if_pos c, List.mem_append, List.mem_singleton]
          exact ⟨fun h => h.imp id fun q => ⟨q, c.1⟩, fun h => h.imp id fun q => q.1⟩
        · rw [if_neg c]
          refine ⟨.inl, fun h => h.elim id fun ⟨q, a⟩ => ?_⟩
          rw [q]
          exact Decidable.byContradiction fun z => c ⟨a, z⟩
      rw [st]
      constructor
      · rintro ((h | ⟨rfl, h⟩) | ⟨e2, p2, h, hm⟩)
        · exact .inl h
        · exact .inr ⟨e, p, .head _, h⟩
        · exact .inr ⟨e2, p2, .tail _ h, hm⟩
      · rintro (h | ⟨e2, p2, h, hm⟩)
        · exact .inl (.inl h)
        · rcases List.mem_cons.mp h with h | h
          · injection h with q1 q2 q3
            subst q1; subst q2; subst q3
            exact .inl (.inr ⟨rfl, hm⟩)
          · exact .inr ⟨e2, p2, h, hm⟩
theorem foldS_nd {ks : List KeS} : ∀ {rs : List Rec} {es : List En}, es.Nodup → (rs.foldl (setStep ks) es).Nodup
  | [], _, h => h
  | r :: rs, es, h => by
    refine foldS_nd (rs := rs) (es := setStep ks es r) ?_
    cases r with
    | prom e => exact h
    | take e p x =>
      show (setOne ks es _ x).Nodup
      unfold setOne
      split
      · rename_i c
        exact List.nodup_append.mpr ⟨h, by simp, fun a ha b hb => by rw [List.mem_singleton.mp hb]; exact fun q => c.2 (q ▸ ha)⟩
      · exact h
theorem set_ok {many p : Nat} {w : Cw} (len : w.ks.length = many) : SetL many w p (setOf p w.ks) := by
  refine ⟨foldS_nd List.nodup_nil, fun x => ?_⟩
  unfold setOf
  rw [foldS_mem]
  constructor
  · rintro (h | ⟨e, q, h, hm⟩)
    · exact nomatch h
    · have hq : q = p := of_decide_eq_true (takes_mem.mp h).1
      subst hq
      rw [len] at hm
      obtain ⟨Q, m, hh⟩ := (hold_maj len).mp hm
      exact ⟨e, Q, m, hh⟩
  · rintro ⟨e, Q, m, hh⟩
    refine .inr ⟨e, p, takes_mem.mpr ⟨decide_eq_true rfl, ?_⟩, by rw [len]; exact (hold_maj len).mpr ⟨Q, m, hh⟩⟩
    obtain ⟨n, hn⟩ := m.some_
    obtain ⟨k, hk, hx⟩ := hh n hn
    exact ⟨k, List.mem_of_getElem? hk, hx⟩
def spSettledAt (K : PySem.W.Frag) (CK : Addr) : Sp := fun vs H Q _ => ∃ (kl : Addr) (p B : Nat) (ks : List KeS), vs = [.ref kl, .int p] ∧ KsAt K CK H kl B ks ∧
  ∀ (q : Addr) (H' : Hp), H q = none → Same H H' → LD K H' q ((setOf p ks).map En.d) → Q (.ref q) H'
theorem rv_inDT {H : Hp} {x y : V} {d : PyData} {ds : List PyData} {b : Bool} (hx : Dp K H x d) (hy : Dp K H y (.tuple ds)) (sd : sdD d = true) (se : sdA ds = true) (nd : d.depth ≤ 62) (hb : b = true ↔ d ∈ ds) : RV (rInDT K) x y H (.bl b) := fun H1 e Q q =>
  ⟨d, ds, b, dp_ex e d x hx, dp_ex e _ y hy, sd, se, nd, hb, q H1 (Ex.refl _)⟩
theorem scSetAt : FnScope ["keepers", "place", "entries", "take", "holders", "keeper"] ["keepers", "place"] (defScope sSettledAt) := ⟨rfl, rfl, rfl, by decide +kernel, rfl, by decide +kernel, by decide +kernel⟩
theorem ok_setAt {f : Addr} {fd : FuncData} (F : Fun K "settled_at" "settled_at" sSettledAt f fd) (T : TxK K mg CK CN) (c_takes_at : Cal P w K mg base 1 "takes_at" ["keepers", "place"] (spTakesAt K CK)) (c_most_of : Cal P w K mg base 1 "most_of" ["many"] spMost) : FnOk P w K mg base CX0 2 f fd ["keepers", "place"] (spSettledAt K CK) := by
  refine F.ok scSetAt (fun vs H Q E h => ?_) (fun cdv A outer s H vs Q E hr h => ?_)
  · obtain ⟨kl, p, B, ks, rfl, _⟩ := h
    rfl
  · obtain ⟨kl, p, B, ks, rfl, KA, k⟩ := h
    refine ⟨_, (pss_cons (ps_set (i := 2) scSetAt.nd rfl (Or.inl rfl) (pe_lst pa_nil))
      (pss_cons (ps_for PassesOwn.never rfl (pi_list (pe_cal c_takes_at (hr.mono (by decide)) rfl (pa_cons (pv 0) (pa_cons (pv 1) pa_nil)))) (pg_name (i := 3) scSetAt.nd rfl (Or.inr rfl))
        (pss_cons (ps_setLc (i := 4) (own := [("keeper", 5)]) (g := gName 5) rfl scSetAt.nd rfl rfl (sw_true rfl rfl rfl (by decide +kernel)) (pi_list (pv 0)) (blkOk_by (own := [("keeper", 5)]) (N := ["keepers", "place", "entries", "take", "holders", "keeper"]) (sc := defScope sSettledAt) (by decide +kernel)) (fun _ _ _ _ _ => pg_name (i := 5) scSetAt.nd rfl (Or.inl rfl)) (fun _ _ _ _ _ => pts_one (pt_cmpR (op_inDT (K := K) rfl hr.units) (pv 3) (pe_fldK (K := K) rfl (pv 5) rfl) (by rfl))) (fun _ _ _ _ _ => (pv 5)))
        (pss_one (ps_if (PW.pt (pw_and (pt_cmpR op_ge (pe_callB call_len_seq (by rfl) T.len PySem.boot_len (pa_cons (pv 4) pa_nil)) (pe_cal c_most_of (hr.mono (by decide)) rfl (pa_cons (pe_callB call_len_seq (by rfl) T.len PySem.boot_len (pa_cons (pv 0) pa_nil)) pa_nil)) (nomark _)) (pw_and1 (pt_cmpR (op_ninDL (K := K) rfl hr.units) (pe_ix ix_tup (pv 3) pe_int (fun _ _ => rfl)) (pv 2) (by rfl)))))
          (pss_one (ps_expr (pe_bm PySem.F.plainAttrs_list PySem.F.slot_list_append PySem.F.type_list_append mt_append (pv 2) (pa_cons (pe_ix ix_tup (pv 3) pe_int (fun _ _ => rfl)) pa_nil))))
          pss_nil))))
      (pss_one (ps_ret (pv 2))))), ?_⟩
    refine ⟨Nat.zero_le _, fun q hq => ?_⟩
    have s0 : Same H (upd H q (.lst [])) := Same.new hq
    have hq0 : upd H q (.lst []) q = some (.lst []) := upd_same
    refine ⟨_, rfl, _, rfl, kl, p, B, ks, rfl, KA.same s0, fun t H1 ht s1 ld => ?_⟩
    obtain ⟨us, hus, dus⟩ := ld
    have s01 := Same.tr s0 s1
    have lus : us.length = (takesOf p ks).length := by rw [dpA_len dus, List.length_map]
    refine ⟨t, rfl, ⟨_, SqL.of hus⟩, for_list (K := K) (a := t) (xs := us) (fun j σ H' => ∃ o3 o4 o5 : Option V, σ = [some (.ref kl), some (.int p), some (.ref q), o3, o4, o5] ∧ Same H H' ∧ Ks H1 H' ∧ H' t = some (.lst us) ∧ LD K H' q ((((takesOf p ks).take j).foldl (setStep ks) []).map En.d)) ?_ ?_ ?_ ?_⟩
    · exact ⟨none, none, none, rfl, s01, Ks.refl _, hus, [], s1 _ _ hq0, .nil⟩
    · rintro j σ H' _ ⟨_, _, _, rfl, _, _, h, _⟩
      exact SqL.of h
    · rintro j y σ H2 hj ⟨o3, o4, o5, rfl, s2, k2, ht2, ⟨ws, hq2, dws⟩⟩
      obtain ⟨dd, hd, dy⟩ := dpA_at dus hj
      rw [List.getElem?_map] at hd
      obtain ⟨x, hx, rfl⟩ := Option.map_eq_some_iff.mp hd
      have dy := dp_tp k2.tp _ _ (tp_rec x) dy
      have e2 : ((takesOf p ks).take (j + 1)).foldl (setStep ks) [] = setStep ks (((takesOf p ks).take j).foldl (setStep ks) []) x := by
        rw [List.take_add_one, hx, List.foldl_append]; rfl
      rw [e2]
      obtain ⟨hat, kx, hkx, hxk⟩ := takes_mem.mp (List.mem_of_getElem? hx)
      have xok := (KA.rcs kx hkx).2 x hxk
      have les : (((takesOf p ks).take j).foldl (setStep ks) []).length ≤ 960000 := by
        have h1 := foldS_len (ks := ks) (rs := (takesOf p ks).take j) (es := [])
        have h2 := foldK_len (p := p) (ks := ks) (ts := []) fun x hx => (KA.rcs x hx).1
        have h3 : ks.length * B ≤ 960000 := Nat.le_trans (Nat.mul_le_mul KA.len KA.bd) (by decide)
        rw [List.length_take] at h1
        unfold takesOf at h1 ⊢
        simp only [List.length_nil] at *
        omega
      have oks : ∀ z ∈ ((takesOf p ks).take j).foldl (setStep ks) [], z.ok := fun z hz => by
        rcases foldS_mem.mp hz with hz | ⟨e, p2, hz, _⟩
        · exact nomatch hz
        · obtain ⟨_, k3, hk3, h3⟩ := takes_mem.mp (List.mem_of_mem_take hz)
          exact (KA.rcs k3 hk3).2 _ h3
      generalize ((takesOf p ks).take j).foldl (setStep ks) [] = es at dws les oks
      have lws : ws.length = es.length := by rw [dpA_len dws, List.length_map]
      cases x with
      | prom e => exact nomatch hat
      | take e pl x =>
        obtain ⟨c, xv, rfl, sq, dxv⟩ := dp_take dy
        obtain ⟨⟨as, hk, pk⟩, hl, hrec, hB⟩ := KA.same s2
        obtain ⟨zs, ez1, ez2, hzs⟩ := prd_zip pk
        have lzs : zs.length = ks.length := by rw [ez2, List.length_map]
        have hi := ei_L (K := K) (tl := tVar 0) (σ := [some (.ref kl), some (.int p), some (.ref q), some (.ref c), o4, o5]) (H := H2) (ev_var rfl) (SqL.of hk)
        have e1 : as.map V.ref = zs.map fun y => V.ref y.1 := by rw [ez1, List.map_map]; rfl
        rw [e1] at hi
        have evL : EvL (tLc (iList K (tVar 0)) (gName 5) (tTest (tOp (rInDT K) (tVar 3) (tFld K (tVar 5) "records"))) (tVar 5) [5]) [some (.ref kl), some (.int p), some (.ref q), some (.ref c), o4, o5] H2 ((zs.filter fun y => decide (Rec.take e pl x ∈ y.2.rs)).map fun y => V.ref y.1) := by
          refine el_fI (j := 5) (vs := [5]) (c := fun y : Addr × KeS => V.ref y.1) (fun y => decide (Rec.take e pl x ∈ y.2.rs)) (fun y => V.ref y.1) hi (by omega) (fun i y hy H' ex => ?_) (fun i y hy _ H' ex => ev_var rfl) (fun _ => rfl)
          have hym := List.mem_of_getElem? hy
          have hyk : y.2 ∈ ks := by rw [ez2]; exact List.mem_map.mpr ⟨y, hym, rfl⟩
          obtain ⟨dx, r, lo, wa, h1, tdr, _⟩ := (hzs y hym).same ex
          refine et_test (ev_op (ev_var (i := 3) rfl) (ev_fld (ev_var (i := 5) rfl) h1 T.cl T.nRec rfl) (rv_inDT (dp_ex ex _ _ dy) tdr.dp (sd_rec xok) (sdA_map fun z hz => sd_rec ((hrec _ hyk).2 z hz)) (Nat.le_trans (dep_rec _) (by decide)) ?_))
          rw [mem_map_inj (fun a b => Rec.inj), decide_eq_true_iff]
        have lhold : (zs.filter fun y => decide (Rec.take e pl x ∈ y.2.rs)).length = (hold ks (.take e pl x)).length := by
          unfold hold
          rw [ez2, List.filter_map, List.length_map]; rfl
        have hk2 := hk
        refine q_asgL evL fun D H3 hD x3 hD3 => ?_
        have hk3 := x3 _ _ hk
        have hq3 := x3 _ _ hq2
        have sq3 := sqt_ks sq (Ks.same x3)
        have lD : ((zs.filter fun y => decide (Rec.take e pl x ∈ y.2.rs)).map fun y => V.ref y.1).length = (hold ks (.take e pl x)).length := by rw [List.length_map, lhold]
        have las : (as.map V.ref).length = ks.length := by rw [e1, List.length_map, lzs]
        have stay : setStep ks es (.take e pl x) = es → ∃ p3 p4 p5 : Option V, [some (V.ref kl), some (.int p), some (.ref q), some (.ref c), some (.ref D), o5] = [some (.ref kl), some (.int p), some (.ref q), p3, p4, p5] ∧ Same H H3 ∧ Ks H1 H3 ∧ H3 t = some (.lst us) ∧ LD K H3 q ((setStep ks es (.take e pl x)).map En.d) := fun e => by
          rw [e]; exact ⟨_, _, _, rfl, Same.tr s2 x3, k2.trans (Ks.same x3), x3 _ _ ht2, ws, hq3, dpA_tp (Tp.same x3) _ _ (tpAE _) dws⟩
        refine ⟨_, rfl, D, _, rfl, .inl (SqL.of hD3), _, rfl, kl, _, rfl, .inl (SqL.of hk3), ks.length, by rw [las]; rfl, ?_⟩
        refine ⟨_, _, rfl, rfl, _, rfl, ?_⟩
        rw [lD]
        have eg : (((hold ks (.take e pl x)).length : Nat) : Int) ≥ ((most ks.length : Nat) : Int) ↔ most ks.length ≤ (hold ks (.take e pl x)).length := Int.ofNat_le
        refine ite2 (fun hm => ?_) (fun hm => ?_)
        · have hm := eg.mp (of_decide_eq_true hm)
          refine ⟨_, rfl, c, _, 3, xv, rfl, rfl, sq3, rfl, _, rfl, x.d, es.map En.d, decide (x ∈ es), dp_tp (Tp.same x3) _ _ (tp_en x) dxv, LD.dp ⟨ws, hq3, dpA_tp (Tp.same x3) _ _ (tpAE _) dws⟩, En.sd xok, sdA_map fun z hz => En.sd (oks z hz), Nat.le_trans (En.dep _) (by decide), ?_, _, rfl, ?_⟩
          · rw [mem_map_inj (fun a b => En.inj), decide_eq_true_iff]
          refine ite2 (fun hn => ?_) (fun hn => ?_)
          · have hn : x ∉ es := by simpa using hn
            have e3 : setStep ks es (.take e pl x) = es ++ [x] := if_pos ⟨hm, hn⟩
            rw [e3]
            have kk := Ks.lst (o' := .lst (ws ++ [xv])) hq3
            refine ⟨_, rfl, .inl ⟨rfl, _, SqL.of hq3⟩, _, rfl, c, _, 3, xv, rfl, rfl, sq3, rfl, q, _, _, rfl, rfl, hq3, by rw [lws, sizeLine_eq]; omega, ?_⟩
            have ntq : t ≠ q := fun e => by rw [e, hq0] at ht; cases ht
            refine ⟨_, _, _, rfl, fun b o z => by rw [upd_ne (fun e => by rw [e, hq] at z; cases z)]; exact x3 _ _ (s2 _ _ z), k2.trans ((Ks.same x3).trans kk), by rw [upd_ne ntq]; exact x3 _ _ ht2, ⟨_, upd_same, ?_⟩⟩
            rw [List.map_append]
            exact dpA_app (dpA_tp ((Tp.same x3).trans kk.tp) _ _ (tpAE _) dws) (.cons (dp_tp ((Tp.same x3).trans kk.tp) _ _ (tp_en _) dxv) .nil)
          · have hn : x ∈ es := by simpa using hn
            exact stay (if_neg fun z => z.2 hn)
        · have hm : ¬ most ks.length ≤ (hold ks (.take e pl x)).length := fun z => hm (decide_eq_true (eg.mpr z))
          exact stay (if_neg fun z => hm z.1)
    · rintro σ H2 ⟨o3, o4, o5, rfl, s2, _, _, ld⟩
      rw [lus, List.take_length] at ld
      exact ⟨_, rfl, k q H2 hq s2 ld⟩
def spSetRow (K : PySem.W.Frag) (CK : Addr) : Sp := fun vs H Q _ => ∃ (kl : Addr) (B many : Nat) (w : Cw), vs = [.ref kl] ∧ KsAt K CK H kl B w.ks ∧ CwOk B many w ∧
  ∀ (q : Addr) (H' : Hp) (R : List En), H q = none → Same H H' → RowS many w R → R.length ≤ B → (∀ x ∈ R, x.ok) → TD K H' q (R.map En.d) → Q (.ref q) H'
theorem scSetRow : FnScope ["keepers", "row", "entries"] ["keepers"] (defScope sSettledRow) := ⟨rfl, rfl, rfl, by decide +kernel, rfl, by decide +kernel, by decide +kernel⟩
theorem ok_setRow {f : Addr} {fd : FuncData} (F : Fun K "settled_row" "settled_row" sSettledRow f fd) (T : TxK K mg CK CN) (c_settled_at : Cal P w K mg base 2 "settled_at" ["keepers", "place"] (spSettledAt K CK)) : FnOk P w K mg base CX0 3 f fd ["keepers"] (spSetRow K CK) := by
  refine F.ok scSetRow (fun vs H Q E h => ?_) (fun cdv A outer s H vs Q E hr h => ?_)
  · obtain ⟨kl, B, many, w, rfl, _⟩ := h
    rfl
  · obtain ⟨kl, B, many, v, rfl, KA, ok, k⟩ := h
    refine ⟨_, (pss_cons (ps_set (i := 1) scSetRow.nd rfl (Or.inl rfl) (pe_lst pa_nil))
      (pss_cons (ps_set (i := 2) scSetRow.nd rfl (Or.inl rfl) (pe_cal c_settled_at (hr.mono (by decide)) rfl (pa_cons (pv 0) (pa_cons pe_int pa_nil))))
      (pss_cons (ps_while PassesOwn.never (pt_truthK (K := K) rfl (pv 2) (by intro _; rfl))
        (pss_cons (ps_expr (pe_bm PySem.F.plainAttrs_list PySem.F.slot_list_append PySem.F.type_list_append mt_append (pv 1) (pa_cons (pe_ix ix_list (pv 2) pe_int (fun _ _ => rfl)) pa_nil)))
        (pss_one (ps_set (i := 2) scSetRow.nd rfl (Or.inl rfl) (pe_cal c_settled_at (hr.mono (by decide)) rfl (pa_cons (pv 0) (pa_cons (pe_callB call_len_seq (by rfl) T.len PySem.boot_len (pa_cons (pv 1) pa_nil)) pa_nil)))))))
      (pss_one (ps_ret (pe_tupleOf (by rfl) T.tuple (pv 1))))))), ?_⟩
    refine ⟨Nat.zero_le _, fun q hq => ?_⟩
    have s0 : Same H (upd H q (.lst [])) := Same.new hq
    have hq0 : upd H q (.lst []) q = some (.lst []) := upd_same
    refine ⟨_, rfl, kl, 0, B, v.ks, rfl, KA.same s0, fun e H1 he s1 ld => ?_⟩
    have neq : e ≠ q := fun z => by rw [z, hq0] at he; cases he
    refine q_while (fun m σ' H' => ∃ (e : Addr) (R : List En), σ' = [some (.ref kl), some (.ref q), some (.ref e)] ∧ Same H H' ∧ LD K H' q (R.map En.d) ∧ LD K H' e ((setOf R.length v.ks).map En.d) ∧ e ≠ q ∧ (∀ (p : Nat) (x : En), R[p]? = some x → SetAt many v p x) ∧ R.length ≤ B ∧ m = B - R.length) (B - 0) ⟨e, [], rfl, Same.tr s0 s1, ⟨[], s1 _ _ hq0, .nil⟩, ld, neq, (fun p x h => (nomatch h)), Nat.zero_le _, rfl⟩ ?_
    rintro m σ' H2 ⟨e, R, rfl, s2, ⟨ws, hq2, dws⟩, ⟨us, he2, dus⟩, neq, hR, lR, rfl⟩
    have lus : us.length = (setOf R.length v.ks).length := by rw [dpA_len dus, List.length_map]
    have SL := set_ok (p := R.length) ok.len
    have lws : ws.length = R.length := by rw [dpA_len dws, List.length_map]
    refine ⟨!us.isEmpty, fun H3 x3 Q q => ⟨_, rfl, _, .inl ⟨us, SqL.of (x3 _ _ he2), rfl⟩, q H3 (Ex.refl _)⟩, fun hb H3 x3 => ?_, fun hb H3 x3 => ?_⟩
    · have hne : setOf R.length v.ks ≠ [] := fun z => by
        rw [z] at lus
        rw [List.length_eq_zero_iff.mp lus] at hb
        cases hb
      obtain ⟨x, xs, ex⟩ := List.exists_cons_of_ne_nil hne
      have hx : SetAt many v R.length x := (SL.mem x).mp (by rw [ex]; exact .head _)
      have hlt := hx.lt ok
      rw [ex] at dus
      cases dus with
      | @cons xv us _ _ dxv dus =>
      have hq3 := x3 _ _ hq2
      have he3 := x3 _ _ he2
      have kk := Ks.lst (o' := .lst (ws ++ [xv])) hq3
      have dxv3 := dp_tp ((Tp.same x3).trans kk.tp) _ _ (tp_en x) dxv
      have lenS : (setOf R.length v.ks).length = (xv :: us).length := lus.symm
      refine ⟨fun σ2 H' => ∃ (e : Addr) (R' : List En), σ2 = [some (.ref kl), some (.ref q), some (.ref e)] ∧ Same H H' ∧ LD K H' q (R'.map En.d) ∧ LD K H' e ((setOf R'.length v.ks).map En.d) ∧ e ≠ q ∧ (∀ (p : Nat) (x : En), R'[p]? = some x → SetAt many v p x) ∧ R'.length ≤ B ∧ R'.length = R.length + 1, ?_, ?_⟩
      · rintro σ2 H' ⟨e', R', rfl, a1, a2, a3, a4, a5, a6, a7⟩
        exact ⟨B - R'.length, by omega, e', R', rfl, a1, a2, a3, a4, a5, a6, rfl⟩
      refine ⟨_, rfl, .inl ⟨rfl, _, SqL.of hq3⟩, _, rfl, e, _, 0, xv, rfl, rfl, SqL.of he3, atN (j := 0) rfl rfl, q, _, _, rfl, rfl, hq3, by rw [lws, sizeLine_eq]; have := KA.bd; omega, ?_⟩
      have s4 : Same H (upd H3 q (.lst (ws ++ [xv]))) := fun b o z => by rw [upd_ne (fun e => by rw [e, hq] at z; cases z)]; exact x3 _ _ (s2 _ _ z)
      have hq4 : upd H3 q (.lst (ws ++ [xv])) q = some (.lst (ws ++ [xv])) := upd_same
      refine ⟨_, rfl, _, rfl, q, _, rfl, .inl (SqL.of hq4), kl, (R ++ [x]).length, B, v.ks, by rw [List.length_append, List.length_append, lws]; rfl, KA.same s4, fun e5 H5 he5 s5 ld5 => ?_⟩
      refine ⟨e5, R ++ [x], rfl, Same.tr s4 s5, ⟨_, s5 _ _ hq4, ?_⟩, ld5, (fun z => by rw [z, hq4] at he5; cases he5), fun p y hp => ?_, by rw [List.length_append, List.length_singleton]; omega, by rw [List.length_append, List.length_singleton]⟩
      · rw [List.map_append]
        exact dpA_app (dpA_tp (((Tp.same x3).trans kk.tp).trans (Tp.same s5)) _ _ (tpAE _) dws) (.cons (dp_tp (Tp.same s5) _ _ (tp_en _) dxv3) .nil)
      · by_cases c : p < R.length
        · rw [List.getElem?_append_left c] at hp
          exact hR p y hp
        · have hl := (List.getElem?_eq_some_iff.mp hp).1
          rw [List.length_append, List.length_singleton] at hl
          have : p = R.length := by omega
          subst this
          rw [List.getElem?_append_right (Nat.le_refl _), Nat.sub_self] at hp
          cases hp
          exact hx
    · have hnil : setOf R.length v.ks = [] := by
        have : us = [] := by simpa using hb
        rw [this] at lus
        exact List.length_eq_zero_iff.mp lus.symm
      refine s_retU (eu_tupL (ev_var rfl) (SqL.of (x3 _ _ hq2))) fun t H4 ht x4 ht4 => ?_
      refine k t H4 R (fresh_back (Same.tr s2 x3) ht) (Same.tr s2 (Same.tr x3 x4)) ⟨hR, fun x hx => ?_⟩ lR (fun x hx => ?_) ⟨ws, ht4, dpA_tp (Tp.same (Same.tr x3 x4)) _ _ (tpAE _) dws⟩
      · have := (SL.mem x).mpr hx
        rw [hnil] at this
        exact nomatch this
      · obtain ⟨p, hp⟩ := List.mem_iff_getElem?.mp hx
        exact (hR p x hp).ok ok
theorem KsAt.of {H : Hp} {g : Sf} {v : Cw} {B many : Nat} (sd : SdAt K CK CS H g v) (ok : CwOk B many v) (hm : many ≤ 60) (hB : B ≤ 16000) : KsAt K CK H g.kl B v.ks := by
  refine ⟨⟨g.ks, sd.hk, sd.pk⟩, by rw [ok.len]; exact hm, fun k hk => ?_, hB⟩
  obtain ⟨i, hi⟩ := List.mem_iff_getElem?.mp hk
  have kok := ok.ks i k hi
  have := kok.len
  rw [List.length_append] at this
  exact ⟨by omega, fun r hr => kok.ok r (List.mem_append.mpr (.inl hr))⟩
def spSetC (K : PySem.W.Frag) (CC CK CS : Addr) : Sp := fun vs H Q _ => ∃ (c ll : Addr) (g : Sf) (w : Cw) (ls : List Ltr) (B many : Nat), vs = [.ref c] ∧ CnAt K CC CK CS H c ll g w ls ∧ CwOk B many w ∧ many ≤ 60 ∧ B ≤ 16000 ∧
  ∀ (q : Addr) (H' : Hp) (R : List En), H q = none → Same H H' → RowS many w R → R.length ≤ B → (∀ x ∈ R, x.ok) → TD K H' q (R.map En.d) → Q (.ref q) H'
theorem scCnSettled : FnScope ["self"] ["self"] (defScope sCnSettled) := ⟨rfl, rfl, rfl, by decide +kernel, rfl, by decide +kernel, by decide +kernel⟩
theorem ok_cnsettled {f : Addr} {fd : FuncData} (F : Fun K "settled" "Council.settled" sCnSettled f fd) (T : TxC K mg CC) (c_settled_row : Cal P w K mg base 3 "settled_row" ["keepers"] (spSetRow K CK)) : FnOk P w K mg base CX0 4 f fd ["self"] (spSetC K CC CK CS) := by
  refine F.ok scCnSettled (fun vs H Q E h => ?_) (fun cdv A outer s H vs Q E hr h => ?_)
  · obtain ⟨c, ll, g, w, ls, B, many, rfl, _⟩ := h
    rfl
  · obtain ⟨c, ll, g, v, ls, B, many, rfl, CN, ok, hm, hB, k⟩ := h
    refine ⟨_, (pss_one (ps_ret (pe_cal c_settled_row (hr.mono (by decide)) rfl (pa_cons (pe_fld (pv 0) rfl) pa_nil)))), ?_⟩
    obtain ⟨⟨dx, hc⟩, _, sd, _⟩ := id CN
    exact ⟨_, rfl, c, CC, dx, _, _, rfl, hc, T.cl, T.nKe, rfl, g.kl, B, many, v, rfl, KsAt.of sd ok hm hB, ok, k⟩
end
end Mc.Cn
namespace Mc.Cn
open PySem L2 PySem.Spec PyProof.Rows Evl LamX NdefX
/-! tests and comprehensions that draw -/
theorem told_ep (s : SqS) (n : Nat) (r : Row) : (s.told n r).ep = s.ep := by unfold SqS.told; dsimp only; split <;> rfl
theorem hear_ep (s : SqS) (l : Ltr) : (s.hear l).ep = s.ep := by
  unfold SqS.hear
  split
  · rfl
  · cases l with
    | told e n r => dsimp only; split; exact told_ep s n r; rfl
    | taken e n p => dsimp only; split <;> rfl
    | _ => rfl
theorem bring_ep (v : Cw) (l : Ltr) : (v.bring l).ss.map (·.ep) = v.ss.map (·.ep) := by
  unfold Cw.bring
  split
  · show (v.ss.map (·.hear l)).map (·.ep) = _
    rw [List.map_map]
    exact List.map_congr_left fun s _ => hear_ep s l
  · rfl
theorem brings_ep : ∀ (ls : List Ltr) (v : Cw), (v.brings ls).ss.map (·.ep) = v.ss.map (·.ep)
  | [], _ => rfl
  | l :: ls, v => (brings_ep ls (v.bring l)).trans (bring_ep v l)
theorem flushed_ep (v : Cw) (n : Nat) : (v.flushed n).ss.map (·.ep) = v.ss.map (·.ep) := brings_ep _ _
theorem exchange_ep (v : Cw) (i : Nat) (up : List Nat) : (v.exchange i up).ss.map (·.ep) = v.ss.map (·.ep) := by
  have : ∀ (xs : List Nat) (u : Cw), (xs.foldl Cw.flushed u).ss.map (·.ep) = u.ss.map (·.ep) := by
    intro xs
    induction xs with
    | nil => exact fun _ => rfl
    | cons x xs ih => exact fun u => (ih _).trans (flushed_ep u x)
  exact (this up _).trans (brings_ep _ _)
section
variable {K : PySem.W.Frag} {d a : Addr}
/-- what stands while numbers are drawn -/
structure Dws (K : PySem.W.Frag) (d a : Addr) (Wp : Hp → Prop) : Prop where
  dr : ∀ H, Wp H → Dr K [d] d a H
  ex : ∀ H H', Wp H → Ex H H' → Wp H'
  nx : ∀ H H', Wp H → (∃ k : Int, H' d = some (.lst [.ref a, .int k])) → Kp [d] H H' → Wp H'
theorem if_draw {Wp : Hp → Prop} (X : Dws K d a Wp) {ta tb : TS} {D : Ends} {σ : L2.St} {H : Hp} {kd k r : Int} (h0 : σ[8]? = some (some (.int kd))) (h1 : σ[1]? = some (some (.ref d))) (hr : 0 < r) (W : Wp H) (pa : ∀ H', Wp H' → ta D σ H') (pb : ∀ H', Wp H' → tb D σ H') :
    tIfS (tAnd (tTest (tOp rEq (tVar 8) (tC (.int k)))) (tTest (tOp rEq (tCall (spTake K) [] E0 (tCons (tVar 1) (tCons (tC (.int r)) tNil))) (tC (.int 0))))) ta tb D σ H := by
  refine ⟨_, h0, rfl, _, rfl, ?_⟩
  refine ite2 (fun _ => ?_) (fun _ => ?_)
  · refine ⟨_, h1, [d], d, a, r, rfl, X.dr _ W, hr, fun v H' _ _ D' kp => ⟨rfl, _, rfl, ?_⟩⟩
    have W' := X.nx _ _ W D'.at_ kp
    exact ite2 (fun _ => pa _ W') (fun _ => pb _ W')
  · exact ite2 (fun h => nomatch h) (fun _ => pb _ W)
theorem tk_snoc {n i : Nat} (h : i < n) : (List.range n)[i]? = some i := List.getElem?_range h
theorem lc_pick {Wp : Hp → Prop} (X : Dws K d a Wp) {ta : TA} {σ : L2.St} {H : Hp} {Q : VK} {n : Nat} (h1 : ∀ v, ((wipe σ [15]).set 15 (some v))[1]? = some (some (.ref d))) (h15 : ∀ v, ((wipe σ [15]).set 15 (some v))[15]? = some (some v)) (hw : ∀ v, wipe ((wipe σ [15]).set 15 (some v)) [15] = wipe σ [15]) (hta : EvA ta σ H [.int n]) (hn : n ≤ 1000) (W : Wp H)
    (q : ∀ (p : Addr) (up : List Nat) (H' : Hp), H p = none → Wp H' → H' p = some (.lst (up.map fun x : Nat => V.int x)) → (∀ x ∈ up, x < n) → up.length ≤ n → (∀ b o, b ≠ d → H b = some o → H' b = some o) → Q (.ref p) H') :
    tLc (iRng1 ta) (gName 15) (tTest (tOp rEq (tCall (spTake K) [] E0 (tCons (tVar 1) (tCons (tC (.int 2)) tNil))) (tC (.int 0)))) (tVar 15) [15] σ H Q := by
  refine hta H (Ex.refl _) _ fun H2 x2 => ⟨(n : Int), rfl, by omega, by omega, fun D hD => ?_⟩
  have W2 := X.ex _ _ W x2
  rw [Int.toNat_natCast]
  refine lc_it (walk_rng (lo := 0) (n := n)) (fun i H' => ∃ (G : Hp) (up : List Nat), Wp G ∧ G D = none ∧ (∀ b o, b ≠ D → G b = some o → H' b = some o) ∧ (∀ b o, b ≠ D → H' b = some o → G b = some o) ∧ H' D = some (.lst (up.map fun x : Nat => V.int x)) ∧ (∀ x ∈ up, x < n) ∧ up.length ≤ i ∧ (∀ b o, b ≠ d → H2 b = some o → G b = some o))
    ⟨H2, [], W2, hD, fun b o nb z => by rw [upd_ne nb]; exact z, fun b o nb z => by rw [upd_ne nb] at z; exact z, upd_same, fun _ h => (nomatch h), Nat.le_refl _, fun _ _ _ z => z⟩ (fun _ _ _ _ => trivial) ?_ ?_
  · rintro i x H3 H4 hi ⟨G, up, WG, hGD, f1, f2, hD3, hup, hul, hold⟩ ⟨rfl, hx⟩
    rw [List.getElem?_map, List.getElem?_range hi] at hx
    obtain rfl := (Option.some.inj hx).symm
    have x3 : Ex G H4 := fun b o z => f1 b o (fun e => by rw [e, hGD] at z; cases z) z
    have W3 := X.ex _ _ WG x3
    obtain ⟨k0, hd0⟩ := (X.dr _ WG).at_
    have nDd : D ≠ d := fun e => by rw [← e, hGD] at hd0; cases hd0
    refine ⟨hw _, ?_⟩
    refine ⟨_, h1 _, [d], d, a, 2, rfl, X.dr _ W3, by decide, fun v H5 _ _ D5 kp5 => ⟨rfl, _, rfl, ?_⟩⟩
    have hD5 := kp5 _ _ hD3 (by simpa using nDd)
    -- the heap without the new list
    have WG5 : Wp (fun b => if b = D then none else H5 b) := by
      refine X.nx _ _ WG ?_ fun b o z nb => ?_
      · obtain ⟨k, hk⟩ := D5.at_
        exact ⟨k, by rw [if_neg nDd.symm]; exact hk⟩
      · have nbD : b ≠ D := fun e => by rw [e, hGD] at z; cases z
        show (if b = D then none else H5 b) = some o
        rw [if_neg nbD]
        exact kp5 _ _ (f1 b o nbD z) nb
    have old5 : ∀ b o, b ≠ d → H2 b = some o → (fun b => if b = D then none else H5 b) b = some o := fun b o nb z => by
      have g := hold b o nb z
      have nbD : b ≠ D := fun e => by rw [e, hGD] at g; cases g
      show (if b = D then none else H5 b) = some o
      rw [if_neg nbD]
      exact kp5 _ _ (f1 b o nbD g) (by simpa using nb)
    refine ite2 (fun _ => ?_) (fun _ => ?_)
    · refine ⟨_, h15 _, _, hD5, by rw [List.length_map, sizeLine_eq]; omega, fun b => if b = D then none else H5 b, up ++ [i], WG5, if_pos rfl, fun b o nb z => ?_, fun b o nb z => ?_, ?_, fun x hx => ?_, by rw [List.length_append]; simp; omega, old5⟩
      · have z : (if b = D then none else H5 b) = some o := z
        rw [if_neg nb] at z
        rw [upd_ne nb]; exact z
      · rw [upd_ne nb] at z
        show (if b = D then none else H5 b) = some o
        rw [if_neg nb]; exact z
      · rw [upd_same, List.map_append]
        have e : (0 : Int) + (i : Nat) = (i : Nat) := by omega
        dsimp only [List.map]
        rw [e]
      · rcases List.mem_append.mp hx with hx | hx
        · exact hup x hx
        · rw [List.mem_singleton.mp hx]; exact hi
    · refine ⟨fun b => if b = D then none else H5 b, up, WG5, if_pos rfl, fun b o nb z => ?_, fun b o nb z => ?_, hD5, hup, Nat.le_succ_of_le hul, old5⟩
      · have z : (if b = D then none else H5 b) = some o := z
        rw [if_neg nb] at z; exact z
      · show (if b = D then none else H5 b) = some o
        rw [if_neg nb]; exact z
  · rintro H3 ⟨G, up, WG, hGD, f1, f2, hD3, hup, hul, hold⟩
    have x3 : Ex G H3 := fun b o z => f1 b o (fun e => by rw [e, hGD] at z; cases z) z
    exact q D up H3 (fresh_back x2 hD) (X.ex _ _ WG x3) hD3 hup hul fun b o nb z => x3 _ _ (hold b o nb (x2 _ _ z))
variable {CC CK CS : Addr} {TT : List NTab} {c ll lt : Addr} {g1 g2 : Sf} {w1 w2 : Cw} {l1 l2 : List Ltr}
theorem W49.drawAt {H H' : Hp} (W : W49 K CC CK CS TT d a c ll lt g1 g2 w1 l1 w2 l2 H) (hd : ∃ k : Int, H' d = some (.lst [.ref a, .int k])) (kp : Kp [d] H H') : W49 K CC CK CS TT d a c ll lt g1 g2 w1 l1 w2 l2 H' := by
  refine W.draw ?_ kp
  obtain ⟨k, hk⟩ := hd
  exact W.dz.dr.next kp hk
theorem W49.dws : Dws K d a (W49 K CC CK CS TT d a c ll lt g1 g2 w1 l1 w2 l2) := ⟨fun _ W => W.dz.dr, fun _ _ W x => W.ex x, fun _ _ W h k => W.drawAt h k⟩
end
end Mc.Cn
namespace Mc.Cn
open PySem L2 PySem.Spec PyProof.Rows Evl LamX NdefX
/-! the law's world: one council, a draw; what is known of it; lists that pop -/
structure P40 (B L m : Nat) (v : Cw) (ls : List Ltr) : Prop where
  ok : CwOk B m v
  lk : ∀ l ∈ ls, l.ok B m
  ll : ls.length ≤ L
  ss : v.ss.length ≤ 9
  ep : ∀ s ∈ v.ss, 0 ≤ s.ep ∧ s.ep ≤ 60
  sf : Sfe m v ls
  pos : 0 < m
theorem P40.mono {B B' L L' m : Nat} {v : Cw} {ls : List Ltr} (h : P40 B L m v ls) (b : B ≤ B') (l : L ≤ L') : P40 B' L' m v ls := ⟨h.ok.mono b, fun x hx => (h.lk x hx).mono b, Nat.le_trans h.ll l, h.ss, h.ep, h.sf, h.pos⟩
theorem ss_of {v v' : Cw} (e : v'.ss.map (·.ep) = v.ss.map (·.ep)) (h : v.ss.length ≤ 9) (k : ∀ s ∈ v.ss, 0 ≤ s.ep ∧ s.ep ≤ 60) : v'.ss.length ≤ 9 ∧ ∀ s ∈ v'.ss, 0 ≤ s.ep ∧ s.ep ≤ 60 := by
  constructor
  · have := congrArg List.length e
    rw [List.length_map, List.length_map] at this
    omega
  · intro x hx
    have : x.ep ∈ v.ss.map (·.ep) := by rw [← e]; exact List.mem_map.mpr ⟨x, hx, rfl⟩
    obtain ⟨y, hy, ey⟩ := List.mem_map.mp this
    rw [← ey]; exact k y hy
theorem P40.start {m : Nat} (h : 0 < m) : P40 0 0 m ⟨(List.range m).map KeS.new, []⟩ [] := ⟨cw_new, fun _ h => (nomatch h), Nat.le_refl _, Nat.zero_le _, fun _ h => (nomatch h), Sfe.start, h⟩
section
variable {B L m i n : Nat} {v : Cw} {ls : List Ltr} {s : SqS}
theorem P40.exch {up : List Nat} (h : P40 B L m v ls) : P40 (B + m) L m (v.exchange i up) ls ∧ RsG v (v.exchange i up) := by
  obtain ⟨a, b⟩ := ss_of (exchange_ep v i up) h.ss h.ep
  have st := h.sf.exchange (i := i) (up := up)
  exact ⟨⟨h.ok.exchange, fun x hx => (h.lk x hx).mono (Nat.le_add_right _ _), h.ll, a, b, st.sf, h.pos⟩, st.rs⟩
theorem P40.add {x : En} (h : P40 B L m v ls) (hs : v.ss[i]? = some s) (hl : s.st = .leading) (hx : x.ok) : P40 (B + 1) L m ⟨v.ks, v.ss.set i (s.add x)⟩ ls ∧ RsG v ⟨v.ks, v.ss.set i (s.add x)⟩ := by
  obtain ⟨a, b⟩ := ss_of (v' := ⟨v.ks, v.ss.set i (s.add x)⟩) (map_set_same (f := fun s : SqS => s.ep) hs rfl) h.ss h.ep
  obtain ⟨st, w⟩ := h.sf.add (x := x) hs hl
  exact ⟨⟨h.ok.setS (Nat.le_succ _) ((h.ok.ss s (List.mem_of_getElem? hs)).add hx), fun x hx => (h.lk x hx).mono (Nat.le_succ _), h.ll, a, b, st, h.pos⟩, w.rs⟩
theorem P40.stop (h : P40 B L m v ls) (hs : v.ss[i]? = some s) : P40 B L m ⟨v.ks, v.ss.set i s.stop⟩ ls ∧ RsG v ⟨v.ks, v.ss.set i s.stop⟩ := by
  obtain ⟨a, b⟩ := ss_of (v' := ⟨v.ks, v.ss.set i s.stop⟩) (map_set_same (f := fun s : SqS => s.ep) hs rfl) h.ss h.ep
  obtain ⟨st, w⟩ := h.sf.stop hs
  exact ⟨⟨h.ok.setS (Nat.le_refl _) (h.ok.ss s (List.mem_of_getElem? hs)).stop, h.lk, h.ll, a, b, st, h.pos⟩, w.rs⟩
theorem P40.begin {e : Int} (h : P40 B L m v ls) (hl : v.ss.length ≤ 8) (h0 : 0 ≤ e) (h1 : e ≤ 60) (hn : e ∉ v.ss.map (·.ep)) : P40 B L m ⟨v.ks, v.ss ++ [SqS.new e m]⟩ ls ∧ RsG v ⟨v.ks, v.ss ++ [SqS.new e m]⟩ := by
  obtain ⟨st, w⟩ := h.sf.begin hn
  refine ⟨⟨h.ok.addS (SOk.new h.pos), h.lk, h.ll, by show (v.ss ++ _).length ≤ 9; rw [List.length_append, List.length_singleton]; omega, fun s hs => ?_, st, h.pos⟩, w.rs⟩
  rcases List.mem_append.mp hs with hs | hs
  · exact h.ep s hs
  · rw [List.mem_singleton.mp hs]; exact ⟨h0, h1⟩
theorem P40.send (h : P40 B L m v ls) (hs : v.ss[i]? = some s) : P40 B (L + m) m v (ls ++ s.toSend) := by
  have so := (h.ok.ss s (List.mem_of_getElem? hs)).sends
  exact ⟨h.ok, fun x hx => (List.mem_append.mp hx).elim (h.lk x) fun q => (so.2 x q).1, by rw [List.length_append]; have := h.ll; have := so.1; omega, h.ss, h.ep, h.sf.send hs, h.pos⟩
theorem P40.flush {k : KeS} (h : P40 B L m v ls) (hk : v.ks[n]? = some k) : P40 B (L + B) m (v.onK n KeS.flush) (ls ++ k.wa) ∧ RsG v (v.onK n KeS.flush) := by
  have ko := h.ok.ks n k hk
  exact ⟨⟨h.ok.flush, fun x hx => (List.mem_append.mp hx).elim (h.lk x) fun q => (ko.wa x q).1, by rw [List.length_append]; have := h.ll; have := ko.lwa; omega, h.ss, h.ep, h.sf.flush hk, h.pos⟩, (Wk.onK fun k _ => KS.flush k).rs⟩
theorem P40.fall {j : Nat} (h : P40 B L m v ls) : P40 B L m (v.onK n (·.fall j)) ls ∧ RsG v (v.onK n (·.fall j)) :=
  ⟨⟨h.ok.onK (Nat.le_refl _) fun _ _ hk => hk.fall, h.lk, h.ll, h.ss, h.ep, h.sf.fall, h.pos⟩, (Wk.onK fun k _ => KS.fall k j).rs⟩
theorem P40.bring {l : Ltr} (h : P40 B L m v ls) (hl : l ∈ ls) : P40 (B + 1) L m (v.bring l) ls ∧ RsG v (v.bring l) := by
  obtain ⟨a, b⟩ := ss_of (bring_ep v l) h.ss h.ep
  obtain ⟨st, w⟩ := h.sf.bring (h.sf.lf l hl)
  exact ⟨⟨h.ok.bring (h.lk l hl), fun x hx => (h.lk x hx).mono (Nat.le_succ _), h.ll, a, b, st, h.pos⟩, w.rs⟩
theorem P40.fewer {l2 : List Ltr} (h : P40 B L m v ls) (k : ∀ l ∈ l2, l ∈ ls) (kl : l2.length ≤ ls.length) : P40 B L m v l2 := ⟨h.ok, fun l hl => h.lk l (k l hl), Nat.le_trans kl h.ll, h.ss, h.ep, h.sf.sub k, h.pos⟩
end
structure W40 (K : PySem.W.Frag) (CC CK CS : Addr) (TT : List NTab) (d a c ll : Addr) (F M : List Addr) (H0 : Hp) (g : Sf) (w : Cw) (ls : List Ltr) (H : Hp) : Prop where
  dz : Dz K d a (F ++ (c :: ll :: g.all)) H
  tb : TabsN TT H
  cn : CnAt K CC CK CS H c ll g w ls
  off : ∀ b ∈ F, b ∉ c :: ll :: g.all
  alc : ∀ b ∈ F, H b ≠ none
  dM : d ∈ M
  fr : ∀ b ∈ c :: ll :: g.all, b ∈ M ∨ H0 b = none
  kp : KpN M H0 H
  gw : Grw H0 H
  ks : Ks H0 H
section
variable {K : PySem.W.Frag} {CC CK CS : Addr} {TT : List NTab} {d a c ll : Addr} {F M : List Addr} {H0 H H' : Hp} {g g' : Sf} {w w' : Cw} {ls ls' : List Ltr}
theorem W40.d_at (W : W40 K CC CK CS TT d a c ll F M H0 g w ls H) : ∃ k, H d = some (.lst [.ref a, .int k]) := by
  obtain ⟨k, ns, h, _⟩ := W.dz
  exact ⟨k, h⟩
theorem W40.d_off (W : W40 K CC CK CS TT d a c ll F M H0 g w ls H) : d ∉ F ++ (c :: ll :: g.all) := by
  obtain ⟨k, ns, _, _, h, _⟩ := W.dz
  exact h
theorem W40.ex (W : W40 K CC CK CS TT d a c ll F M H0 g w ls H) (x : Ex H H') : W40 K CC CK CS TT d a c ll F M H0 g w ls H' :=
  ⟨W.dz.far (G := []) (KpN.same x) (fun _ h => nomatch h) fun _ h => .inl h, TabsN.ext W.tb x, W.cn.same x, W.off, fun b hb e => W.alc b hb (fresh_back x e), W.dM, W.fr, fun b o z n t => x b o (W.kp b o z n t), W.gw.trans (Grw.same x), W.ks.trans (Ks.same x)⟩
theorem ks_d {k0 : Int} (hd0 : H d = some (.lst [.ref a, .int k0])) (kp : Kp [d] H H') : Ks H H' := ⟨fun b xs e => by
    have nb : b ≠ d := fun q => by rw [q] at e; rcases e with e | ⟨o, e⟩ <;> (rw [hd0] at e; cases e)
    exact e.elim (fun z => .inl (kp _ _ z (by simpa using nb))) fun ⟨o, z⟩ => .inr ⟨o, kp _ _ z (by simpa using nb)⟩, fun b xs e => kp _ _ e fun m => by rw [List.mem_singleton.mp m, hd0] at e; cases e⟩
theorem W40.draw (W : W40 K CC CK CS TT d a c ll F M H0 g w ls H) (D : Dr K [d] d a H') (kp : Kp [d] H H') : W40 K CC CK CS TT d a c ll F M H0 g w ls H' := by
  obtain ⟨k0, hd0⟩ := W.d_at
  have nd := W.d_off
  obtain ⟨k1, hd1⟩ := D.at_
  have kn := KpN.kp kp
  have ks := ks_d hd0 kp
  have gw := Grw.kp kp (by rw [hd1]; exact nofun)
  refine ⟨W.dz.next D kp, tabs_kp W.tb kp hd0 (fun _ q => by cases q) (fun c q e => by unfold CodeO at e; cases e), W.cn.far ks kn fun b hb m => nd (List.mem_append.mpr (.inr (List.mem_singleton.mp m ▸ hb))), W.off, fun b hb e => W.alc b hb (gw b e), W.dM, W.fr, fun b o z n t => kp b o (W.kp b o z n t) (fun m => n (by rw [List.mem_singleton.mp m]; exact W.dM)), W.gw.trans gw, W.ks.trans ks⟩
theorem W40.drawAt (W : W40 K CC CK CS TT d a c ll F M H0 g w ls H) (hd : ∃ k : Int, H' d = some (.lst [.ref a, .int k])) (kp : Kp [d] H H') : W40 K CC CK CS TT d a c ll F M H0 g w ls H' := by
  refine W.draw ?_ kp
  obtain ⟨k, hk⟩ := hd
  exact W.dz.dr.next kp hk
theorem W40.dws : Dws K d a (W40 K CC CK CS TT d a c ll F M H0 g w ls) := ⟨fun _ W => W.dz.dr, fun _ _ W x => W.ex x, fun _ _ W h k => W.drawAt h k⟩
theorem W40.cou (W : W40 K CC CK CS TT d a c ll F M H0 g w ls H) (b : CnP K CC CK CS TT H c ll g w' ls' g' H') : W40 K CC CK CS TT d a c ll F M H0 g' w' ls' H' := by
  have gm : ∀ u ∈ c :: ll :: g'.all, u ∈ c :: ll :: g.all ∨ H u = none := fun u h => by
    rcases List.mem_cons.mp h with rfl | h
    · exact .inl (.head _)
    · rcases List.mem_cons.mp h with rfl | h
      · exact .inl (.tail _ (.head _))
      · exact (b.gro.all u h).imp (fun q => .tail _ (.tail _ q)) id
  refine ⟨W.dz.far b.kp (fun u h => List.mem_append.mpr (.inr h)) fun u h => ?_, b.tb, b.cn, fun u h m => ?_, fun u h e => W.alc u h (b.gw u e), W.dM, fun u h => ?_, fun u o z n t => b.kp u o (W.kp u o z n t) (fun m => ?_) t, W.gw.trans b.gw, W.ks.trans b.ks⟩
  · rcases List.mem_append.mp h with h | h
    · exact .inl (List.mem_append.mpr (.inl h))
    · exact (gm u h).imp (fun q => List.mem_append.mpr (.inr q)) id
  · exact (gm u m).elim (W.off u h) (W.alc u h)
  · exact (gm u h).elim (W.fr u) fun q => .inr (W.gw u q)
  · exact (W.fr u m).elim n fun q => by rw [q] at z; cases z
/-- a list of the law's own has changed -/
theorem W40.word {wd : Addr} {xs ys : List V} (W : W40 K CC CK CS TT d a c ll F M H0 g w ls H) (hf : wd ∈ F) (hm : wd ∈ M) (h : H wd = some (.lst xs)) : W40 K CC CK CS TT d a c ll F M H0 g w ls (upd H wd (.lst ys)) := by
  have kp : Kp [wd] H (upd H wd (.lst ys)) := Kp.at (by simp)
  have kn := KpN.kp kp
  have ks := Ks.lst (o' := .lst ys) h
  have gw := Grw.kp kp (by rw [upd_same]; exact nofun)
  refine ⟨W.dz.far kn (fun b hb => by rw [List.mem_singleton.mp hb]; exact List.mem_append.mpr (.inl hf)) fun _ h => .inl h, tabs_lst W.tb h, W.cn.far ks kn fun b hb m => W.off wd hf (List.mem_singleton.mp m ▸ hb), W.off, fun b hb e => W.alc b hb (gw b e), W.dM, W.fr, fun b o z n t => kp b o (W.kp b o z n t) (fun m => n (by rw [List.mem_singleton.mp m]; exact hm)), W.gw.trans gw, W.ks.trans ks⟩
end
end Mc.Cn
namespace Mc.Cn
open PySem L2 PySem.Spec PyProof.Rows Evl LamX NdefX
/-! lists that pop; _law_some -/
abbrev sSome : Stmt := top 0
theorem cat_pop (n : Nat) : (List.range n).map (fun x : Nat => V.int (x : Int)) = (List.range n).map vN := rfl
section
variable {K : PySem.W.Frag} {d a : Addr}
/-- the heap without one object -/
def less (H : Hp) (u : Addr) : Hp := fun b => if b = u then none else H b
theorem less_at {H : Hp} {u : Addr} : less H u u = none := if_pos rfl
theorem less_ne {H : Hp} {u b : Addr} (h : b ≠ u) : less H u b = H b := if_neg h
theorem less_ex {H : Hp} {u : Addr} : Ex (less H u) H := fun b o z => by
  by_cases c : b = u
  · rw [c, less_at] at z; cases z
  · rw [less_ne c] at z; exact z
theorem map_erase {α β : Type} (f : α → β) : ∀ (xs : List α) (i : Nat), (xs.map f).eraseIdx i = (xs.eraseIdx i).map f
  | [], _ => rfl
  | x :: xs, 0 => rfl
  | x :: xs, i + 1 => by
    show f x :: (xs.map f).eraseIdx i = f x :: (xs.eraseIdx i).map f
    rw [map_erase f xs i]
theorem pop_loop {Wp : Hp → Prop} (X : Dws K d a Wp) {σ : L2.St} {D : Ends} {H : Hp} {u : Addr} {up : List Nat} {goal n ui di gi : Nat} (h1 : σ[ui]? = some (some (.ref u))) (h2 : σ[di]? = some (some (.ref d))) (h3 : σ[gi]? = some (some (.int (goal : Nat))))
    (W : Wp (less H u)) (hH : H u = some (.lst (up.map vN))) (hup : ∀ x ∈ up, x < n) (nd : up.Nodup) (hl : up.length ≤ n) (hn : n ≤ 1000)
    (k : ∀ (up' : List Nat) (H' : Hp), Wp (less H' u) → H' u = some (.lst (up'.map vN)) → (∀ x ∈ up', x < n) → up'.Nodup → up'.length ≤ n → (goal ≤ up.length → up'.length = goal) → (∀ b o, b ≠ d → b ≠ u → H b = some o → H' b = some o) → D.nx σ H') :
    tWhile (tTest (tOp (rI0 fun i j => .bl (decide (i > j))) (tCB (rLenS K) (tCons (tVar ui) tNil)) (tVar gi))) (tDrop (tBM K "list" rPopAt (tVar ui) (tCons (tCall (spTake K) [] E0 (tCons (tVar di) (tCons (tCB (rLenS K) (tCons (tVar ui) tNil)) tNil))) tNil))) D σ H := by
  refine s_while (fun m σ' H' => ∃ up' : List Nat, σ' = σ ∧ Wp (less H' u) ∧ H' u = some (.lst (up'.map vN)) ∧ (∀ x ∈ up', x < n) ∧ up'.Nodup ∧ up'.length ≤ n ∧ (goal ≤ up.length → goal ≤ up'.length) ∧ (∀ b o, b ≠ d → b ≠ u → H b = some o → H' b = some o) ∧ m = up'.length) up.length ⟨up, rfl, W, hH, hup, nd, hl, id, fun _ _ _ _ z => z, rfl⟩ ?_
  rintro m σ' H1 ⟨up1, rfl, W1, hH1, hup1, nd1, hl1, hg1, hold1, rfl⟩
  have evl : Ev (tCB (rLenS K) (tCons (tVar ui) tNil)) σ' H1 (.int (up1.length : Nat)) := by
    have := ev_len (K := K) (ta := tVar ui) (σ := σ') (H := H1) (ev_var h1) (SqL.of hH1)
    rw [List.length_map] at this
    exact this
  refine ⟨_, et_test (ev_op evl (ev_var h3) rv_I0), fun hb H2 x2 => ?_, fun hb H2 x2 => ?_⟩
  · have hb : goal < up1.length := by have := of_decide_eq_true hb; omega
    have hH2 := x2 _ _ hH1
    have x12 : Ex (less H1 u) (less H2 u) := fun b o z => by
      by_cases c : b = u
      · rw [c, less_at] at z; cases z
      · rw [less_ne c] at z
        rw [less_ne c]; exact x2 _ _ z
    have W2 := X.ex _ _ W1 x12
    have Wf := X.ex _ _ W2 less_ex
    obtain ⟨k0, hd0⟩ := (X.dr _ W2).at_
    have nud : u ≠ d := fun e => by rw [← e, less_at] at hd0; cases hd0
    refine ⟨fun σ2 H' => ∃ up' : List Nat, σ2 = σ' ∧ Wp (less H' u) ∧ H' u = some (.lst (up'.map vN)) ∧ (∀ x ∈ up', x < n) ∧ up'.Nodup ∧ up'.length ≤ n ∧ (goal ≤ up.length → goal ≤ up'.length) ∧ (∀ b o, b ≠ d → b ≠ u → H b = some o → H' b = some o) ∧ up'.length + 1 = up1.length, ?_, ?_⟩
    · rintro σ2 H' ⟨up', rfl, a1, a2, a3, a4, a5, a6, a7, a8⟩
      exact ⟨up'.length, by omega, up', rfl, a1, a2, a3, a4, a5, a6, a7, rfl⟩
    refine ⟨_, h1, .inl ⟨rfl, _, SqL.of hH2⟩, _, h2, _, h1, u, _, rfl, .inl (SqL.of hH2), [d], d, a, up1.length, by rw [List.length_map]; rfl, X.dr _ Wf, by omega, fun v H3 v0 v1 D3 kp3 => ?_⟩
    have hH3 := kp3 _ _ hH2 (by simpa using nud)
    have hv : v.toNat < up1.length := by omega
    have ev : v = ((v.toNat : Nat) : Int) := by omega
    refine ⟨u, _, v, v.toNat, vN up1[v.toNat], rfl, rfl, hH3, by omega, by omega, ?_, by rw [List.getElem?_map, List.getElem?_eq_getElem hv]; rfl, ?_⟩
    · unfold PySem.seqIndex?
      rw [List.length_map]
      have e1 : ¬ v < 0 := by omega
      simp only [e1, if_false]
      rw [if_pos (by simp; omega)]
    refine ⟨up1.eraseIdx v.toNat, rfl, ?_, ?_, fun x hx => hup1 x (List.mem_of_mem_eraseIdx hx), nd1.sublist (List.eraseIdx_sublist ..), by rw [List.length_eraseIdx_of_lt hv]; omega, fun hg => by rw [List.length_eraseIdx_of_lt hv]; omega, fun b o n1 n2 z => ?_, by rw [List.length_eraseIdx_of_lt hv]; omega⟩
    · refine X.nx _ _ W2 ?_ fun b o z nb => ?_
      · obtain ⟨k1, hk1⟩ := D3.at_
        exact ⟨k1, by rw [less_ne nud.symm, upd_ne nud.symm]; exact hk1⟩
      · have c : b ≠ u := fun e => by rw [e, less_at] at z; cases z
        rw [less_ne c] at z
        rw [less_ne c, upd_ne c]
        exact kp3 _ _ z nb
    · rw [upd_same]
      congr 2
      exact map_erase _ _ _
    · rw [upd_ne n2]
      exact kp3 _ _ (x2 _ _ (hold1 b o n1 n2 z)) (by simpa using n1)
  · have hb : ¬ goal < up1.length := by have := of_decide_eq_false hb; omega
    have x12 : Ex (less H1 u) (less H2 u) := fun b o z => by
      by_cases c : b = u
      · rw [c, less_at] at z; cases z
      · rw [less_ne c] at z
        rw [less_ne c]; exact x2 _ _ z
    exact k up1 H2 (X.ex _ _ W1 x12) (x2 _ _ hH1) hup1 nd1 hl1 (fun hg => by have := hg1 hg; omega) fun b o n1 n2 z => x2 _ _ (hold1 b o n1 n2 z)
theorem q_pop {Wp : Hp → Prop} (X : Dws K d a Wp) {tz : TS} {σ : L2.St} {D : Ends} {H : Hp} {u : Addr} {up : List Nat} {goal n ui di gi : Nat} (h1 : σ[ui]? = some (some (.ref u))) (h2 : σ[di]? = some (some (.ref d))) (h3 : σ[gi]? = some (some (.int (goal : Nat))))
    (W : Wp (less H u)) (hH : H u = some (.lst (up.map vN))) (hup : ∀ x ∈ up, x < n) (nd : up.Nodup) (hl : up.length ≤ n) (hn : n ≤ 1000)
    (k : ∀ (up' : List Nat) (H' : Hp), Wp (less H' u) → H' u = some (.lst (up'.map vN)) → (∀ x ∈ up', x < n) → up'.Nodup → up'.length ≤ n → (goal ≤ up.length → up'.length = goal) → (∀ b o, b ≠ d → b ≠ u → H b = some o → H' b = some o) → tz D σ H') :
    tSeq (tWhile (tTest (tOp (rI0 fun i j => .bl (decide (i > j))) (tCB (rLenS K) (tCons (tVar ui) tNil)) (tVar gi))) (tDrop (tBM K "list" rPopAt (tVar ui) (tCons (tCall (spTake K) [] E0 (tCons (tVar di) (tCons (tCB (rLenS K) (tCons (tVar ui) tNil)) tNil))) tNil)))) tz D σ H := pop_loop (D := { D with nx := tz D }) X h1 h2 h3 W hH hup nd hl hn k
def spSome (K : PySem.W.Frag) : Sp := fun vs H Q _ => ∃ (Wp : Hp → Prop) (d a : Addr) (n goal : Nat), vs = [.ref d, .int n, .int goal] ∧ Dws K d a Wp ∧ Wp H ∧ n ≤ 1000 ∧
  ∀ (q : Addr) (up : List Nat) (H' : Hp), Wp H' → H q = none → H' q = some (.lst (up.map vN)) → (∀ x ∈ up, x < n) → up.Nodup → up.length ≤ n → (goal ≤ n → up.length = goal) → Q (.ref q) H'
structure TxSo (mg : PySem.Str → Option Value) : Prop where
  len : mg "len" = none
  range : mg "range" = none
  list : mg "list" = none
variable {P : Program} {w : World} {mg : PySem.Str → Option Value} {base : Heap}
end
end Mc.Cn
namespace Mc.Cn
open PySem L2 PySem.Spec PyProof.Rows Evl LamX NdefX
/-! _law_step -/
abbrev sStep : Stmt := top 0
abbrev nmS : List PySem.Str := ["draw", "council", "words", "kind", "number", "up", "goal", "known", "free", "late", "keeper", "at", "one", "epoch"]
structure TxL (K : PySem.W.Frag) (mg : PySem.Str → Option Value) (CC CK CN CS : Addr) : Prop where
  co : TxC K mg CC
  ke : TxK K mg CK CN
  sq : TxS K mg CS
theorem cr_maxK {X : Cx} {K : PySem.W.Frag} (h : X.K = K) (hc : X.calm = true) : CallR X (.builtin "max") (rMax K) := by subst h; exact cr_max hc
/-- a list against an empty one -/
def rEqNil (K : PySem.W.Frag) : R2 := fun x y H Q => ∃ (l b : Addr) (xs : List V), x = .ref l ∧ y = .ref b ∧ SqL K H l xs ∧ SqL K H b [] ∧ Q (.bl xs.isEmpty) H
theorem op_eqNil {X : Cx} (hu : X.A.units + 64 < cLine) : OpR X (compareOp .Eq) (rEqNil X.K) := by
  intro pins s σ H x y v u Q I rx ry ⟨l, b, xs, e1, e2, hl, hb, q⟩
  subst e1; subst e2
  cases xs with
  | nil => exact op_eqD hu pins s σ H _ _ v u Q I rx ry ⟨.list [], .list [], .lst hl .nil, .lst hb .nil, by rfl, by rfl, q⟩
  | cons z zs =>
    cases rx; cases ry
    obtain ⟨i1, r1, p1, _⟩ := I.list hl
    obtain ⟨i2, r2, p2, _⟩ := I.list hb
    have z1 : i1.length = zs.length + 1 := by rw [← r1.length]; rfl
    have z2 : i2.length = 0 := by rw [← r2.length]; rfl
    exact SeqAt.RcAt.lists_lengths p1.isList p2.isList (by simp [z1, z2]) (by omega) _ _ _ _ ⟨.bl false, H, I, rfl, q⟩
theorem q_join {ta tz : TS} {D : Ends} {σ : L2.St} {H : Hp} (R : L2.St → Hp → Prop) (t : ∀ σ' H', R σ' H' → tz D σ' H') (b : (∀ σ' H', R σ' H' → tz D σ' H') → ta { D with nx := tz D } σ H) : tSeq ta tz D σ H := b t
/-- the world of a step -/
structure S40 (K : PySem.W.Frag) (CC CK CS : Addr) (TT : List NTab) (d a c ll wd : Addr) (F M : List Addr) (H0 : Hp) (g : Sf) (w : Cw) (ls : List Ltr) (n : Int) (H : Hp) : Prop where
  W : W40 K CC CK CS TT d a c ll F M H0 g w ls H
  wF : wd ∈ F
  wM : wd ∈ M
  wd : H wd = some (.lst [.int n])
section
variable {K : PySem.W.Frag} {CC CK CN CS : Addr} {TT : List NTab} {d a c ll wd : Addr} {F M : List Addr} {H0 H H' : Hp} {g g' : Sf} {w w' : Cw} {ls ls' : List Ltr} {n n' : Int} {mg : PySem.Str → Option Value}
theorem S40.nd (S : S40 K CC CK CS TT d a c ll wd F M H0 g w ls n H) : wd ≠ d := fun e => S.W.d_off (List.mem_append.mpr (.inl (e ▸ S.wF)))
theorem S40.nc (S : S40 K CC CK CS TT d a c ll wd F M H0 g w ls n H) : wd ∉ c :: ll :: g.all := S.W.off wd S.wF
theorem S40.dws : Dws K d a (S40 K CC CK CS TT d a c ll wd F M H0 g w ls n) := ⟨fun _ S => S.W.dz.dr, fun _ _ S x => ⟨S.W.ex x, S.wF, S.wM, x _ _ S.wd⟩, fun _ _ S h k => ⟨S.W.drawAt h k, S.wF, S.wM, k _ _ S.wd (by simpa using S.nd)⟩⟩
theorem S40.ex (S : S40 K CC CK CS TT d a c ll wd F M H0 g w ls n H) (x : Ex H H') : S40 K CC CK CS TT d a c ll wd F M H0 g w ls n H' := S40.dws.ex _ _ S x
theorem S40.cou (S : S40 K CC CK CS TT d a c ll wd F M H0 g w ls n H) (b : CnP K CC CK CS TT H c ll g w' ls' g' H') : S40 K CC CK CS TT d a c ll wd F M H0 g' w' ls' n H' := ⟨S.W.cou b, S.wF, S.wM, b.kp _ _ S.wd S.nc fun _ z => by cases z⟩
theorem S40.word (S : S40 K CC CK CS TT d a c ll wd F M H0 g w ls n H) : S40 K CC CK CS TT d a c ll wd F M H0 g w ls n' (upd H wd (.lst [.int n'])) := ⟨S.W.word S.wF S.wM S.wd, S.wF, S.wM, upd_same⟩
/-! what the law reads of its council -/
theorem W40.c_at (W : W40 K CC CK CS TT d a c ll F M H0 g w ls H) : ∃ dx, H c = some (.ins CC dx (CnF g ll)) := W.cn.1
theorem W40.ev_seqs {σ : L2.St} {tc : TE} (T : TxC K mg CC) (W : W40 K CC CK CS TT d a c ll F M H0 g w ls H) (h : Ev tc σ H (.ref c)) : Ev (tFld K tc "sequencers") σ H (.ref g.sl) := by
  obtain ⟨dx, hc⟩ := W.c_at
  exact ev_fld h hc T.cl T.nSe rfl
theorem W40.ev_kees {σ : L2.St} {tc : TE} (T : TxC K mg CC) (W : W40 K CC CK CS TT d a c ll F M H0 g w ls H) (h : Ev tc σ H (.ref c)) : Ev (tFld K tc "keepers") σ H (.ref g.kl) := by
  obtain ⟨dx, hc⟩ := W.c_at
  exact ev_fld h hc T.cl T.nKe rfl
theorem W40.ev_lets {σ : L2.St} {tc : TE} (T : TxC K mg CC) (W : W40 K CC CK CS TT d a c ll F M H0 g w ls H) (h : Ev tc σ H (.ref c)) : Ev (tFld K tc "letters") σ H (.ref ll) := by
  obtain ⟨dx, hc⟩ := W.c_at
  exact ev_fld h hc T.cl T.nLe rfl
theorem W40.ev_nseq {σ : L2.St} {tc : TE} (T : TxC K mg CC) (W : W40 K CC CK CS TT d a c ll F M H0 g w ls H) (h : Ev tc σ H (.ref c)) : Ev (tCB (rLenS K) (tCons (tFld K tc "sequencers") tNil)) σ H (.int (w.ss.length : Nat)) := by
  have := ev_len (K := K) (W.ev_seqs T h) (SqL.of W.cn.sd.hs)
  rw [List.length_map, Paired.length W.cn.sd.ps] at this
  exact this
theorem W40.ev_nkee {σ : L2.St} {tc : TE} (T : TxC K mg CC) (W : W40 K CC CK CS TT d a c ll F M H0 g w ls H) (h : Ev tc σ H (.ref c)) : Ev (tCB (rLenS K) (tCons (tFld K tc "keepers") tNil)) σ H (.int (w.ks.length : Nat)) := by
  have := ev_len (K := K) (W.ev_kees T h) (SqL.of W.cn.sd.hk)
  rw [List.length_map, Paired.length W.cn.sd.pk] at this
  exact this
theorem W40.ev_nlet {σ : L2.St} {tc : TE} (T : TxC K mg CC) (W : W40 K CC CK CS TT d a c ll F M H0 g w ls H) (h : Ev tc σ H (.ref c)) : Ev (tCB (rLenS K) (tCons (tFld K tc "letters") tNil)) σ H (.int (ls.length : Nat)) := by
  obtain ⟨us, hl, dus⟩ := W.cn.lt
  have := ev_len (K := K) (W.ev_lets T h) (SqL.of hl)
  rw [dpA_len dus, List.length_map] at this
  exact this
theorem et_neN {σ : L2.St} {tl : TE} {l : Addr} {xs : List V} {H : Hp} (h : Ev tl σ H (.ref l)) (hl : H l = some (.lst xs)) : EvT (tTest (tOp (rNeNil K) tl (tLst tNil))) σ H (!xs.isEmpty) := et_test fun H1 e Q q => h H1 e _ fun H2 e2 => ⟨Nat.zero_le _, fun b hb => ⟨l, b, _, rfl, rfl, SqL.of ((e.trans (e2.trans (Ex.new hb))) _ _ hl), SqL.of upd_same, q _ (e2.trans (Ex.new hb))⟩⟩
theorem et_eqN {σ : L2.St} {tl : TE} {l : Addr} {xs : List V} {H : Hp} (h : Ev tl σ H (.ref l)) (hl : H l = some (.lst xs)) : EvT (tTest (tOp (rEqNil K) tl (tLst tNil))) σ H xs.isEmpty := et_test fun H1 e Q q => h H1 e _ fun H2 e2 => ⟨Nat.zero_le _, fun b hb => ⟨l, b, _, rfl, rfl, SqL.of ((e.trans (e2.trans (Ex.new hb))) _ _ hl), SqL.of upd_same, q _ (e2.trans (Ex.new hb))⟩⟩
theorem W40.ss_nil (W : W40 K CC CK CS TT d a c ll F M H0 g w ls H) : (g.fs.map fun z => V.ref z.a).isEmpty = w.ss.isEmpty := by
  have := Paired.length W.cn.sd.ps
  cases h1 : g.fs <;> cases h2 : w.ss <;> simp_all
theorem W40.et_nes {σ : L2.St} {tc : TE} (T : TxC K mg CC) (W : W40 K CC CK CS TT d a c ll F M H0 g w ls H) (h : Ev tc σ H (.ref c)) : EvT (tTest (tOp (rNeNil K) (tFld K tc "sequencers") (tLst tNil))) σ H (!w.ss.isEmpty) := by
  rw [← W.ss_nil]; exact et_neN (W.ev_seqs T h) W.cn.sd.hs
theorem W40.et_eqs {σ : L2.St} {tc : TE} (T : TxC K mg CC) (W : W40 K CC CK CS TT d a c ll F M H0 g w ls H) (h : Ev tc σ H (.ref c)) : EvT (tTest (tOp (rEqNil K) (tFld K tc "sequencers") (tLst tNil))) σ H w.ss.isEmpty := by
  rw [← W.ss_nil]; exact et_eqN (W.ev_seqs T h) W.cn.sd.hs
theorem W40.ev_seq {σ : L2.St} {tc ti : TE} {i : Nat} {s : SqS} (T : TxC K mg CC) (W : W40 K CC CK CS TT d a c ll F M H0 g w ls H) (h : Ev tc σ H (.ref c)) (hi : Ev ti σ H (.int (i : Nat))) (hs : w.ss[i]? = some s) : ∃ z, g.fs[i]? = some z ∧ SqAt K CS H z s ∧ Ev (tOp (rIxL K) (tFld K tc "sequencers") ti) σ H (.ref z.a) := by
  obtain ⟨z, hz, SQ⟩ := W.cn.sd.sget hs
  refine ⟨z, hz, SQ, ev_op (W.ev_seqs T h) hi (rv_ixL (SqL.of W.cn.sd.hs) (atN (j := i) rfl (by rw [List.getElem?_map, hz]; rfl)))⟩
theorem st_lead {s : SqS} : decide (V.str s.st.s = V.str "leading") = decide (s.st = .leading) := by
  cases s.st <;> decide
theorem W40.et_lead {σ : L2.St} {tc ti : TE} {i : Nat} {s : SqS} (T : TxC K mg CC) (TS : TxS K mg CS) (W : W40 K CC CK CS TT d a c ll F M H0 g w ls H) (h : Ev tc σ H (.ref c)) (hi : Ev ti σ H (.int (i : Nat))) (hs : w.ss[i]? = some s) : EvT (tTest (tOp rEq (tFld K (tOp (rIxL K) (tFld K tc "sequencers") ti) "stand") (tC (.str "leading")))) σ H (decide (s.st = .leading)) := by
  obtain ⟨z, hz, SQ, ev⟩ := W.ev_seq T h hi hs
  obtain ⟨dxs, hzs⟩ := SQ.self
  rw [← st_lead]
  exact et_test (ev_op (ev_fld ev hzs TS.cl TS.nSt rfl) ev_c (rv_eq rfl))
/-! draws -/
theorem q_take {Wp : Hp → Prop} (X : Dws K d a Wp) {tr : TE} {tz : TS} {D : Ends} {σ : L2.St} {i : Nat} {r : Int} (h0 : σ[0]? = some (some (.ref d))) (ev : Ev tr σ H (.int r)) (hr : 0 < r) (W : Wp H) (k : ∀ v H', 0 ≤ v → v < r → Wp H' → (∀ b o, b ≠ d → H b = some o → H' b = some o) → tz D (σ.set i (some (.int v))) H') :
    tSeq (tAsg (tCall (spTake K) [] E0 (tCons (tVar 0) (tCons tr tNil))) (gName i)) tz D σ H :=
  ⟨_, h0, ev H (Ex.refl _) _ fun H1 x1 => ⟨[d], d, a, r, rfl, X.dr _ (X.ex _ _ W x1), hr, fun v H' v0 v1 D' kp => k v H' v0 v1 (X.nx _ _ (X.ex _ _ W x1) D'.at_ kp) fun b o nb z => kp _ _ (x1 _ _ z) (by simpa using nb)⟩⟩
theorem t_take {Wp : Hp → Prop} (X : Dws K d a Wp) {tr : TE} {σ : L2.St} {r : Int} {Kk : Bool → Hp → Prop} {b0 : Int → Bool} {R : R2} {x : V} (hR : ∀ v H' Q, Q (.bl (b0 v)) H' → R (.int v) x H' Q) (h0 : σ[0]? = some (some (.ref d))) (ev : Ev tr σ H (.int r)) (hr : 0 < r) (W : Wp H) (k : ∀ b H', Wp H' → (∀ b o, b ≠ d → H b = some o → H' b = some o) → Kk b H') :
    tTest (tOp R (tCall (spTake K) [] E0 (tCons (tVar 0) (tCons tr tNil))) (tC x)) σ H Kk :=
  ⟨_, h0, ev H (Ex.refl _) _ fun H1 x1 => ⟨[d], d, a, r, rfl, X.dr _ (X.ex _ _ W x1), hr, fun v H' v0 v1 D' kp => hR v H' _ ⟨_, rfl, k _ H' (X.nx _ _ (X.ex _ _ W x1) D'.at_ kp) fun b o nb z => kp _ _ (x1 _ _ z) (by simpa using nb)⟩⟩⟩
theorem max_ex : ∀ {ns : List Int}, ns ≠ [] → ∃ m ∈ ns, ∀ y ∈ ns, y ≤ m
  | [], h => absurd rfl h
  | x :: xs, _ => by
    by_cases c : xs = []
    · subst c
      exact ⟨x, .head _, fun y hy => by rw [List.mem_singleton.mp hy]; exact Int.le_refl _⟩
    · obtain ⟨m, hm, h⟩ := max_ex c
      by_cases l : x ≤ m
      · exact ⟨m, .tail _ hm, fun y hy => (List.mem_cons.mp hy).elim (fun e => e ▸ l) (h y)⟩
      · refine ⟨x, .head _, fun y hy => (List.mem_cons.mp hy).elim (fun e => by rw [e]; exact Int.le_refl _) fun hy => ?_⟩
        have := h y hy
        omega
theorem W40.ev_kee {σ : L2.St} {tc ti : TE} {i : Nat} {k : KeS} (T : TxC K mg CC) (W : W40 K CC CK CS TT d a c ll F M H0 g w ls H) (h : Ev tc σ H (.ref c)) (hi : Ev ti σ H (.int (i : Nat))) (hk : w.ks[i]? = some k) : ∃ b, g.ks[i]? = some b ∧ KeAt K CK H b k ∧ Ev (tOp (rIxL K) (tFld K tc "keepers") ti) σ H (.ref b) := by
  obtain ⟨b, hb, KA⟩ := W.cn.sd.kget hk
  refine ⟨b, hb, KA, ev_op (W.ev_kees T h) hi (rv_ixL (SqL.of W.cn.sd.hk) (atN (j := i) rfl (by rw [List.getElem?_map, hb]; rfl)))⟩
theorem W40.ev_nloo {σ : L2.St} {tc ti : TE} {i : Nat} {k : KeS} (T : TxC K mg CC) (TK : TxK K mg CK CN) (W : W40 K CC CK CS TT d a c ll F M H0 g w ls H) (h : Ev tc σ H (.ref c)) (hi : Ev ti σ H (.int (i : Nat))) (hk : w.ks[i]? = some k) : Ev (tCB (rLenS K) (tCons (tFld K (tOp (rIxL K) (tFld K tc "keepers") ti) "loose") tNil)) σ H (.int (k.lo.length : Nat)) := by
  obtain ⟨b, hb, ⟨dx, r, lo, wa, h1, _, ⟨us, hlo, dlo⟩, _⟩, ev⟩ := W.ev_kee T h hi hk
  have := ev_lenT (K := K) (ev_fld ev h1 TK.cl TK.nLoo rfl) (SqT.of hlo)
  rw [dpA_len dlo, List.length_map] at this
  exact this
/-- the epochs of a council, as a list -/
theorem W40.el_eps {σ : L2.St} {tc : TE} {j : Nat} (T : TxC K mg CC) (TS : TxS K mg CS) (W : W40 K CC CK CS TT d a c ll F M H0 g w ls H) (h : Ev tc σ H (.ref c)) (hss : w.ss.length ≤ 1000) (hj : ∀ v, ((wipe σ [j]).set j (some v))[j]? = some (some v)) (hw : ∀ v, wipe ((wipe σ [j]).set j (some v)) [j] = wipe σ [j]) : EvL (tLc (iList K (tFld K tc "sequencers")) (gName j) tYes (tFld K (tVar j) "epoch") [j]) σ H ((w.ss.map (·.ep)).map V.int) := by
  obtain ⟨zs, ez1, ez2, hz⟩ := prd_zip W.cn.sd.ps
  have hi := ei_L (K := K) (W.ev_seqs T h) (SqL.of W.cn.sd.hs)
  have e1 : (g.fs.map fun z => V.ref z.a) = zs.map fun y => V.ref y.1.a := by rw [ez1, List.map_map]; rfl
  have e2 : (w.ss.map (·.ep)).map V.int = zs.map fun y => V.int y.2.ep := by rw [ez2, List.map_map, List.map_map]; rfl
  rw [e1] at hi
  rw [e2]
  have lz : zs.length ≤ 1000 := by rw [ez2, List.length_map] at hss; exact hss
  refine el_mI (j := j) (vs := [j]) (c := fun y : Ft × SqS => V.ref y.1.a) (fun y => V.int y.2.ep) hi (by omega) (fun i y hy H' ex => ?_) hw
  obtain ⟨dxs, h1⟩ := ((hz y (List.mem_of_getElem? hy)).same ex).self
  exact ev_fld (ev_var (hj _)) h1 TS.cl TS.nEp rfl
theorem el_slN {te : TE} {tl th : TO} {σ : L2.St} {H : Hp} {xs : List V} {lo hi : Option Int} (h : EvL te σ H xs) (h1 : EvO tl σ H lo) (h2 : EvO th σ H hi) : EvL (tSl (rSlL K) te tl th) σ H (cutV xs lo hi) := fun H1 e Q q =>
  h H1 e _ fun p H2 hp e2 hp2 => h1 H2 (e.trans e2) _ fun H3 e3 => h2 H3 (e.trans (e2.trans e3)) _ fun H4 e4 => ⟨p, xs, rfl, SqL.of ((e3.trans e4) _ _ hp2), fun r hr => q r _ (fresh_back (e2.trans (e3.trans e4)) hr) ((e2.trans (e3.trans e4)).trans (Ex.new hr)) upd_same⟩
theorem Dws.lessU {Wp : Hp → Prop} (X : Dws K d a Wp) {u : Addr} (hud : u ≠ d) {o : HO} : Dws K d a (fun H => Wp (less H u) ∧ H u = some o) := by
  have lx : ∀ {H H' : Hp}, Ex H H' → Ex (less H u) (less H' u) := fun x b o z => by
    by_cases c : b = u
    · rw [c, less_at] at z; cases z
    · rw [less_ne c] at z
      rw [less_ne c]; exact x _ _ z
  refine ⟨fun H h => X.dr _ (X.ex _ _ h.1 less_ex), fun H H' h x => ⟨X.ex _ _ h.1 (lx x), x _ _ h.2⟩, fun H H' h hd kp => ⟨X.nx _ _ h.1 ?_ fun b o z nb => ?_, kp _ _ h.2 (by simpa using hud)⟩⟩
  · obtain ⟨k, hk⟩ := hd
    exact ⟨k, by rw [less_ne hud.symm]; exact hk⟩
  · have c : b ≠ u := fun e => by rw [e, less_at] at z; cases z
    rw [less_ne c] at z
    rw [less_ne c]
    exact kp _ _ z nb
theorem less_new {Wp : Hp → Prop} (X : Dws K d a Wp) {u : Addr} {o : HO} (W : Wp H) (hu : H u = none) : Wp (less (upd H u o) u) := X.ex _ _ W fun b o z => by
  have c : b ≠ u := fun e => by rw [e, hu] at z; cases z
  rw [less_ne c, upd_ne c]; exact z
theorem q_lstR {te : TE} {tz : TS} {D : Ends} {σ : L2.St} {H : Hp} {i n : Nat} (ev : Ev te σ H (.int (n : Nat))) (hn : n ≤ 1000) (k : ∀ u H1, Ex H H1 → H1 u = none → tz D (σ.set i (some (.ref u))) (upd H1 u (.lst ((List.range n).map vN)))) : tSeq (tAsg (tLstRg (tRg1 te)) (gName i)) tz D σ H := by
  refine ev H (Ex.refl _) _ fun H1 x1 => ⟨n, rfl, by unfold RgOk; omega, fun u hu => ?_⟩
  have e0 : rgV 0 (n : Int) = (List.range n).map vN := by
    unfold rgV
    simp [vN]
  rw [e0]
  exact k u H1 x1 hu
theorem q_pickL {Wp : Hp → Prop} (X : Dws K d a Wp) {tl : TE} {tz : TS} {D : Ends} {σ : L2.St} {i : Nat} {xs : List V} (h0 : σ[0]? = some (some (.ref d))) (ev : EvL tl σ H xs) (hx : 0 < xs.length) (W : Wp H) (k : ∀ x ∈ xs, ∀ H', Wp H' → (∀ b o, b ≠ d → H b = some o → H' b = some o) → tz D (σ.set i (some x)) H') :
    tSeq (tAsg (tCall (spPick K) [] E0 (tCons (tVar 0) (tCons tl tNil))) (gName i)) tz D σ H := by
  refine ⟨_, h0, ev H (Ex.refl _) _ fun p H1 hp x1 hp1 => ?_⟩
  have W1 := X.ex _ _ W x1
  obtain ⟨k0, hd0⟩ := (X.dr _ W1).at_
  obtain ⟨k1, hd1⟩ := (X.dr _ W).at_
  have npd : p ≠ d := fun e => by rw [e, hd1] at hp; cases hp
  exact ⟨[d], d, a, p, xs, rfl, X.dr _ W1, hx, fun H' kp => .inl (SqL.of (kp _ _ hp1 (by simpa using npd))), fun j x H' hj D' kp => k x (List.mem_of_getElem? hj) H' (X.nx _ _ W1 D'.at_ kp) fun b o nb z => kp _ _ (x1 _ _ z) (by simpa using nb)⟩
theorem add_w {CB : Addr} {i : Nat} {s : SqS} {σ : L2.St} {D : Ends} (T : TxC K mg CC) (S : S40 K CC CK CS TT d a c ll wd F M H0 g w ls n H) (hs : w.ss[i]? = some s) (hl : s.st = .leading) (hlen : s.row.length ≤ 90000) (h1 : σ[1]? = some (some (.ref c))) (h2 : σ[2]? = some (some (.ref wd))) (h4 : σ[4]? = some (some (.int (i : Nat))))
    (k : ∀ g' H', S40 K CC CK CS TT d a c ll wd F M H0 g' ⟨w.ks, w.ss.set i (s.add (.int (n + 1)))⟩ ls (n + 1) H' → D.nx σ H') :
    tSeq (tAugS (tVar 2) (tC (.int 0)) (tC (.int 1)) (rIxL K) (ipI fun i j => i + j) rSetL) (tDrop (tMethE CS "add" (spAdd K CS CB) (fun _ => E0) (tOp (rIxL K) (tFld K (tVar 1) "sequencers") (tVar 4)) (tCons (tOp (rIxL K) (tVar 2) (tC (.int 0))) tNil))) D σ H := by
  refine ⟨_, h2, wd, _, _, .int n, rfl, rfl, SqL.of S.wd, rfl, _, _, rfl, rfl, wd, _, _, 0, rfl, rfl, S.wd, rfl, ?_⟩
  have S1 := S.word (n' := n + 1)
  have e1 : ([V.int n].set 0 (.int (n + 1))) = [V.int (n + 1)] := rfl
  rw [e1]
  generalize upd H wd (.lst [.int (n + 1)]) = H1 at S1 ⊢
  obtain ⟨dx, hc⟩ := S1.W.c_at
  obtain ⟨z, hz, SQ⟩ := S1.W.cn.sd.sget hs
  obtain ⟨dxs, hzs⟩ := SQ.self
  have hix : (g.fs.map fun z => V.ref z.a)[i]? = some (.ref z.a) := by rw [List.getElem?_map, hz]; rfl
  refine ⟨_, h1, c, CC, dx, _, _, rfl, hc, T.cl, T.nSe, rfl, _, h4, g.sl, _, _, .ref z.a, rfl, rfl, SqL.of S1.W.cn.sd.hs, atN (j := i) rfl hix, z.a, dxs, _, rfl, hzs, rfl, _, h2, wd, _, _, .int (n + 1), rfl, rfl, SqL.of S1.wd, rfl, z, s, .int (n + 1), .int (n + 1), rfl, SQ, .int _, .inl ⟨hl, hlen, fun H' SQ' kp ks => ?_⟩⟩
  obtain ⟨g', br⟩ := BrP.row (TT := TT) S1.W.cn.sd S1.W.tb hz SQ SQ' kp ks
  exact k g' H' (S1.cou (CnP.br S1.W.cn br))
theorem stop_w {i : Nat} {s : SqS} {σ : L2.St} {D : Ends} (S : S40 K CC CK CS TT d a c ll wd F M H0 g w ls n H) (hs : w.ss[i]? = some s) (h1 : σ[1]? = some (some (.ref c))) (h4 : σ[4]? = some (some (.int (i : Nat))))
    (k : ∀ g' H', S40 K CC CK CS TT d a c ll wd F M H0 g' ⟨w.ks, w.ss.set i s.stop⟩ ls n H' → D.nx σ H') :
    tDrop (tMeth CC "stop" (spStopC K CC CK CS TT) [] E0 (tVar 1) (tCons (tVar 4) tNil)) D σ H := by
  obtain ⟨dx, hc⟩ := S.W.c_at
  exact ⟨_, h1, c, dx, _, rfl, hc, rfl, _, h4, c, ll, g, w, ls, i, s, rfl, S.W.cn, S.W.tb, hs, fun g' H' cp => k g' H' (S.cou cp)⟩
end
def spStep (K : PySem.W.Frag) (CC CK CS : Addr) (TT : List NTab) : Sp := fun vs H Q _ => ∃ (d a c ll wd : Addr) (F M : List Addr) (H0 : Hp) (g : Sf) (w : Cw) (ls : List Ltr) (B L m : Nat) (n : Int), vs = [.ref d, .ref c, .ref wd] ∧ W40 K CC CK CS TT d a c ll F M H0 g w ls H ∧ wd ∈ F ∧ wd ∈ M ∧ H wd = some (.lst [.int n]) ∧ P40 B L m w ls ∧ m ≤ 60 ∧ B ≤ 15000 ∧ L ≤ 900000 ∧
  ∀ (g' : Sf) (w' : Cw) (ls' : List Ltr) (n' : Int) (H' : Hp), W40 K CC CK CS TT d a c ll F M H0 g' w' ls' H' → H' wd = some (.lst [.int n']) → P40 (B + m + 1) (L + m + B) m w' ls' → RsG w w' → Q .non H'
section
variable {P : Program} {w : World} {K : PySem.W.Frag} {mg : PySem.Str → Option Value} {base : Heap} {CC CK CN CS CB : Addr} {TT : List NTab}
end
end Mc.Cn
namespace Mc.Cn
open PySem L2 PySem.Spec PyProof.Rows Evl LamX NdefX
/-! _law_rounds -/
abbrev sRounds : Stmt := top 0
abbrev nmR : List PySem.Str := ["draw", "many", "council", "last", "epoch", "number", "leader", "turn", "row", "place"]
/-- the law's world without a council -/
structure D40 (K : PySem.W.Frag) (TT : List NTab) (d a : Addr) (F M : List Addr) (H0 H : Hp) : Prop where
  dz : Dz K d a F H
  tb : TabsN TT H
  alc : ∀ b ∈ F, H b ≠ none
  dM : d ∈ M
  kp : KpN M H0 H
  gw : Grw H0 H
  ks : Ks H0 H
section
variable {K : PySem.W.Frag} {CC CK CS : Addr} {TT : List NTab} {d a c ll : Addr} {F M : List Addr} {H0 H H1 H2 H' : Hp} {g : Sf} {w : Cw} {ls : List Ltr}
theorem D40.ex (W : D40 K TT d a F M H0 H) (x : Ex H H') : D40 K TT d a F M H0 H' := ⟨W.dz.far (G := []) (KpN.same x) (fun _ h => nomatch h) fun _ h => .inl h, TabsN.ext W.tb x, fun b hb e => W.alc b hb (fresh_back x e), W.dM, fun b o z n t => x b o (W.kp b o z n t), W.gw.trans (Grw.same x), W.ks.trans (Ks.same x)⟩
theorem D40.d_at (W : D40 K TT d a F M H0 H) : ∃ k, H d = some (.lst [.ref a, .int k]) := by
  obtain ⟨k, ns, h, _⟩ := W.dz
  exact ⟨k, h⟩
theorem D40.draw (W : D40 K TT d a F M H0 H) (D : Dr K [d] d a H') (kp : Kp [d] H H') : D40 K TT d a F M H0 H' := by
  obtain ⟨k0, hd0⟩ := W.d_at
  obtain ⟨k1, hd1⟩ := D.at_
  have gw := Grw.kp kp (by rw [hd1]; exact nofun)
  exact ⟨W.dz.next D kp, tabs_kp W.tb kp hd0 (fun _ q => by cases q) (fun c q e => by unfold CodeO at e; cases e), fun b hb e => W.alc b hb (gw b e), W.dM, fun b o z n t => kp b o (W.kp b o z n t) (fun m => n (by rw [List.mem_singleton.mp m]; exact W.dM)), W.gw.trans gw, W.ks.trans (ks_d hd0 kp)⟩
theorem D40.dws : Dws K d a (D40 K TT d a F M H0) := ⟨fun _ W => W.dz.dr, fun _ _ W x => W.ex x, fun _ _ W hd k => W.draw (by obtain ⟨j, hj⟩ := hd; exact W.dz.dr.next k hj) k⟩
theorem D40.coun (W : D40 K TT d a F M H0 H1) (x : Ex H1 H2) (cn : CnAt K CC CK CS H2 c ll g w ls) (new : ∀ b ∈ c :: ll :: g.all, H1 b = none) : W40 K CC CK CS TT d a c ll F M H0 g w ls H2 := by
  have W2 := W.ex x
  refine ⟨W.dz.far (G := []) (KpN.same x) (fun _ h => nomatch h) fun b hb => ?_, W2.tb, cn, fun b hb m => W.alc b hb (new b m), W2.alc, W2.dM, fun b hb => .inr (W.gw b (new b hb)), W2.kp, W2.gw, W2.ks⟩
  exact (List.mem_append.mp hb).imp id (new b)
theorem W40.back (W : W40 K CC CK CS TT d a c ll F M H0 g w ls H) : D40 K TT d a F M H0 H := ⟨W.dz.far (G := []) (KpN.same fun _ _ z => z) (fun _ h => nomatch h) fun b h => .inl (List.mem_append.mpr (.inl h)), W.tb, W.alc, W.dM, W.kp, W.gw, W.ks⟩
/-- the world and a row beside it -/
structure T40 (K : PySem.W.Frag) (CC CK CS : Addr) (TT : List NTab) (d a c ll la : Addr) (F M : List Addr) (H0 : Hp) (g : Sf) (w : Cw) (ls : List Ltr) (R : List En) (H : Hp) : Prop where
  W : W40 K CC CK CS TT d a c ll F M H0 g w ls H
  la : TD K H la (R.map En.d)
theorem T40.dws {la : Addr} {R : List En} : Dws K d a (T40 K CC CK CS TT d a c ll la F M H0 g w ls R) := by
  refine ⟨fun _ S => S.W.dz.dr, fun _ _ S x => ⟨S.W.ex x, S.la.ks (Ks.same x) (tpAE _)⟩, fun H H' S h k => ⟨S.W.drawAt h k, ?_⟩⟩
  obtain ⟨k0, hd0⟩ := S.W.d_at
  exact S.la.ks (ks_d hd0 k) (tpAE _)
theorem T40.ex {la : Addr} {R : List En} (S : T40 K CC CK CS TT d a c ll la F M H0 g w ls R H) (x : Ex H H') : T40 K CC CK CS TT d a c ll la F M H0 g w ls R H' := T40.dws.ex _ _ S x
theorem T40.cou {la : Addr} {R : List En} {g' : Sf} {w' : Cw} {ls' : List Ltr} (S : T40 K CC CK CS TT d a c ll la F M H0 g w ls R H) (b : CnP K CC CK CS TT H c ll g w' ls' g' H') : T40 K CC CK CS TT d a c ll la F M H0 g' w' ls' R H' := ⟨S.W.cou b, S.la.ks b.ks (tpAE _)⟩
theorem W40.new_off (W : W40 K CC CK CS TT d a c ll F M H0 g w ls H) {u : Addr} (hu : H u = none) : u ∉ g.all := fun hm => by
  obtain ⟨o, ho, _⟩ := cn_nt W.cn u (.tail _ (.tail _ hm))
  rw [ho] at hu; cases hu
theorem len_of {v : Cw} {es : List Int} {i : Nat} (h : v.ss.map (·.ep) = es) (l : es.length = i + 1) : ∃ s, v.ss[i]? = some s := by
  have : v.ss.length = i + 1 := by rw [← l, ← h, List.length_map]
  exact ⟨_, List.getElem?_eq_getElem (by omega)⟩
theorem e_ok7 : ∀ i : Fin 7, (En.str (("e" : PySem.Str) ++ ((toString (i.val : Int) : String) : PySem.Str))).ok := by unfold En.ok; decide +kernel
theorem e_len7 : ∀ i : Fin 7, ("e" : PySem.Str).length + ((toString (i.val : Int) : String) : PySem.Str).length ≤ 1000 := by decide +kernel
theorem e_log7 : ∀ i : Fin 7, (i.val : Int).natAbs.log2 < 1920 := by decide +kernel
/-- how many are settled at a place -/
theorem W40.ev_nset {σ : L2.St} {tc ti : TE} {p B m : Nat} {L : Nat} {mg : PySem.Str → Option Value} (T : TxC K mg CC) (W : W40 K CC CK CS TT d a c ll F M H0 g w ls H) (PP : P40 B L m w ls) (hm : m ≤ 60) (hB : B ≤ 16000) (h : Ev tc σ H (.ref c)) (hi : Ev ti σ H (.int (p : Nat))) : Ev (tCB (rLenS K) (tCons (tCall (spSettledAt K CK) [] E0 (tCons (tFld K tc "keepers") (tCons ti tNil))) tNil)) σ H (.int ((setOf p w.ks).length : Nat)) := fun H1 e Q q =>
  W.ev_kees T h H1 e _ fun H2 e2 => hi H2 (e.trans e2) _ fun H3 e3 => ⟨g.kl, p, B, w.ks, rfl, KsAt.of (W.ex (e.trans (e2.trans e3))).cn.sd PP.ok hm hB, fun r H4 hr s4 ⟨ws, h1, h2⟩ => ⟨r, ws, rfl, .inl (SqL.of h1), by
    have : ws.length = (setOf p w.ks).length := by rw [dpA_len h2, List.length_map]
    rw [this]
    exact q H4 (e2.trans (e3.trans s4))⟩⟩
/-- a tuple's first ones, and that they are not another tuple -/
theorem tup_sl {t : Addr} {ds : List PyData} {n : Nat} {Q : VK} (ht : TD K H t ds) (tp : tpA ds = true) (hn : n ≤ ds.length) (q : ∀ t' H', Ex H H' → TD K H' t' (ds.take n) → Q (.ref t') H') : rSlA K (.ref t) none (some (n : Nat)) H Q := by
  obtain ⟨vs, h1, h2⟩ := ht
  have lv := dpA_len h2
  refine ⟨t, vs, rfl, SqT.of h1, fun ⟨_, e⟩ => ?_, fun _ p hp => ?_⟩
  · have e2 : cutV vs none (some (n : Nat)) = vs := by
      rw [cutN]
      have : HT.sIx vs.length vs.length (some (n : Nat)) = n := by
        show (if ((n : Nat) : Int) < 0 then (((n : Nat) : Int) + (vs.length : Nat)).toNat else min n vs.length) = n
        rw [if_neg (by omega)]
        omega
      rw [this] at e
      rw [e, List.take_length]
    rw [cutN] at e2
    refine q t H (Ex.refl _) ⟨vs, h1, ?_⟩
    have := dpA_take n h2
    rwa [e2] at this
  · rw [cutN]
    exact q p _ (Ex.new hp) ⟨_, upd_same, dpA_take n (dpA_tp (Tp.new hp) _ _ tp h2)⟩
theorem sd_row {R : List En} (h : ∀ x ∈ R, x.ok) : sdD (.tuple (R.map En.d)) = true ∧ (PyData.tuple (R.map En.d)).depth ≤ 64 := by
  refine ⟨by rw [sdT]; exact sdA_map fun x hx => En.sd (h x hx), Nat.le_trans (depT (n := 1) fun x hx => ?_) (by decide)⟩
  obtain ⟨y, _, rfl⟩ := List.mem_map.mp hx
  exact En.dep y
theorem en_inj {a b : List En} : PyData.tuple (a.map En.d) = PyData.tuple (b.map En.d) ↔ a = b := by
  constructor
  · intro h
    injection h with h
    have : ∀ (a b : List En), a.map En.d = b.map En.d → a = b := by
      intro a
      induction a with
      | nil => intro b h; cases b with
        | nil => rfl
        | cons => cases h
      | cons x xs ih => intro b h; cases b with
        | nil => cases h
        | cons y ys =>
          injection h with h1 h2
          rw [En.inj.mp h1, ih _ h2]
    exact this a b h
  · rintro rfl; rfl
/-- row[:len(last)] != last -/
theorem et_grown {σ : L2.St} {ta tb : TE} {t u : Addr} {R L : List En} (ha : Ev ta σ H (.ref t)) (hb : Ev tb σ H (.ref u)) (ht : TD K H t (R.map En.d)) (hu : TD K H u (L.map En.d)) (hR : ∀ x ∈ R, x.ok) (e : R.take L.length = L) (le : L.length ≤ R.length) : EvT (tTest (tOp (rNeD K) (tSl (rSlA K) ta tNoPart (tPart (tCB (rLenS K) (tCons tb tNil)))) tb)) σ H false := by
  obtain ⟨us, hu1, hu2⟩ := hu
  have lus : us.length = L.length := by rw [dpA_len hu2, List.length_map]
  have hL : ∀ x ∈ L, x.ok := fun x hx => hR x (by rw [← e] at hx; exact List.mem_of_mem_take hx)
  refine et_test fun H1 x1 Q q => ha H1 x1 _ fun H2 x2 => hb H2 (x1.trans x2) _ fun H3 x3 => ?_
  have x13 := x1.trans (x2.trans x3)
  refine ⟨u, us, rfl, .inr (SqT.of (x13 _ _ hu1)), (us.length : Int), rfl, ?_⟩
  rw [lus]
  refine tup_sl (ht.ks (Ks.same x13) (tpAE _)) (tpAE _) (by rw [List.length_map]; exact le) fun t' H4 x4 td => hb H4 (x13.trans x4) _ fun H5 x5 => ?_
  have x45 := x4.trans x5
  have e1 : (R.map En.d).take L.length = L.map En.d := by rw [← List.map_take, e]
  rw [e1] at td
  have d1 := (td.ks (Ks.same x5) (tpAE _)).dp
  have d2 : Dp K H5 (.ref u) (.tuple (L.map En.d)) := (TD.ks ⟨us, hu1, hu2⟩ (Ks.same (x13.trans x45)) (tpAE _)).dp
  exact rv_neDD d1 d2 (sd_row hL).1 (sd_row hL).1 (sd_row hL).2 (sd_row hL).2 (b := true) (by simp) H5 (Ex.refl _) Q fun H6 x6 => q H6 ((x2.trans x3).trans (x45.trans x6))
end
def spRounds (K : PySem.W.Frag) (TT : List NTab) : Sp := fun vs H Q _ => ∃ (d a : Addr) (F : List Addr), vs = [.ref d] ∧ D40 K TT d a F [d] H H ∧ ∀ H', D40 K TT d a F [d] H H' → Q (.bl true) H'
structure TxR (K : PySem.W.Frag) (mg : PySem.Str → Option Value) (CC CK CN CS : Addr) : Prop extends TxL K mg CC CK CN CS where
  str : mg "str" = none
  any : mg "any" = none
section
variable {P : Program} {w : World} {K : PySem.W.Frag} {mg : PySem.Str → Option Value} {base : Heap} {CC CK CN CS CB : Addr} {TT : List NTab}
end
end Mc.Cn
namespace Mc.Cn
open PySem L2 PySem.Spec PyProof.Rows
/-! a sequencer of a greater epoch than all takes over -/
/-! all epochs below a bound -/
structure EpB (E : Int) (w : Cw) (ls : List Ltr) : Prop where
  ss : ∀ s ∈ w.ss, s.ep < E
  ks : ∀ (n : Nat) (k : KeS), w.ks[n]? = some k → (∀ r ∈ k.recs, r.ep < E) ∧ ∀ l ∈ k.wa, l.ep < E
  ls : ∀ l ∈ ls, l.ep < E
theorem recOf_ep {k : Kn} {l : Ltr} : ∀ r ∈ oList (k.recOf l), r.ep = l.ep := by
  intro r hr
  cases l with
  | ask e n =>
    have hr : r ∈ oList (if e < k.ep then none else if e > k.ep then some (Rec.prom e) else none) := hr
    split at hr
    · exact nomatch hr
    · split at hr
      · rw [List.mem_singleton.mp hr]; rfl
      · exact nomatch hr
  | write e n p x =>
    have hr : r ∈ oList (if e < k.ep then none else if k.bars e p then none else if k.isNew e p x then some (Rec.take e p x) else none) := hr
    split at hr
    · exact nomatch hr
    · split at hr
      · exact nomatch hr
      · split at hr
        · rw [List.mem_singleton.mp hr]; rfl
        · exact nomatch hr
  | _ => exact nomatch hr
theorem ansOf_ep {k : Kn} {m : Nat} {l : Ltr} : ∀ a ∈ oList (k.ansOf m l), a.ep = l.ep := by
  intro a ha
  cases l with
  | ask e n =>
    have ha : a ∈ oList (if e < k.ep then some (Ltr.refused e m k.ep) else some (.told e m k.row)) := ha
    split at ha <;> (rw [List.mem_singleton.mp ha]; rfl)
  | write e n p x =>
    have ha : a ∈ oList (if e < k.ep then some (Ltr.refused e m k.ep) else if k.bars e p then none else some (.taken e m p)) := ha
    split at ha
    · rw [List.mem_singleton.mp ha]; rfl
    · split at ha
      · exact nomatch ha
      · rw [List.mem_singleton.mp ha]; rfl
  | _ => exact nomatch ha
section
variable {E : Int} {w : Cw} {ls : List Ltr}
theorem EpB.onK {n : Nat} {f : KeS → KeS} {l2 : List Ltr} (h : EpB E w ls) (hf : ∀ k, w.ks[n]? = some k → (∀ r ∈ (f k).recs, r.ep < E) ∧ ∀ l ∈ (f k).wa, l.ep < E) (hl : ∀ l ∈ l2, l.ep < E) : EpB E (w.onK n f) l2 := by
  refine ⟨h.ss, fun i k hk => ?_, hl⟩
  have hk : (w.ks.modify n f)[i]? = some k := hk
  rw [List.getElem?_modify] at hk
  by_cases c : n = i
  · subst c
    simp only [if_true] at hk
    obtain ⟨k0, e0, rfl⟩ := Option.map_eq_some_iff.mp hk
    exact hf k0 e0
  · simp only [if_neg c] at hk
    obtain ⟨k0, e0, rfl⟩ := Option.map_eq_some_iff.mp hk
    exact h.ks i k0 e0
theorem EpB.handle {l : Ltr} (h : EpB E w ls) (hl : l.ep < E) : EpB E (w.onK l.num (·.handle l)) ls := by
  refine h.onK (fun k hk => ?_) h.ls
  have g := h.ks _ k hk
  refine ⟨fun r hr => ?_, fun a ha => ?_⟩
  · rw [recs_handle] at hr
    rcases List.mem_append.mp hr with hr | hr
    · exact g.1 r hr
    · rw [recOf_ep r hr]; exact hl
  · have ha : a ∈ k.wa ++ oList (k.kn.ansOf k.n l) := ha
    rcases List.mem_append.mp ha with ha | ha
    · exact g.2 a ha
    · rw [ansOf_ep a ha]; exact hl
theorem EpB.bring {l : Ltr} (h : EpB E w ls) (hl : l.ep < E) : EpB E (w.bring l) ls := by
  unfold Cw.bring
  split
  · refine ⟨fun s hs => ?_, h.ks, h.ls⟩
    obtain ⟨s0, h0, rfl⟩ := List.mem_map.mp hs
    rw [hear_ep']; exact h.ss s0 h0
  · exact h.handle hl
theorem EpB.flush {n : Nat} {k : KeS} (h : EpB E w ls) (hk : w.ks[n]? = some k) : EpB E (w.onK n KeS.flush) (ls ++ k.wa) := by
  refine h.onK (fun k hk => ⟨fun r hr => (h.ks _ k hk).1 r (by rw [recs_flush] at hr; exact hr), fun a ha => nomatch ha⟩) fun l hl => ?_
  exact (List.mem_append.mp hl).elim (h.ls l) ((h.ks n k hk).2 l)
theorem EpB.begin {e : Int} {m : Nat} (h : EpB E w ls) (he : e < E) : EpB E ⟨w.ks, w.ss ++ [SqS.new e m]⟩ ls := by
  refine ⟨fun s hs => ?_, h.ks, h.ls⟩
  rcases List.mem_append.mp hs with hs | hs
  · exact h.ss s hs
  · rw [List.mem_singleton.mp hs]; exact he
theorem EpB.add {i : Nat} {s : SqS} {x : En} (h : EpB E w ls) (hs : w.ss[i]? = some s) : EpB E ⟨w.ks, w.ss.set i (s.add x)⟩ ls := by
  refine ⟨fun t ht => ?_, h.ks, h.ls⟩
  rcases mem_set ht with rfl | ht
  · exact h.ss s (List.mem_of_getElem? hs)
  · exact h.ss t ht
theorem toSend_ep {s : SqS} : ∀ l ∈ s.toSend, l.ep = s.ep := by
  intro l hl
  unfold SqS.toSend at hl
  cases e : s.st with
  | asking =>
    rw [e] at hl
    obtain ⟨n, _, rfl⟩ := List.mem_map.mp hl
    rfl
  | leading =>
    rw [e] at hl
    obtain ⟨n, _, rfl⟩ := List.mem_map.mp hl
    rfl
  | stopped => rw [e] at hl; exact nomatch hl
theorem EpB.send {i : Nat} {s : SqS} (h : EpB E w ls) (hs : w.ss[i]? = some s) : EpB E w (ls ++ s.toSend) := by
  refine ⟨h.ss, h.ks, fun l hl => ?_⟩
  rcases List.mem_append.mp hl with hl | hl
  · exact h.ls l hl
  · rw [toSend_ep l hl]; exact h.ss s (List.mem_of_getElem? hs)
theorem EpB.fewer {l2 : List Ltr} (h : EpB E w ls) (hl : ∀ l ∈ l2, l ∈ ls) : EpB E w l2 := ⟨h.ss, h.ks, fun l q => h.ls l (hl l q)⟩
end
theorem EpB.start {E : Int} {many : Nat} : EpB E ⟨(List.range many).map KeS.new, []⟩ [] := by
  refine ⟨fun _ h => (nomatch h), fun i k hk => ?_, fun _ h => (nomatch h)⟩
  have hk : ((List.range many).map KeS.new)[i]? = some k := hk
  rw [List.getElem?_map] at hk
  obtain ⟨j, hj, rfl⟩ := Option.map_eq_some_iff.mp hk
  exact ⟨fun _ h => (nomatch h), fun _ h => (nomatch h)⟩
theorem all_lt {E : Int} : ∀ {rs : List Rec} {k : Kn}, k.ep < E → (∀ r ∈ rs, r.ep < E) → (k.all rs).ep < E
  | [], _, h, _ => h
  | r :: rs, k, h, hr => by
    refine all_lt (rs := rs) (k := k.step r) ?_ fun x hx => hr x (.tail _ hx)
    have := hr r (.head _)
    cases r with
    | prom e => show (if e > k.ep then e else k.ep) < E; have : e < E := this; split <;> omega
    | take e p x => show (if e > k.ep then e else k.ep) < E; have : e < E := this; split <;> omega
/-! what bringing does -/
theorem brings_req : ∀ {bs : List Ltr} {w : Cw}, (∀ l ∈ bs, l.isAns = false) → (bs.map (·.num)).Nodup →
    (w.brings bs).ss = w.ss ∧ (∀ n, n ∉ bs.map (·.num) → (w.brings bs).ks[n]? = w.ks[n]?) ∧ ∀ l ∈ bs, (w.brings bs).ks[l.num]? = w.ks[l.num]?.map (·.handle l)
  | [], _, _, _ => ⟨rfl, fun _ _ => rfl, fun _ h => (nomatch h)⟩
  | b :: bs, w, ha, nd => by
    have nd := List.nodup_cons.mp nd
    have e : w.brings (b :: bs) = (w.onK b.num (·.handle b)).brings bs := by
      show (w.bring b).brings bs = _
      unfold Cw.bring
      rw [ha b (.head _)]; rfl
    obtain ⟨h1, h2, h3⟩ := brings_req (bs := bs) (w := w.onK b.num (·.handle b)) (fun l hl => ha l (.tail _ hl)) nd.2
    rw [e]
    have at_ : ∀ n, (w.onK b.num (·.handle b)).ks[n]? = if b.num = n then w.ks[n]?.map (·.handle b) else w.ks[n]? := fun n => by
      show (w.ks.modify b.num _)[n]? = _
      rw [List.getElem?_modify]
      by_cases c : b.num = n
      · rw [if_pos c]; simp [c]
      · rw [if_neg c]; simp [c]
    refine ⟨h1, fun n hn => ?_, fun l hl => ?_⟩
    · have hn : n ≠ b.num ∧ n ∉ bs.map (·.num) := ⟨fun q => hn (by rw [q]; exact .head _), fun q => hn (.tail _ q)⟩
      rw [h2 n hn.2, at_, if_neg (fun q => hn.1 q.symm)]
    · rcases List.mem_cons.mp hl with rfl | hl
      · rw [h2 _ nd.1, at_, if_pos rfl]
      · rw [h3 l hl, at_, if_neg (fun q => nd.1 (List.mem_map.mpr ⟨l, hl, q.symm⟩))]
theorem brings_ans : ∀ {bs : List Ltr} {w : Cw}, (∀ l ∈ bs, l.isAns = true) → w.brings bs = ⟨w.ks, w.ss.map fun s => bs.foldl SqS.hear s⟩
  | [], w, _ => by show w = ⟨w.ks, w.ss.map fun s => s⟩; rw [List.map_id']
  | b :: bs, w, ha => by
    show (w.bring b).brings bs = _
    have e : w.bring b = ⟨w.ks, w.ss.map (·.hear b)⟩ := by unfold Cw.bring; rw [if_pos (ha b (.head _))]
    rw [e, brings_ans fun l hl => ha l (.tail _ hl)]
    show Cw.mk w.ks ((w.ss.map (·.hear b)).map _) = _
    rw [List.map_map]; rfl
def waOf (w : Cw) (n : Nat) : List Ltr := (w.ks[n]?.map (·.wa)).getD []
theorem fold_flush : ∀ {up : List Nat} {w : Cw}, up.Nodup → (∀ (n : Nat) (k : KeS), w.ks[n]? = some k → ∀ l ∈ k.wa, l.isAns = true) →
    (up.foldl Cw.flushed w).ss = w.ss.map (fun s => (up.flatMap (waOf w)).foldl SqS.hear s) ∧ (∀ n, n ∉ up → (up.foldl Cw.flushed w).ks[n]? = w.ks[n]?) ∧ ∀ n ∈ up, (up.foldl Cw.flushed w).ks[n]? = w.ks[n]?.map KeS.flush
  | [], w, _, _ => ⟨by show w.ss = w.ss.map fun s => s; rw [List.map_id'], fun _ _ => rfl, fun _ h => (nomatch h)⟩
  | u :: up, w, nd, ha => by
    have nd := List.nodup_cons.mp nd
    have e : w.flushed u = ⟨w.ks.modify u KeS.flush, w.ss.map fun s => (waOf w u).foldl SqS.hear s⟩ := by
      unfold Cw.flushed
      refine brings_ans (w := w.onK u KeS.flush) fun l hl => ?_
      cases e : w.ks[u]? with
      | none => rw [e] at hl; exact nomatch hl
      | some k => rw [e] at hl; exact ha u k e l hl
    have at_ : ∀ n, (w.flushed u).ks[n]? = if u = n then w.ks[n]?.map KeS.flush else w.ks[n]? := fun n => by
      rw [e]
      show (w.ks.modify u _)[n]? = _
      rw [List.getElem?_modify]
      by_cases c : u = n
      · rw [if_pos c]; simp [c]
      · rw [if_neg c]; simp [c]
    obtain ⟨h1, h2, h3⟩ := fold_flush (up := up) (w := w.flushed u) nd.2 fun n k hk l hl => by
      rw [at_] at hk
      split at hk
      · obtain ⟨k0, e0, rfl⟩ := Option.map_eq_some_iff.mp hk
        exact nomatch hl
      · exact ha n k hk l hl
    have fl : up.flatMap (waOf (w.flushed u)) = up.flatMap (waOf w) := by
      have : ∀ (xs : List Nat), u ∉ xs → xs.flatMap (waOf (w.flushed u)) = xs.flatMap (waOf w) := by
        intro xs
        induction xs with
        | nil => exact fun _ => rfl
        | cons x xs ih =>
          intro hx
          rw [List.flatMap_cons, List.flatMap_cons, ih fun q => hx (.tail _ q)]
          congr 1
          show ((w.flushed u).ks[x]?.map (·.wa)).getD [] = _
          rw [at_, if_neg (fun q => hx (by rw [q]; exact .head _))]; rfl
      exact this up nd.1
    refine ⟨?_, fun n hn => ?_, fun n hn => ?_⟩
    · show (up.foldl Cw.flushed (w.flushed u)).ss = _
      rw [h1, fl]
      conv => lhs; rw [e]
      show (w.ss.map _).map _ = _
      rw [List.map_map]
      refine List.map_congr_left fun s _ => ?_
      show _ = ((u :: up).flatMap (waOf w)).foldl SqS.hear s
      rw [List.flatMap_cons, List.foldl_append]; rfl
    · show (up.foldl Cw.flushed (w.flushed u)).ks[n]? = _
      rw [h2 n (fun q => hn (.tail _ q)), at_, if_neg (fun q => hn (by rw [q]; exact .head _))]
    · show (up.foldl Cw.flushed (w.flushed u)).ks[n]? = _
      rcases List.mem_cons.mp hn with rfl | hn
      · rw [h2 n nd.1, at_, if_pos rfl]
      · rw [h3 n hn, at_, if_neg (fun q => nd.1 (by rw [q]; exact hn))]
/-! what a sequencer hears of others' epochs is nothing -/
theorem hears_ep : ∀ {bs : List Ltr} {s : SqS}, (bs.foldl SqS.hear s).ep = s.ep
  | [], _ => rfl
  | b :: bs, s => by show (bs.foldl SqS.hear (s.hear b)).ep = _; rw [hears_ep, hear_ep']
theorem hears_skip : ∀ {bs : List Ltr} {s : SqS}, (∀ l ∈ bs, l.ep ≠ s.ep) → bs.foldl SqS.hear s = s
  | [], _, _ => rfl
  | b :: bs, s, h => by
    have e : s.hear b = s := by unfold SqS.hear; rw [if_pos (.inl (h b (.head _)))]
    show bs.foldl SqS.hear (s.hear b) = s
    rw [e]
    exact hears_skip fun l hl => h l (.tail _ hl)
theorem hears_flat {f : Nat → List Ltr} {g : Nat → Ltr} {E : Int} : ∀ {ns : List Nat} {s : SqS}, s.ep = E → (∀ n ∈ ns, ∃ a, f n = a ++ [g n] ∧ ∀ l ∈ a, l.ep ≠ E) → (ns.flatMap f).foldl SqS.hear s = (ns.map g).foldl SqS.hear s
  | [], _, _, _ => rfl
  | n :: ns, s, he, h => by
    obtain ⟨a, e, ha⟩ := h n (.head _)
    rw [List.flatMap_cons, List.foldl_append, e, List.foldl_append]
    have e2 : a.foldl SqS.hear s = s := hears_skip fun l hl => by rw [he]; exact ha l hl
    rw [e2]
    show (ns.flatMap f).foldl SqS.hear (s.hear (g n)) = _
    rw [hears_flat (g := g) (by rw [hear_ep']; exact he) fun m hm => h m (.tail _ hm)]
    rfl
/-! a sequencer that is not asking keeps its row and what it was told -/
theorem hear_kept {s : SqS} (h : s.st ≠ .asking) (l : Ltr) : (s.hear l).row = s.row ∧ (s.hear l).rows = s.rows ∧ (s.hear l).st ≠ .asking := by
  unfold SqS.hear
  split
  · exact ⟨rfl, rfl, h⟩
  · cases l with
    | refused e n k => exact ⟨rfl, rfl, nofun⟩
    | taken e n p => dsimp only; split <;> exact ⟨rfl, rfl, h⟩
    | _ => exact ⟨rfl, rfl, h⟩
structure Led (many : Nat) (E : Int) (L : List En) (s : SqS) : Prop where
  ep : s.ep = E
  row : s.row = L
  na : s.st ≠ .asking
  rows : most many ≤ s.rows.length
  len : maxLen (s.rows.map (·.2)) ≤ L.length
theorem Led.hear {many : Nat} {E : Int} {L : List En} {s : SqS} (h : Led many E L s) (l : Ltr) : Led many E L (s.hear l) := by
  obtain ⟨a, b, c⟩ := hear_kept h.na l
  exact ⟨(hear_ep' s l).trans h.ep, a.trans h.row, c, by rw [b]; exact h.rows, by rw [b]; exact h.len⟩
/-- the sequencer at a place leads with a row -/
def LdA (many : Nat) (E : Int) (L : List En) (w : Cw) (i : Nat) : Prop := ∃ s, w.ss[i]? = some s ∧ Led many E L s
theorem LdA.bring {many : Nat} {E : Int} {L : List En} {w : Cw} {i : Nat} (h : LdA many E L w i) (l : Ltr) : LdA many E L (w.bring l) i := by
  obtain ⟨s, hs, hl⟩ := h
  unfold Cw.bring
  split
  · exact ⟨s.hear l, by show (w.ss.map _)[i]? = _; rw [List.getElem?_map, hs]; rfl, hl.hear l⟩
  · exact ⟨s, hs, hl⟩
theorem LdA.brings {many : Nat} {E : Int} {L : List En} {i : Nat} : ∀ {bs : List Ltr} {w : Cw}, LdA many E L w i → LdA many E L (w.brings bs) i
  | [], _, h => h
  | b :: bs, _, h => LdA.brings (bs := bs) (h.bring b)
theorem LdA.exchange {many : Nat} {E : Int} {L : List En} {w : Cw} {i j : Nat} {up : List Nat} (h : LdA many E L w i) : LdA many E L (w.exchange j up) i := by
  unfold Cw.exchange
  have h1 : LdA many E L (w.sent j up) i := h.brings
  generalize w.sent j up = v at h1
  induction up generalizing v with
  | nil => exact h1
  | cons u up ih => exact ih (v.flushed u) (LdA.brings (w := v.onK u KeS.flush) h1)
theorem LdA.add {many : Nat} {E : Int} {L : List En} {w : Cw} {i j : Nat} {t : SqS} {x : En} (h : LdA many E L w i) (ne : j ≠ i) : LdA many E L ⟨w.ks, w.ss.set j (t.add x)⟩ i := by
  obtain ⟨s, hs, hl⟩ := h
  exact ⟨s, by show (w.ss.set j _)[i]? = _; rw [List.getElem?_set_ne ne]; exact hs, hl⟩
/-- a row that has all that was told, of an epoch as great as any, and is on disks: the settled row -/
theorem LdA.rowS {many : Nat} {E : Int} {L : List En} {w : Cw} {i : Nat} {ls : List Ltr} (S : Sfe many w ls) (h : LdA many E L w i) (ge : ∀ s ∈ w.ss, s.ep ≤ E) (at_ : ∀ (p : Nat) (x : En), L[p]? = some x → SetAt many w p x) : RowS many w L := by
  refine ⟨at_, fun x ⟨e, Q, m, hQ⟩ => ?_⟩
  obtain ⟨s, hs, hl⟩ := h
  have hm := List.mem_of_getElem? hs
  have si := S.si s hm
  obtain ⟨n0, hn0⟩ := m.some_
  obtain ⟨k0, hk0, hx0⟩ := hQ n0 hn0
  obtain ⟨t, ht, et, hx⟩ := (S.ki n0 k0 hk0).vote e _ x (List.mem_append.mpr (.inl hx0))
  by_cases c : e = E
  · have : t = s := eps_uniq S.eps ht hm (by rw [et, hl.ep]; exact c)
    subst this
    rw [hl.row, List.getElem?_eq_none (Nat.le_refl _)] at hx
    exact nomatch hx
  · have lt : e < E := by have := ge t ht; omega
    obtain ⟨n, h1, h2⟩ := m.meet (rows_maj si.nd (fun q hq => (si.rows q hq).1) hl.rows)
    obtain ⟨y, hy, rfl⟩ := List.mem_map.mp h2
    obtain ⟨_, ⟨k2, hk2, hd2, ht2⟩, _⟩ := si.rows y hy
    obtain ⟨k, hk, hx⟩ := hQ _ h1
    rw [hk2] at hk
    obtain rfl := Option.some.inj hk
    obtain ⟨q2, hq2, _⟩ := ht2.1 e _ x (List.mem_append.mpr (.inl hx)) (by rw [hl.ep]; exact lt)
    have h1 := (List.getElem?_eq_some_iff.mp hq2).1
    have h2 := maxLen_ge (List.mem_map.mpr ⟨y, hy, rfl⟩ : y.2 ∈ s.rows.map (·.2))
    have := hl.len
    omega
theorem RowS.uniq {many : Nat} {w : Cw} {ls : List Ltr} {R R' : List En} (S : Sfe many w ls) (a : RowS many w R) (b : RowS many w R') : R = R' := by
  have h1 := pre_of S b a.at_
  have h2 := pre_of S a b.at_
  have l1 := congrArg List.length h1
  have l2 := congrArg List.length h2
  rw [List.length_take] at l1 l2
  rw [h1, List.take_of_length_le (by omega)]
/-- all that was settled is in its row -/
theorem LdA.before {many : Nat} {E : Int} {L R : List En} {w w0 : Cw} {i : Nat} {ls l0 : List Ltr} (S0 : Sfe many w0 l0) (S : Sfe many w ls) (h : LdA many E L w i) (lt : ∀ s ∈ w0.ss, s.ep < E) (g : RsG w0 w) (r : ∀ (p : Nat) (x : En), R[p]? = some x → SetAt many w0 p x) : R = L.take R.length := by
  obtain ⟨s, hs, hl⟩ := h
  have hm := List.mem_of_getElem? hs
  have si := S.si s hm
  have key : ∀ (p : Nat) (x : En), R[p]? = some x → L[p]? = some x := by
    intro p x hx
    obtain ⟨e, Q, m, hQ⟩ := r p x hx
    have elt : e < E := by
      obtain ⟨n0, hn0⟩ := m.some_
      obtain ⟨k0, hk0, hx0⟩ := hQ n0 hn0
      obtain ⟨t, ht, et, _⟩ := (S0.ki n0 k0 hk0).vote e _ x (List.mem_append.mpr (.inl hx0))
      rw [← et]; exact lt t ht
    have hQ2 : ∀ n ∈ Q, ∃ k, w.ks[n]? = some k ∧ Rec.take e p x ∈ k.rs := fun n hn => by
      obtain ⟨k, hk, hx⟩ := hQ n hn
      obtain ⟨k', hk', z⟩ := g n k hk
      exact ⟨k', hk', z _ hx⟩
    obtain ⟨n, h1, h2⟩ := m.meet (rows_maj si.nd (fun q hq => (si.rows q hq).1) hl.rows)
    obtain ⟨y, hy, rfl⟩ := List.mem_map.mp h2
    obtain ⟨_, ⟨k2, hk2, hd2, ht2⟩, _⟩ := si.rows y hy
    obtain ⟨k, hk, hx⟩ := hQ2 _ h1
    rw [hk2] at hk
    obtain rfl := Option.some.inj hk
    obtain ⟨q2, hq2, _⟩ := ht2.1 e _ x (List.mem_append.mpr (.inl hx)) (by rw [hl.ep]; exact elt)
    have h1 := (List.getElem?_eq_some_iff.mp hq2).1
    have h2 := maxLen_ge (List.mem_map.mpr ⟨y, hy, rfl⟩ : y.2 ∈ s.rows.map (·.2))
    have hlen := hl.len
    have hp : p < L.length := by omega
    have hy2 := List.getElem?_eq_getElem hp
    have := S.later m hQ2 (e2 := E) (y := L[p]) ⟨s, hm, hl.ep, by rw [hl.row]; exact hy2⟩ (by omega)
    rw [hy2, this]
  refine List.ext_getElem? fun p => ?_
  rw [List.getElem?_take]
  by_cases c : p < R.length
  · rw [if_pos c, key p _ (List.getElem?_eq_getElem c), List.getElem?_eq_getElem c]
  · rw [if_neg c, List.getElem?_eq_none (by omega)]
/-! the first exchange: it leads -/
/-- a keeper that is with the leader -/
structure KUp (E : Int) (w : Cw) (n : Nat) : Prop where
  ex : ∃ k, w.ks[n]? = some k ∧ k.kn.ep = E ∧ k.wa = []
theorem told_lead {many : Nat} {E : Int} {g : Nat → Row} : ∀ {us : List Nat} {s : SqS}, s.ep = E → s.many = many → us.Nodup → (∀ n ∈ us, n ∉ s.rows.map (·.1)) → (s.st = .leading ∨ s.st = .asking ∧ most many ≤ s.rows.length + us.length ∧ s.rows.length < most many) →
    ((us.map fun n => Ltr.told E n (g n)).foldl SqS.hear s).st = .leading
  | [], s, _, _, _, _, h => by
    rcases h with h | ⟨_, h1, h2⟩
    · exact h
    · rw [List.length_nil] at h1; omega
  | u :: us, s, he, hm, nd, hn, h => by
    have nd := List.nodup_cons.mp nd
    show ((us.map fun n => Ltr.told E n (g n)).foldl SqS.hear (s.hear (.told E u (g u)))).st = .leading
    rcases h with h | ⟨h0, h1, h2⟩
    · have e : s.hear (.told E u (g u)) = s := by
        unfold SqS.hear
        split
        · rfl
        · dsimp only; rw [if_neg (by rw [h]; exact nofun)]
      rw [e]
      exact told_lead he hm nd.2 (fun n q => hn n (.tail _ q)) (.inl h)
    · have hk : (putR u (g u) s.rows).map (·.1) = s.rows.map (·.1) ++ [u] := by rw [putR_keys, if_neg (hn u (.head _))]
      have hl : (putR u (g u) s.rows).length = s.rows.length + 1 := by
        have := congrArg List.length hk
        simpa using this
      have e : s.hear (.told E u (g u)) = s.told u (g u) := by
        unfold SqS.hear
        rw [if_neg (by
          rintro (q | q)
          · exact q he.symm
          · rw [h0] at q; exact nomatch q)]
        dsimp only
        rw [if_pos h0]
      rw [e]
      refine told_lead (many := many) ?_ ?_ nd.2 (fun n q => ?_) ?_
      · unfold SqS.told; dsimp only; split <;> exact he
      · unfold SqS.told; dsimp only; split <;> exact hm
      · have : (s.told u (g u)).rows = putR u (g u) s.rows := by unfold SqS.told; dsimp only; split <;> rfl
        rw [this, hk]
        intro z
        rcases List.mem_append.mp z with z | z
        · exact hn n (.tail _ q) z
        · rw [List.mem_singleton.mp z] at q; exact nd.1 q
      · by_cases c : most many ≤ s.rows.length + 1
        · refine .inl ?_
          unfold SqS.told; dsimp only
          rw [hl, hm, if_pos c]
        · refine .inr ?_
          have e2 : s.told u (g u) = { s with rows := putR u (g u) s.rows } := by
            unfold SqS.told; dsimp only
            rw [hl, hm, if_neg c]
          rw [e2]
          rw [List.length_cons] at h1
          exact ⟨h0, by show _ ≤ (putR u (g u) s.rows).length + _; rw [hl]; omega, by show (putR u (g u) s.rows).length < _; rw [hl]; omega⟩
theorem SI.led {many : Nat} {w : Cw} {s : SqS} (h : SI many w s) (hl : s.st = .leading) : Led many s.ep s.row s := ⟨rfl, rfl, by rw [hl]; exact nofun, (h.lead hl).1, (h.lead hl).2⟩
theorem num_ask {e : Int} {ns : List Nat} : (ns.map (Ltr.ask e)).map (·.num) = ns := by rw [List.map_map]; exact List.map_id' ns
theorem told_tk {E : Int} {g : Nat → Row} : ∀ {us : List Nat} {s : SqS}, ((us.map fun n => Ltr.told E n (g n)).foldl SqS.hear s).tk = s.tk
  | [], _ => rfl
  | u :: us, s => by
    show ((us.map fun n => Ltr.told E n (g n)).foldl SqS.hear (s.hear (.told E u (g u)))).tk = _
    rw [told_tk]
    unfold SqS.hear
    split
    · rfl
    · dsimp only
      split
      · unfold SqS.told; dsimp only; split <;> rfl
      · rfl
theorem sent_eq {w : Cw} {i : Nat} {s : SqS} {up : List Nat} (h : w.ss[i]? = some s) : w.sent i up = w.brings (s.toSend.filter fun l => decide (l.num ∈ up)) := by unfold Cw.sent; rw [h]; rfl
/-- one exchange, as a whole -/
theorem exch_whole {many i : Nat} {E : Int} {w : Cw} {ls : List Ltr} {up ns : List Nat} {s : SqS} {q : Nat → Ltr} {g : Nat → Ltr} (S : Sfe many w ls) (hs : w.ss[i]? = some s) (he : s.ep = E) (nd : up.Nodup)
    (hb : (s.toSend.filter fun l => decide (l.num ∈ up)) = ns.map q) (nn : ns.Nodup) (hq : ∀ n, (q n).num = n) (mem : ∀ n, n ∈ ns ↔ n ∈ up)
    (hk : ∀ n ∈ up, ∃ k, w.ks[n]? = some k ∧ k.kn.ansOf k.n (q n) = some (g n) ∧ ∀ l ∈ k.wa, l.ep ≠ E) :
    (w.exchange i up).ss[i]? = some ((up.map g).foldl SqS.hear s) ∧ ∀ n ∈ up, (w.exchange i up).ks[n]? = w.ks[n]?.map fun k => (k.handle (q n)).flush := by
  have bm : ∀ l ∈ s.toSend.filter fun l => decide (l.num ∈ up), l ∈ ls ++ s.toSend := fun l hl => List.mem_append.mpr (.inr (List.mem_filter.mp hl).1)
  have S2 := ((S.send hs).brings bm).1
  have se := sent_eq (up := up) hs
  obtain ⟨r1, r2, r3⟩ := brings_req (bs := s.toSend.filter fun l => decide (l.num ∈ up)) (w := w) (fun l hl => (S.sends hs l (List.mem_filter.mp hl).1).2) (by
    rw [hb, List.map_map]
    have : (Ltr.num ∘ q) = id := funext hq
    rw [this, List.map_id]; exact nn)
  have r4 : ∀ n ∈ up, (w.sent i up).ks[n]? = w.ks[n]?.map (·.handle (q n)) := fun n hn => by
    have := r3 (q n) (by rw [hb]; exact List.mem_map.mpr ⟨n, (mem n).mpr hn, rfl⟩)
    rw [hq] at this
    rw [se]; exact this
  obtain ⟨f1, _, f3⟩ := fold_flush (up := up) (w := w.sent i up) nd fun n k hk l hl => by
    rw [se] at hk
    exact (S2.ki n k hk).ans l hl
  refine ⟨?_, fun n hn => ?_⟩
  · unfold Cw.exchange
    rw [f1, List.getElem?_map]
    have e1 : (w.sent i up).ss = w.ss := by rw [se]; exact r1
    rw [e1, hs]
    show some ((up.flatMap (waOf (w.sent i up))).foldl SqS.hear s) = _
    rw [hears_flat (g := g) he fun n hn => ?_]
    obtain ⟨k, hk1, hk2, hk3⟩ := hk n hn
    refine ⟨k.wa, ?_, hk3⟩
    unfold waOf
    rw [r4 n hn, hk1]
    show k.wa ++ oList (k.kn.ansOf k.n (q n)) = _
    rw [hk2]; rfl
  · unfold Cw.exchange
    rw [f3 n hn, r4 n hn]
    cases w.ks[n]? <;> rfl
theorem flush_ep {k : KeS} {l : Ltr} : (k.handle l).flush.kn.ep = (k.kn.all (oList (k.kn.recOf l))).ep := by
  rw [KeS.kn_all, recs_flush, recs_handle, Kn.all_app]; rfl
theorem first_exch {many i : Nat} {E : Int} {w : Cw} {ls : List Ltr} {up : List Nat} (S : Sfe many w ls) (Bd : EpB E w ls) (E0 : 0 ≤ E) (hi : i = w.ss.length) (nd : up.Nodup) (lt : ∀ n ∈ up, n < many) (mj : most many ≤ up.length) :
    ∃ s, ((⟨w.ks, w.ss ++ [SqS.new E many]⟩ : Cw).exchange i up).ss[i]? = some s ∧ s.ep = E ∧ s.st = .leading ∧ s.tk = List.replicate many 0 ∧ ∀ n ∈ up, KUp E ((⟨w.ks, w.ss ++ [SqS.new E many]⟩ : Cw).exchange i up) n := by
  have hE : E ∉ w.ss.map (·.ep) := fun z => by
    obtain ⟨s, hs, e⟩ := List.mem_map.mp z
    have := Bd.ss s hs
    have e : s.ep = E := e
    omega
  have S1 := (S.begin hE).1
  have hs : (⟨w.ks, w.ss ++ [SqS.new E many]⟩ : Cw).ss[i]? = some (SqS.new E many) := by
    show (w.ss ++ _)[i]? = _
    rw [hi, List.getElem?_append_right (Nat.le_refl _), Nat.sub_self]; rfl
  have kep : ∀ (n : Nat) (k : KeS), w.ks[n]? = some k → k.kn.ep < E := fun n k hk => all_lt (show (-1 : Int) < E by omega) (Bd.ks n k hk).1
  have get : ∀ n ∈ up, ∃ k, w.ks[n]? = some k := fun n hn => ⟨_, List.getElem?_eq_getElem (by rw [S.len]; exact lt n hn)⟩
  have hb : ((SqS.new E many).toSend.filter fun l => decide (l.num ∈ up)) = ((List.range many).filter fun n => decide (n ∈ up)).map (Ltr.ask E) := by
    have e1 : (SqS.new E many).toSend = (List.range many).map (Ltr.ask E) := by
      show ((List.range many).filter fun n => !decide (n ∈ ([] : List (Nat × Row)).map (·.1))).map (Ltr.ask E) = _
      congr 1
      exact List.filter_eq_self.mpr fun n _ => by simp
    rw [e1, List.filter_map]; rfl
  have hk : ∀ n ∈ up, ∃ k, w.ks[n]? = some k ∧ k.kn.ansOf k.n (.ask E n) = some (.told E n ((w.ks[n]?.map (·.kn.row)).getD [])) ∧ ∀ l ∈ k.wa, l.ep ≠ E := fun n hn => by
    obtain ⟨k, hk⟩ := get n hn
    refine ⟨k, hk, ?_, fun l hl e => ?_⟩
    · show (if E < k.kn.ep then some (Ltr.refused E k.n k.kn.ep) else some (.told E k.n k.kn.row)) = _
      have := kep n k hk
      rw [if_neg (by omega), (S.ki n k hk).num, hk]; rfl
    · have := (Bd.ks n k hk).2 l hl
      omega
  obtain ⟨x1, x2⟩ := exch_whole (g := fun n => .told E n ((w.ks[n]?.map (·.kn.row)).getD [])) S1 hs (show E = E from rfl) nd hb (List.nodup_range.sublist List.filter_sublist) (fun _ => rfl)
    (fun n => ⟨fun z => of_decide_eq_true (List.mem_filter.mp z).2, fun z => List.mem_filter.mpr ⟨List.mem_range.mpr (lt n z), decide_eq_true z⟩⟩) hk
  refine ⟨_, x1, hears_ep, ?_, told_tk, fun n hn => ?_⟩
  · exact told_lead (g := fun n => (w.ks[n]?.map (·.kn.row)).getD []) (s := SqS.new E many) rfl rfl nd (fun _ _ z => nomatch z) (.inr ⟨rfl, by show most many ≤ 0 + _; omega, most_pos many⟩)
  · obtain ⟨k, hk⟩ := get n hn
    refine ⟨_, (x2 n hn).trans (by rw [hk]; rfl), ?_, rfl⟩
    rw [flush_ep]
    have := kep n k hk
    have e : k.kn.recOf (.ask E n) = some (.prom E) := by
      show (if E < k.kn.ep then none else if E > k.kn.ep then some (Rec.prom E) else none) = _
      rw [if_neg (by omega), if_pos (by omega)]
    rw [e]
    show (if E > k.kn.ep then E else k.kn.ep) = E
    rw [if_pos (by omega)]
/-! each exchange more takes one entry -/
theorem taken_go {E : Int} {t : Nat} : ∀ {us : List Nat} {s : SqS}, s.ep = E → s.st = .leading → us.Nodup → (∀ n ∈ us, n < s.tk.length ∧ s.tk.getD n 0 = t) →
    ((us.map fun n => Ltr.taken E n t).foldl SqS.hear s).st = .leading ∧ ((us.map fun n => Ltr.taken E n t).foldl SqS.hear s).row = s.row ∧ (∀ n ∈ us, ((us.map fun n => Ltr.taken E n t).foldl SqS.hear s).tk.getD n 0 = t + 1) ∧ ∀ n, n ∉ us → ((us.map fun n => Ltr.taken E n t).foldl SqS.hear s).tk.getD n 0 = s.tk.getD n 0
  | [], s, _, hl, _, _ => ⟨hl, rfl, fun _ h => (nomatch h), fun _ _ => rfl⟩
  | u :: us, s, he, hl, nd, h => by
    have nd := List.nodup_cons.mp nd
    obtain ⟨hu, ht⟩ := h u (.head _)
    have e : s.hear (.taken E u t) = { s with tk := s.tk.set u (t + 1) } := by
      unfold SqS.hear
      rw [if_neg (by
        rintro (q | q)
        · exact q he.symm
        · rw [hl] at q; exact nomatch q)]
      dsimp only
      rw [if_pos ⟨hl, ht.symm⟩, ht]
    have get : ∀ n, (s.tk.set u (t + 1)).getD n 0 = if u = n then t + 1 else s.tk.getD n 0 := fun n => by
      rw [List.getD_eq_getElem?_getD, List.getElem?_set]
      by_cases c : u = n
      · subst c; rw [if_pos rfl, if_pos rfl, if_pos hu]; rfl
      · rw [if_neg c, if_neg c, List.getD_eq_getElem?_getD]
    obtain ⟨h1, h2, h3, h4⟩ := taken_go (t := t) (us := us) (s := { s with tk := s.tk.set u (t + 1) }) he hl nd.2 fun n hn => ⟨by show n < (s.tk.set u _).length; rw [List.length_set]; exact (h n (.tail _ hn)).1, by
      show (s.tk.set u (t + 1)).getD n 0 = t
      rw [get, if_neg (fun q => nd.1 (by rw [q]; exact hn))]
      exact (h n (.tail _ hn)).2⟩
    have ee : ((u :: us).map fun n => Ltr.taken E n t).foldl SqS.hear s = (us.map fun n => Ltr.taken E n t).foldl SqS.hear { s with tk := s.tk.set u (t + 1) } := by
      show (us.map fun n => Ltr.taken E n t).foldl SqS.hear (s.hear (.taken E u t)) = _
      rw [e]
    rw [ee]
    refine ⟨h1, h2, fun n hn => ?_, fun n hn => ?_⟩
    · rcases List.mem_cons.mp hn with rfl | hn
      · rw [h4 _ nd.1]
        show (s.tk.set _ _).getD _ 0 = _
        rw [get, if_pos rfl]
      · exact h3 n hn
    · rw [h4 n fun q => hn (.tail _ q)]
      show (s.tk.set _ _).getD _ 0 = _
      rw [get, if_neg (fun q => hn (by rw [q]; exact .head _))]
/-- the leader's exchanges: so many entries lie with those that are up -/
structure LvA (many : Nat) (E : Int) (L : List En) (up : List Nat) (t : Nat) (w : Cw) (i : Nat) : Prop where
  sq : ∃ s, w.ss[i]? = some s ∧ Led many E L s ∧ s.st = .leading ∧ ∀ n ∈ up, s.tk.getD n 0 = t
  ku : ∀ n ∈ up, KUp E w n
  nd : up.Nodup
  lt : ∀ n ∈ up, n < many
  mj : most many ≤ up.length
theorem LvA.ld {many i t : Nat} {E : Int} {L : List En} {up : List Nat} {w : Cw} (h : LvA many E L up t w i) : LdA many E L w i := by
  obtain ⟨s, hs, hl, _⟩ := h.sq
  exact ⟨s, hs, hl⟩
theorem LvA.add {many i t : Nat} {E : Int} {L : List En} {up : List Nat} {w : Cw} {s : SqS} {x : En} (h : LvA many E L up t w i) (hs : w.ss[i]? = some s) : LvA many E (L ++ [x]) up t ⟨w.ks, w.ss.set i (s.add x)⟩ i := by
  obtain ⟨s', hs', hl, ld, tk⟩ := h.sq
  rw [hs] at hs'
  obtain rfl := Option.some.inj hs'
  refine ⟨⟨s.add x, ?_, ⟨hl.ep, by show s.row ++ [x] = _; rw [hl.row], hl.na, hl.rows, by rw [List.length_append]; exact Nat.le_trans hl.len (Nat.le_add_right _ _)⟩, ld, tk⟩, fun n hn => ⟨(h.ku n hn).ex⟩, h.nd, h.lt, h.mj⟩
  exact List.getElem?_set_self (List.getElem?_eq_some_iff.mp hs).1
theorem LvA.exch {many i t : Nat} {E : Int} {L : List En} {up : List Nat} {w : Cw} {ls : List Ltr} (S : Sfe many w ls) (h : LvA many E L up t w i) (lt : t < L.length) : LvA many E L up (t + 1) (w.exchange i up) i := by
  obtain ⟨s, hs, hl, ld, tk⟩ := h.sq
  have si := S.si s (List.mem_of_getElem? hs)
  have hb : (s.toSend.filter fun l => decide (l.num ∈ up)) = (((List.range s.many).filter fun n => decide (s.tk.getD n 0 < s.row.length)).filter fun n => decide (n ∈ up)).map s.writeTo := by
    have e1 : s.toSend = ((List.range s.many).filter fun n => decide (s.tk.getD n 0 < s.row.length)).map s.writeTo := by unfold SqS.toSend; rw [ld]
    rw [e1, List.filter_map]; rfl
  have hk : ∀ n ∈ up, ∃ k, w.ks[n]? = some k ∧ k.kn.ep = E ∧ k.kn.ansOf k.n (s.writeTo n) = some (.taken E n t) ∧ ∀ l ∈ k.wa, l.ep ≠ E := fun n hn => by
    obtain ⟨k, hk, ke, kw⟩ := (h.ku n hn).ex
    have ki := S.ki n k hk
    refine ⟨k, hk, ke, ?_, fun l hl => by rw [kw] at hl; exact nomatch hl⟩
    have e : s.writeTo n = .write E n t (s.row.getD t (.int 0)) := by unfold SqS.writeTo; rw [hl.ep, tk n hn]
    rw [e]
    have nb : k.kn.bars E t = false := by
      unfold Kn.bars
      cases t with
      | zero => simp
      | succ t =>
        obtain ⟨k2, x, hk2, hx⟩ := si.stk n (h.lt n hn) t (by rw [tk n hn]; omega)
        rw [hk] at hk2
        obtain rfl := Option.some.inj hk2
        rw [hl.ep] at hx
        obtain ⟨q, hq, le⟩ := row_late ki.wf ki.asc (List.mem_append.mpr (.inl hx))
        have hq : k.kn.row[t]? = some q := hq
        have ge : q.1 ≤ k.kn.ep := ep_all.2 _ (row_from ki.wf hq)
        have hlen := (List.getElem?_eq_some_iff.mp hq).1
        have qe : q.1 = E := by omega
        show (decide (k.kn.row.length < t + 1) || (decide (0 < t + 1) && !decide ((k.kn.row[t]?.map (·.1)) = some E))) = false
        rw [hq]
        simp [qe]; omega
    show (if E < k.kn.ep then some (Ltr.refused E k.n k.kn.ep) else if k.kn.bars E t then none else some (.taken E k.n t)) = _
    rw [if_neg (by omega), nb, ki.num]; rfl
  obtain ⟨x1, x2⟩ := exch_whole (q := s.writeTo) (g := fun n => .taken E n t) S hs hl.ep h.nd hb ((List.nodup_range.sublist List.filter_sublist).sublist List.filter_sublist) (fun _ => rfl)
    (fun n => ⟨fun z => of_decide_eq_true (List.mem_filter.mp z).2, fun z => List.mem_filter.mpr ⟨List.mem_filter.mpr ⟨List.mem_range.mpr (by rw [si.mny]; exact h.lt n z), decide_eq_true (by rw [tk n z, hl.row]; exact lt)⟩, decide_eq_true z⟩⟩)
    fun n hn => by obtain ⟨k, a, _, b, c⟩ := hk n hn; exact ⟨k, a, b, c⟩
  obtain ⟨g1, g2, g3, _⟩ := taken_go (E := E) (t := t) (us := up) (s := s) hl.ep ld h.nd fun n hn => ⟨by rw [si.tkl]; exact h.lt n hn, tk n hn⟩
  obtain ⟨s', hs', hl'⟩ := h.ld.exchange (j := i) (up := up)
  rw [x1] at hs'
  refine ⟨⟨s', hs' ▸ x1, hl', ?_, ?_⟩, fun n hn => ?_, h.nd, h.lt, h.mj⟩
  · rw [← Option.some.inj hs']; exact g1
  · rw [← Option.some.inj hs']; exact g3
  · obtain ⟨k, hk1, hk2, _⟩ := hk n hn
    refine ⟨_, (x2 n hn).trans (by rw [hk1]; rfl), ?_, rfl⟩
    rw [flush_ep]
    have e : s.writeTo n = .write E n t (s.row.getD t (.int 0)) := by unfold SqS.writeTo; rw [hl.ep, tk n hn]
    rw [e]
    have hr : ∀ r ∈ oList (k.kn.recOf (.write E n t (s.row.getD t (.int 0)))), r.ep = E := recOf_ep
    generalize oList (k.kn.recOf (.write E n t (s.row.getD t (.int 0)))) = rs at hr
    have h1 := (ep_all (rs := rs) (k := k.kn)).1
    have h2 := all_lt (E := E + 1) (rs := rs) (k := k.kn) (by omega) fun r q => by rw [hr r q]; omega
    omega
theorem desc_ge {xs : List Nat} {j T : Nat} (hj : j < xs.length) (hp : j + 1 ≤ (xs.filter fun c => decide (T ≤ c)).length) : T ≤ (desc xs).getD j 0 := by
  have pm : (xs.mergeSort fun a b => decide (b ≤ a)).Perm xs := List.mergeSort_perm _ _
  have st : (xs.mergeSort fun a b => decide (b ≤ a)).Pairwise (· ≥ ·) := (List.pairwise_mergeSort (le := fun a b => decide (b ≤ a)) (fun a b c h1 h2 => by simp at *; omega) (fun a b => by simp; omega) xs).imp fun h => by simpa using h
  unfold desc
  generalize (xs.mergeSort fun a b => decide (b ≤ a)) = ys at pm st
  rw [← (pm.filter _).length_eq] at hp
  have hj : j < ys.length := by rw [pm.length_eq]; exact hj
  rw [List.getD_eq_getElem?_getD, List.getElem?_eq_getElem hj]
  show T ≤ ys[j]
  apply Decidable.byContradiction
  intro c
  have e : ys = ys.take j ++ ys.drop j := (List.take_append_drop j ys).symm
  have z : (ys.drop j).filter (fun c => decide (T ≤ c)) = [] := List.filter_eq_nil_iff.mpr fun y hy => by
    obtain ⟨i, hi⟩ := List.mem_iff_getElem?.mp hy
    rw [List.getElem?_drop] at hi
    obtain ⟨li, ei⟩ := List.getElem?_eq_some_iff.mp hi
    have : y ≤ ys[j] := by
      rw [← ei]
      rcases Nat.eq_zero_or_pos i with q | q
      · subst q; exact Nat.le_refl _
      · exact List.pairwise_iff_getElem.mp st j (j + i) hj li (by omega)
    simp; omega
  rw [e, List.filter_append, z, List.append_nil] at hp
  have := List.length_filter_le (fun c => decide (T ≤ c)) (ys.take j)
  rw [List.length_take] at this
  omega
theorem LvA.settled {many i t : Nat} {E : Int} {L : List En} {up : List Nat} {w : Cw} {ls : List Ltr} {s : SqS} (S : Sfe many w ls) (h : LvA many E L up t w i) (le : L.length ≤ t) (hs : w.ss[i]? = some s) (pos : 0 < many) : s.settled = L := by
  obtain ⟨s', hs', hl, ld, tk⟩ := h.sq
  rw [hs] at hs'
  obtain rfl := Option.some.inj hs'
  have si := S.si s (List.mem_of_getElem? hs)
  have hm : most many - 1 < s.tk.length := by rw [si.tkl]; unfold most; omega
  have e : s.tk = (List.range many).map fun n => s.tk.getD n 0 := by
    refine List.ext_getElem? fun j => ?_
    rw [List.getElem?_map]
    by_cases c : j < many
    · rw [List.getElem?_range c, List.getElem?_eq_getElem (by rw [si.tkl]; exact c)]
      show _ = some (s.tk.getD j 0)
      rw [List.getD_eq_getElem?_getD, List.getElem?_eq_getElem (by rw [si.tkl]; exact c)]; rfl
    · rw [List.getElem?_eq_none (by rw [si.tkl]; omega), List.getElem?_eq_none (by rw [List.length_range]; omega)]; rfl
  have cnt : most many ≤ (s.tk.filter fun c => decide (L.length ≤ c)).length := by
    have e2 : (s.tk.filter fun c => decide (L.length ≤ c)).length = ((List.range many).filter fun n => decide (L.length ≤ s.tk.getD n 0)).length := by
      conv => lhs; rw [e]
      rw [List.filter_map, List.length_map]; rfl
    rw [e2]
    exact Nat.le_trans h.mj (h.nd.length_le_of_subset fun n hn => List.mem_filter.mpr ⟨List.mem_range.mpr (h.lt n hn), decide_eq_true (by rw [tk n hn]; exact le)⟩)
  have := desc_ge (T := L.length) hm (by have := most_pos many; omega)
  unfold SqS.settled SqS.cnt
  rw [si.mny, hl.row, List.take_of_length_le this]
/-! how long rows can be -/
def RL (r : Nat) (w : Cw) : Prop := ∀ s ∈ w.ss, s.row.length ≤ r
section
variable {many r : Nat} {w : Cw} {ls : List Ltr}
theorem RL.mono {r' : Nat} (h : RL r w) (le : r ≤ r') : RL r' w := fun s hs => Nat.le_trans (h s hs) le
theorem RL.told (h : RL r w) {e : Int} {n : Nat} {row : Row} (t : TellD w e n row) : row.length ≤ r := by
  obtain ⟨k, _, _, ht⟩ := t
  rcases Nat.eq_zero_or_pos row.length with z | z
  · omega
  · have hp : row.length - 1 < row.length := by omega
    obtain ⟨⟨s, hs, _, hx⟩, _⟩ := ht.2 _ _ (List.getElem?_eq_getElem hp)
    have := (List.getElem?_eq_some_iff.mp hx).1
    have := h s hs
    omega
theorem RL.hear {l : Ltr} (S : Sfe many w ls) (hl : LtF w l) (h : RL r w) : RL r ⟨w.ks, w.ss.map (·.hear l)⟩ := by
  intro s hs
  obtain ⟨s0, h0, rfl⟩ := List.mem_map.mp hs
  have hr := h s0 h0
  unfold SqS.hear
  split
  · exact hr
  · cases l with
    | told e n row =>
      dsimp only
      split
      · unfold SqS.told
        dsimp only
        split
        · show (newest _).length ≤ r
          rw [newest_len]
          refine maxLen_le fun x hx => ?_
          obtain ⟨q, hq, rfl⟩ := List.mem_map.mp hx
          rcases putR_mem hq with rfl | hq
          · exact h.told hl
          · exact h.told ((S.si s0 h0).rows q hq).2.1
        · exact hr
      · exact hr
    | taken e n p => dsimp only; split <;> exact hr
    | _ => exact hr
theorem RL.bring {l : Ltr} (S : Sfe many w ls) (hl : LtF w l) (h : RL r w) : RL r (w.bring l) := by
  unfold Cw.bring
  split
  · exact h.hear S hl
  · exact h
theorem RL.brings : ∀ {bs : List Ltr} {w : Cw}, Sfe many w ls → (∀ l ∈ bs, l ∈ ls) → RL r w → RL r (w.brings bs)
  | [], _, _, _, h => h
  | b :: bs, w, S, hb, h => RL.brings (bs := bs) (S.bring (S.lf b (hb b (.head _)))).1 (fun l hl => hb l (.tail _ hl)) (h.bring S (S.lf b (hb b (.head _))))
theorem RL.flushed {n : Nat} (S : Sfe many w ls) (h : RL r w) : RL r (w.flushed n) := by
  cases e : w.ks[n]? with
  | none =>
    have e2 : w.flushed n = w.onK n KeS.flush := by unfold Cw.flushed; rw [e]; rfl
    rw [e2]; exact h
  | some k =>
    have ee : w.flushed n = (w.onK n KeS.flush).brings k.wa := by unfold Cw.flushed; rw [e]; rfl
    rw [ee]
    exact RL.brings (S.flush e) (fun l hl => List.mem_append.mpr (.inr hl)) h
theorem RL.exchange {i : Nat} {up : List Nat} (S : Sfe many w ls) (h : RL r w) : RL r (w.exchange i up) := by
  have h1 : Sfe many (w.sent i up) ls ∧ RL r (w.sent i up) := by
    cases e : w.ss[i]? with
    | none =>
      have : w.sent i up = w := by unfold Cw.sent; rw [e]; rfl
      rw [this]
      exact ⟨S, h⟩
    | some s =>
      have bm : ∀ l ∈ s.toSend.filter fun l => decide (l.num ∈ up), l ∈ ls ++ s.toSend := fun l hl => List.mem_append.mpr (.inr (List.mem_filter.mp hl).1)
      rw [sent_eq e]
      exact ⟨((S.send e).brings bm).1.sub fun l hl => List.mem_append.mpr (.inl hl), RL.brings (S.send e) bm h⟩
  unfold Cw.exchange
  generalize w.sent i up = w1 at h1
  induction up generalizing w1 with
  | nil => exact h1.2
  | cons u up ih => exact ih (w1.flushed u) ⟨h1.1.flushed.sf, h1.2.flushed h1.1⟩
theorem RL.add {i : Nat} {s : SqS} {x : En} (h : RL r w) (hs : w.ss[i]? = some s) : RL (r + 1) ⟨w.ks, w.ss.set i (s.add x)⟩ := by
  intro t ht
  rcases mem_set ht with rfl | ht
  · have := h s (List.mem_of_getElem? hs)
    show (s.row ++ [x]).length ≤ _
    rw [List.length_append, List.length_singleton]; omega
  · have := h t ht; omega
theorem RL.begin {e : Int} (h : RL r w) : RL r ⟨w.ks, w.ss ++ [SqS.new e many]⟩ := by
  intro t ht
  rcases List.mem_append.mp ht with ht | ht
  · exact h t ht
  · rw [List.mem_singleton.mp ht]; exact Nat.zero_le _
end
end Mc.Cn
namespace Mc
open PySem L2 PySem.Spec PyProof.Rows
/-! a != b of two objects of a class with its own == and no own != -/
section
variable {M : Model} {prog : Program} {w : World} {A : Around} {E : Value → Shared → Prop} {s : Shared} {K : PySem.W.Frag} {x C f : Addr} {ox : Obj} {od : Option Obj} {b : Value}
theorem ifBound_objNe {args : List Value} {Q : Option Value → Shared → Prop} (X : K.In s.heap) (I : PySem.W.InstAt s.heap x ox C od) (hs : PySem.W.findIn K (.ref C) "__ne__" = some (some (.builtin "object.__ne__")))
    (h : wpAny M A (call (.builtin "object.__ne__") (.ref x :: args)) (fun v => Q (some v)) E s) : wpAny M A (callSpecialIfBound? (.ref x) "__ne__" args) Q E s := by
  simp only [callSpecialIfBound?, bindSpecialIfBound?]
  refine wpAny_holding (wpAny_bind (wpAny_bind (wpAny_bind (I.type.here ((PySem.W.looks_findIn X hs).here ?_)))))
  refine wpAny_bind (wpAny_askSetting (wpAny_ite ?_))
  have fin : wpAny M A (call (.builtin "object.__ne__") ([.ref x] ++ args) >>= fun v => pure (some v)) Q E s := wpAny_bind (wpAny_mono h (fun v s' h' => wpAny_pure h') fun _ _ h' => h')
  split
  · exact wpAny_bind (wpAny_of_eq (F.cmp_object.ne.bind _) (wpAny_pure (by exact fin)))
  · exact wpAny_tryCatch (wpAny_bind (wpAny_of_eq (F.cmp_object.ne.bind _) (wpAny_pure (by exact fin))))
theorem entry_ne {Q : Fin → Shared → Prop} (hu : A.units < cLine) (X : K.In s.heap) (I : PySem.W.InstAt s.heap x ox C od) (hs : PySem.W.findIn K (.ref C) "__eq__" = some (some (.ref f))) (hf : PySem.W.isFn K (.ref f) = true)
    (h : wpAny M A (call (.ref f) [.ref x, b]) (fun v s' => ∃ r : Bool, v = .bool r ∧ Q (.done (.ret (.bool (!r)))) s') E s) : wpAny M A (Builtin.«object.__ne__» ⟨[.ref x, b], []⟩) Q E s := by
  unfold Builtin.«object.__ne__»
  refine wpAny_bind (m := slotArgs "__ne__" 1 _) (wpAny_pure ?_)
  refine wpAny_bind (wpAny_cRoomFor hu ?_)
  refine wpAny_bind (PySem.W.ifBound_K X I hs hf (wpAny_mono h (fun v s' hv => ?_) fun _ _ e => e))
  obtain ⟨r, rfl, hq⟩ := hv
  exact wpAny_bind (wpAny_truthy_bool (wpAny_pure hq))
theorem call_objNe {Q : Value → Shared → Prop} (hu : A.in1.units < cLine) (X : K.In s.heap) (I : PySem.W.InstAt s.heap x ox C od) (hm : PySem.W.mroIn K C (.type "object") = some true) (hs : PySem.W.findIn K (.ref C) "__eq__" = some (some (.ref f))) (hf : PySem.W.isFn K (.ref f) = true)
    (h : wpAny (model prog w) A.in1 (call (.ref f) [.ref x, b]) (fun v s' => ∃ r : Bool, v = .bool r ∧ Q (.bool (!r)) s') E s) : wpAny (model prog w) A (call (.builtin "object.__ne__") [.ref x, b]) Q E s := by
  refine wpAny_call (codeAny_call_builtin F.cmp_object.ne.plain F.cmpEntry_ne (PySem.W.check_slot F.cmpKind_ne F.cmpSplit_ne (I.type.andThen (PySem.W.looks_mroIn X hm)) (F.cmpArgs_ne _ _) (entry_ne hu X I hs hf ?_)))
  exact h
theorem rc_ne {Q : Value → Shared → Prop} {tb : Value} (hu : A.units + 1 < cLine) (X : K.In s.heap) (I : PySem.W.InstAt s.heap x ox C od) (hb : PySem.W.Looks (model prog w) s.heap (typeOf b) tb) (hn : PySem.W.notFirst K C tb = true) (hm : PySem.W.mroIn K C (.type "object") = some true)
    (hs : PySem.W.findIn K (.ref C) "__eq__" = some (some (.ref f))) (hsn : PySem.W.findIn K (.ref C) "__ne__" = some (some (.builtin "object.__ne__"))) (hf : PySem.W.isFn K (.ref f) = true)
    (h : wpAny (model prog w) A.in1 (call (.ref f) [.ref x, b]) (fun v s' => ∃ r : Bool, v = .bool r ∧ Q (.bool (!r)) s') E s) : wpAny (model prog w) A (richCompare .NotEq (.ref x) b) Q E s := by
  have one : wpAny (model prog w) A (tryCompare (.ref x) "__ne__" b) (fun r s' => ∃ v, r = some v ∧ Q v s') E s := by
    unfold tryCompare
    refine wpAny_bind (ifBound_objNe X I hsn (call_objNe (by show A.units + 1 < cLine; exact hu) X I hm hs hf (wpAny_mono h (fun v s' hv => ?_) fun _ _ e => e)))
    obtain ⟨r, e, hq⟩ := hv
    exact ⟨r, e, wpAny_pure ⟨_, rfl, hq⟩⟩
  unfold richCompare
  simp only [oneThing_ref]
  refine wpAny_holding (wpAny_bind (wpAny_cRoomFor (by omega) ?_))
  refine wpAny_bind (I.type.here (wpAny_bind (hb.here ?_)))
  split
  · rename_i q
    have e : PySem.W.subIn K tb (.ref C) = some false := by
      rcases Bool.or_eq_true_iff.mp hn with e | e
      · rw [beq_iff_eq.mp e] at q; simp at q
      · exact beq_iff_eq.mp e
    refine wpAny_bind ((PySem.W.looks_subIn X e).here ?_)
    simp only [Bool.false_eq_true, if_false]
    refine wpAny_bind (wpAny_mono one (fun r s' z => ?_) fun _ _ e => e)
    obtain ⟨v, rfl, hq⟩ := z
    exact wpAny_pure hq
  · refine wpAny_bind (wpAny_pure ?_)
    simp only [Bool.false_eq_true, if_false]
    refine wpAny_bind (wpAny_mono one (fun r s' z => ?_) fun _ _ e => e)
    obtain ⟨v, rfl, hq⟩ := z
    exact wpAny_pure hq
end
/-- == and != of two objects of the class C by its own == -/
def rNeI (C : Addr) (sp : Sp) (E : XK) : R2 := fun x y H Q => ∃ (a b dx dy : Addr) (fs gs : List (PySem.Str × V)), x = .ref a ∧ y = .ref b ∧ H a = some (.ins C dx fs) ∧ H b = some (.ins C dy gs) ∧ sp [.ref a, .ref b] H (fun v H' => ∃ r : Bool, v = .bl r ∧ Q (.bl (!r)) H') E
def rEqI (C : Addr) (sp : Sp) (E : XK) : R2 := fun x y H Q => ∃ (a b dx dy : Addr) (fs gs : List (PySem.Str × V)), x = .ref a ∧ y = .ref b ∧ H a = some (.ins C dx fs) ∧ H b = some (.ins C dy gs) ∧ sp [.ref a, .ref b] H (fun v H' => ∃ r : Bool, v = .bl r ∧ Q (.bl r) H') E
section
variable {X : Cx} {CX : CXT} {n : Nat} {C f : Addr} {fd : FuncData} {ps : List PySem.Str} {sp : Sp} {E : XK}
theorem op_neI (F : FnOk X.prog X.w X.K X.mg X.base CX n f fd ps sp) (hs : PySem.W.findIn X.K (.ref C) "__eq__" = some (some (.ref f))) (hsn : PySem.W.findIn X.K (.ref C) "__ne__" = some (some (.builtin "object.__ne__"))) (hm : PySem.W.mroIn X.K C (.type "object") = some true)
    (hf : PySem.W.isFn X.K (.ref f) = true) (hb : Binds X.K fd ps []) (hx : Passes CX X E) (hr : Room (n + 1) X.A) : OpR X (compareOp .NotEq) (rNeI C sp E) := by
  intro pins s σ H x y v u Q I rx ry h
  obtain ⟨a, b, dx, dy, fs, gs, rfl, rfl, ha, hb', hsp⟩ := h
  cases rx
  cases ry
  obtain ⟨mA, J, _⟩ := ins_get I.hok ha
  obtain ⟨mB, J', _⟩ := ins_get I.hok hb'
  obtain ⟨od, J, _⟩ := J.look
  obtain ⟨od', J', _⟩ := J'.look
  have hu := hr.units
  show wpAny (model X.prog X.w) X.A (richCompare .NotEq (.ref a) (.ref b)) (EP X pins σ Q) X.xe s
  refine rc_ne (tb := .ref C) (by omega) I.kIn J J'.type (by simp [PySem.W.notFirst]) hm hs hsn hf ?_
  have e0 : Env0 X.prog X.w X.K X.mg X.base X.A.in1 X.stack s H := by
    have e := I.env0
    exact ⟨e.frames, e.mod, e.bs, e.bsz, e.funs, e.frf, e.hok, e.bare⟩
  have hl := F.len _ _ _ _ hsp
  have r2 : Vals [V.ref a, V.ref b] [Value.ref a, Value.ref b] := .cons rfl (.cons rfl .nil)
  refine wpAny_call (codeAny_mono (F.run X.A.in1 X.stack s H ⟨[.ref a, .ref b], []⟩ [.ref a, .ref b] [.ref a, .ref b] _ E hr.in1 e0 (by
    have := hb s [.ref a, .ref b] I.kIn (by simpa using hl)
    simpa using this) r2 hsp) fun r s' hq => ?_)
  cases r with
  | error e => exact hx pins σ H s e s' I hq
  | ok fl =>
    cases fl with
    | ret w' =>
      obtain ⟨z, H', I', rz, r, ez, q⟩ := I.after hq
      subst ez
      cases rz
      exact ⟨r, rfl, .bl (!r), H', I', rfl, q⟩
    | next => exact False.elim hq
    | brk => exact False.elim hq
    | cont => exact False.elim hq
theorem op_eqI (F : FnOk X.prog X.w X.K X.mg X.base CX n f fd ps sp) (hs : PySem.W.findIn X.K (.ref C) "__eq__" = some (some (.ref f)))
    (hf : PySem.W.isFn X.K (.ref f) = true) (hb : Binds X.K fd ps []) (hx : Passes CX X E) (hr : Room n X.A) : OpR X (compareOp .Eq) (rEqI C sp E) := by
  intro pins s σ H x y v u Q I rx ry h
  obtain ⟨a, b, dx, dy, fs, gs, rfl, rfl, ha, hb', hsp⟩ := h
  cases rx
  cases ry
  obtain ⟨mA, J, _⟩ := ins_get I.hok ha
  obtain ⟨mB, J', _⟩ := ins_get I.hok hb'
  obtain ⟨od, J, _⟩ := J.look
  obtain ⟨od', J', _⟩ := J'.look
  obtain ⟨m, hF⟩ := I.fr
  show wpAny (model X.prog X.w) X.A (richCompare .Eq (.ref a) (.ref b)) (EP X pins σ Q) X.xe s
  refine PySem.W.cmp_K (op := .Eq) (tb := .ref C) hr.units0 hF I.ok.mod.kin J J'.type (by simp [PySem.W.notFirst]) hs hf ?_
  have e0 : Env0 X.prog X.w X.K X.mg X.base X.A X.stack s H := I.env0
  have hl := F.len _ _ _ _ hsp
  have r2 : Vals [V.ref a, V.ref b] [Value.ref a, Value.ref b] := .cons rfl (.cons rfl .nil)
  refine wpAny_call (codeAny_mono (F.run X.A X.stack s H ⟨[.ref a, .ref b], []⟩ [.ref a, .ref b] [.ref a, .ref b] _ E hr e0 (by
    have := hb s [.ref a, .ref b] I.kIn (by simpa using hl)
    simpa using this) r2 hsp) fun r s' hq => ?_)
  cases r with
  | error e => exact hx pins σ H s e s' I hq
  | ok fl =>
    cases fl with
    | ret w' =>
      obtain ⟨z, H', I', rz, r, ez, q⟩ := I.after hq
      subst ez
      cases rz
      exact ⟨.bl r, H', I', rfl, q⟩
    | next => exact False.elim hq
    | brk => exact False.elim hq
    | cont => exact False.elim hq
end
end Mc
namespace Mc
open PySem L2 PySem.Spec PyProof.Rows
/-! xs.index(x) for objects of a class without its own ==: by identity -/
section
variable {M : Model} {prog : Program} {w : World} {A : Around} {E : Value → Shared → Prop} {s : Shared} {K : PySem.W.Frag} {x y C : Addr} {ox oy : Obj} {od od' : Option Obj}
theorem ifBound_objEq {args : List Value} {Q : Option Value → Shared → Prop} (X : K.In s.heap) (I : PySem.W.InstAt s.heap x ox C od) (hs : PySem.W.findIn K (.ref C) "__eq__" = some (some (.builtin "object.__eq__")))
    (h : wpAny M A (call (.builtin "object.__eq__") (.ref x :: args)) (fun v => Q (some v)) E s) : wpAny M A (callSpecialIfBound? (.ref x) "__eq__" args) Q E s := by
  simp only [callSpecialIfBound?, bindSpecialIfBound?]
  refine wpAny_holding (wpAny_bind (wpAny_bind (wpAny_bind (I.type.here ((PySem.W.looks_findIn X hs).here ?_)))))
  refine wpAny_bind (wpAny_askSetting (wpAny_ite ?_))
  have fin : wpAny M A (call (.builtin "object.__eq__") ([.ref x] ++ args) >>= fun v => pure (some v)) Q E s := wpAny_bind (wpAny_mono h (fun v s' h' => wpAny_pure h') fun _ _ h' => h')
  split
  · exact wpAny_bind (wpAny_of_eq (F.cmp_object.eq.bind _) (wpAny_pure (by exact fin)))
  · exact wpAny_tryCatch (wpAny_bind (wpAny_of_eq (F.cmp_object.eq.bind _) (wpAny_pure (by exact fin))))
theorem call_objEq0 {Q : Value → Shared → Prop} (X : K.In s.heap) (I : PySem.W.InstAt s.heap x ox C od) (J : PySem.W.InstAt s.heap y oy C od') (hxy : x ≠ y) (hm : PySem.W.mroIn K C (.type "object") = some true)
    (h : Q .notImplemented s) : wpAny (model prog w) A (call (.builtin "object.__eq__") [.ref x, .ref y]) Q E s := by
  refine wpAny_call (codeAny_call_builtin F.cmp_object.eq.plain F.cmpEntry_eq (PySem.W.check_slot F.cmpKind_eq F.cmpSplit_eq (I.type.andThen (PySem.W.looks_mroIn X hm)) (F.cmpArgs_eq _ _) (objEq_entry_other hxy I.at_ J.at_ (by rw [I.cls]; intro e; cases e) ?_)))
  exact h
theorem try_eq0 {Q : Option Value → Shared → Prop} (X : K.In s.heap) (I : PySem.W.InstAt s.heap x ox C od) (J : PySem.W.InstAt s.heap y oy C od') (hxy : x ≠ y) (hm : PySem.W.mroIn K C (.type "object") = some true) (hs : PySem.W.findIn K (.ref C) "__eq__" = some (some (.builtin "object.__eq__")))
    (h : Q none s) : wpAny (model prog w) A (tryCompare (.ref x) "__eq__" (.ref y)) Q E s := by
  unfold tryCompare
  exact wpAny_bind (ifBound_objEq X I hs (call_objEq0 X I J hxy hm (wpAny_pure h)))
theorem rc_eq0 (hu : A.units < cLine) (X : K.In s.heap) (I : PySem.W.InstAt s.heap x ox C od) (J : PySem.W.InstAt s.heap y oy C od') (hxy : x ≠ y) (hm : PySem.W.mroIn K C (.type "object") = some true) (hs : PySem.W.findIn K (.ref C) "__eq__" = some (some (.builtin "object.__eq__"))) : SeqAt.RcAt A s (.ref x) (.ref y) false := fun prog w E Q hq => by
  unfold richCompare
  simp only [oneThing_ref]
  refine wpAny_holding (wpAny_bind (wpAny_cRoomFor hu ?_))
  refine wpAny_bind (I.type.here (wpAny_bind (J.type.here ?_)))
  rw [if_neg (by simp)]
  refine wpAny_bind (wpAny_pure ?_)
  simp only [Bool.false_eq_true, if_false]
  refine wpAny_bind (try_eq0 X I J hxy hm hs ?_)
  simp only [Bool.not_false, if_true]
  refine wpAny_bind (try_eq0 X J I hxy.symm hm hs ?_)
  have nt : ox.cls ≠ .type "tuple" := by rw [I.cls]; intro e; cases e
  refine wpAny_bind (wpAny_rule ?_)
  refine wpAny_bind (wpAny_isSame_ref_other hxy I.at_ J.at_ nt ?_)
  exact wpAny_pure hq
end
def rIndexO (K : PySem.W.Frag) (C : Addr) : V → List V → Hp → VK → Prop := fun x xs H Q => ∃ (a : Addr) (bs : List Addr) (b : Addr) (j : Nat), x = V.ref a ∧ xs = [.ref b] ∧ SqL K H a (bs.map V.ref) ∧ (∀ u ∈ bs, ∃ dx fs, H u = some (.ins C dx fs)) ∧ bs.Nodup ∧ bs[j]? = some b ∧ Q (.int (j : Nat)) H
section
variable {X : Cx} {C : Addr}
theorem mt_indexO (hs : PySem.W.findIn X.K (.ref C) "__eq__" = some (some (.builtin "object.__eq__"))) (hm : PySem.W.mroIn X.K C (.type "object") = some true) (hu : X.A.units + 64 < cLine) : MtR X "list.index" (rIndexO X.K C) := by
  intro pins s σ H x xs v us Q I rx rxs h
  obtain ⟨a, bs, b, j, rfl, rfl, hq, hi, nd, hj, q⟩ := h
  cases rx
  cases rxs with
  | cons ry rt =>
    rename_i uy ut
    cases rt
    cases ry
    obtain ⟨its, rv, ⟨⟨cls, dd, data, sl⟩, n, ho, hc, hdn, hd⟩, hlen⟩ := I.list hq
    simp only at hc hd
    subst hc hd
    have hz : (bs.map V.ref)[j]? = some (.ref b) := by rw [List.getElem?_map, hj]; rfl
    obtain ⟨u, hu2, ru⟩ := rv.get hz
    cases ru
    obtain ⟨hjl, hje⟩ := List.getElem?_eq_some_iff.mp hu2
    have hvl := rv.length
    have hsl := sizeLine_eq
    have hjz : j < its.toArray.size := by simpa using hjl
    have look : ∀ u ∈ bs, ∃ ou od, PySem.W.InstAt s.heap u ou C od := fun u hm => by
      obtain ⟨dx, fs, hh⟩ := hi u hm
      obtain ⟨mA, J, _⟩ := ins_get I.hok hh
      obtain ⟨od, J, _⟩ := J.look
      exact ⟨_, _, J⟩
    obtain ⟨ob, odb, JB⟩ := look b (List.mem_of_getElem? hj)
    refine call_meets PySem.F.slot_list_index ⟨_, ho, rfl⟩ PySem.F.entry_list_index (PySem.F.args_list_index_2 _ _)
      (SeqAt.list_indexAt a its.toArray n dd sl (.ref b) (fun v => v == .ref b) j hjz (by omega) ?_ ?_) ⟨ho, fun u' hu' => ?_, ?_⟩
    · have e1 : its.toArray[j] = .ref b := by simpa using hje
      rw [e1]; exact beq_self_eq_true _
    · intro m hm2 hmj
      have hml : m < its.length := by simpa using hm2
      have hmy : m < bs.length := by rw [List.length_map] at hvl; omega
      have hy' : (bs.map V.ref)[m]? = some (.ref bs[m]) := by rw [List.getElem?_map, List.getElem?_eq_getElem hmy]; rfl
      obtain ⟨u2, hu3, ru2⟩ := rv.get hy'
      cases ru2
      obtain ⟨_, hme⟩ := List.getElem?_eq_some_iff.mp hu3
      have e1 : its.toArray[m] = .ref bs[m] := by simpa using hme
      rw [e1]
      have hjb : j < bs.length := by rw [List.length_map] at hvl; omega
      have ne : bs[m] ≠ b := fun e => by
        have e2 : bs[j] = b := by
          have := List.getElem?_eq_getElem hjb
          rw [hj] at this
          exact (Option.some.inj this).symm
        rw [← e2] at e
        exact List.pairwise_iff_getElem.mp nd m j hmy hjb hmj e
      simpa using ne
    · obtain ⟨m, hml, hme⟩ := List.getElem_of_mem (show u' ∈ its by simpa using hu')
      have hmy : m < bs.length := by rw [List.length_map] at hvl; omega
      have hy' : (bs.map V.ref)[m]? = some (.ref bs[m]) := by rw [List.getElem?_map, List.getElem?_eq_getElem hmy]; rfl
      obtain ⟨u2, hu3, ru2⟩ := rv.get hy'
      cases ru2
      obtain ⟨_, hme2⟩ := List.getElem?_eq_some_iff.mp hu3
      rw [hme2] at hme
      subst hme
      by_cases c : bs[m] = b
      · rw [c]
        have : ((Value.ref b == Value.ref b) : Bool) = true := beq_self_eq_true _
        rw [this]
        exact SeqAt.EqAt.same _
      · have e0 : ((Value.ref bs[m] == Value.ref b) : Bool) = false := by simpa using c
        rw [e0]
        obtain ⟨ou, odu, JU⟩ := look bs[m] (List.getElem_mem hmy)
        exact SeqAt.EqAt.of_refs c (rc_eq0 (by show X.A.units + 1 < cLine; omega) I.kIn JU JB c hm hs)
    · exact ⟨.int (j : Nat), H, I.tok _, ⟨_, rfl⟩, q⟩
end
end Mc
namespace Mc
open PySem L2 PySem.Spec PyProof.Rows
/-- try: .. except C as n: .., its reading by a name -/
def tTryAs (K : PySem.W.Frag) (c : Value) (i : Nat) (tb : WX → TS) (ts : Addr → Value → Option Addr → TS) (Wout : WX) : TS := fun D σ H => tb (wAs K c i ts Wout D) D σ H
theorem ps_tryAs {X : Cx} {x n : Str} {c : Value} {i : Nat} {body suite : List Stmt} {b₀ : Stmt} {np pos pos' : Pos} {tb : WX → TS} {ts : Addr → Value → Option Addr → TS} {Wout : WX} (hs : X.stack = X.env :: X.outer) (hf : X.env.frame = some X.env.locals) (hN : X.N.Nodup) (hi : X.N[i]? = some n) (hln : X.env.kindOf n = some .local) (hc : Names X x c) (tk : Takes X Wout)
    (hb : ∀ (W : WX) (pn : List (Addr × Obj)) (xe : Value → Shared → Prop), Takes (X.tr pn xe) W → PassesOwn (model X.prog X.w) X.A X.env xe → PSs (X.tr pn xe) body (tb W))
    (hsu : ∀ (a : Addr) (oe : Obj) (cls : Value) (d : Option Addr) (pn : List (Addr × Obj)), Zc cls d oe → (∃ vs, oe.data = .fields vs) → PSs (X.suite a ((a, oe) :: pn)) (b₀ :: suite) (ts a cls d)) :
    PS X (.Try body [.ExceptHandler (some (.Name x np)) (some n) (b₀ :: suite) pos'] [] [] pos) (tTryAs X.K c i tb ts Wout) := ps_try_as hs hf hN hi hln hc tk hb hsu
end Mc
namespace Mc
open PySem L2 PySem.Spec PyProof.Rows Evl
/-! over a dict's values; sorted(d), list(d), sorted(list) as new lists -/
theorem walk_vT {β : Type} {g : β → V} {l : List (PySem.Str × β)} {d : Addr} {o : Obj} : Walk (Itd d o (kvT g l)) l.length (fun H => H d = some (.frz o (.dK (kvT g l)))) (YAt (l.map fun x => g x.2)) := by
  have e : (kvT g l).length = l.length := by unfold kvT; rw [List.length_map]
  rw [← e]
  refine walk_values.mono (fun _ h => h) ?_
  rintro i H x H' hi _ ⟨rfl, k, hk⟩
  refine ⟨rfl, ?_⟩
  unfold kvT at hk
  rw [List.getElem?_map] at hk
  rw [List.getElem?_map]
  cases e2 : l[i]? with
  | none => rw [e2] at hk; cases hk
  | some z =>
    rw [e2] at hk
    cases Option.some.inj hk
    rfl
section
variable {β : Type} {g : β → V} {K : PySem.W.Frag} {H : Hp} {σ : L2.St} {te tl : TE} {a : Addr} {vs : List Nat} {j : Nat} {l : List (PySem.Str × β)} {o : Obj}
theorem el_mV (f : PySem.Str × β → V) (hl : Ev tl σ H (.ref a)) (h : H a = some (.frz o (.dK (kvT g l)))) (hz : l.length ≤ 100000) (turn : ∀ (i : Nat) y, l[i]? = some y → ∀ H', Ex H H' → Ev te ((wipe σ vs).set j (some (g y.2))) H' (f y)) (hw : ∀ v, wipe ((wipe σ vs).set j (some v)) vs = wipe σ vs := by intro _; rfl) :
    EvL (tLc (iVals tl) (gName j) tYes te vs) σ H (l.map f) := fun H1 e Q q => hl H1 e _ fun H2 e2 => ⟨a, o, _, rfl, e2 _ _ (e _ _ h), fun D hD =>
  lc_m (j := j) (c := fun x : PySem.Str × β => g x.2) (ys := l) walk_vT f rfl hD (fun H' s => s _ _ (e2 _ _ (e _ _ h))) (sz_of hz) (fun i y H' k hy s hk => turn i y hy H' ((e.trans e2).trans s) H' (Ex.refl _) k hk) (fun H' s hD' => q D H' (fresh_back e2 hD) (e2.trans s) hD') hw⟩
theorem EvL.go {xs : List V} {Q : VK} (h : EvL te σ H xs) (k : ∀ p H2, H p = none → Ex H H2 → H2 p = some (.lst xs) → Q (.ref p) H2) : te σ H Q := h H (Ex.refl H) Q k
theorem keys_kvT : (kvT g l).map (fun x => x.1) = (keysT l).map Sum.inr := by unfold kvT keysT; rw [List.map_map, List.map_map]; rfl
theorem kV_kvT : (kvT g l).map (fun kv => kV kv.1) = (keysT l).map V.str := by unfold kvT keysT; rw [List.map_map, List.map_map]; rfl
def rSrtD : List V → Hp → VK → Prop := fun xs H Q => ∃ (a : Addr) (kvs : List (L2.Key × V)) (ks : List PySem.Str), xs = [.ref a] ∧ Rd H a (.dK kvs) ∧ kvs.map (·.1) = ks.map Sum.inr ∧ ks.length < 64 ∧ ∀ ys p, ys.Perm ks → sortedS ys = true → H p = none → Q (.ref p) (upd H p (.lst (ys.map V.str)))
def rLstD : List V → Hp → VK → Prop := fun xs H Q => ∃ (a : Addr) (kvs : List (L2.Key × V)), xs = [.ref a] ∧ Rd H a (.dK kvs) ∧ ∀ p, H p = none → Q (.ref p) (upd H p (.lst (kvs.map fun kv => kV kv.1)))
def rLstS (K : PySem.W.Frag) : List V → Hp → VK → Prop := fun xs H Q => ∃ p ys, xs = [.ref p] ∧ (SqL K H p ys ∨ SqT K H p ys) ∧ ∀ l, H l = none → Q (.ref l) (upd H l (.lst ys))
theorem cr_srtD {X : Cx} (hc : X.calm = true) : CallR X (.builtin "sorted") rSrtD := call_sortedD hc
theorem cr_lstD {X : Cx} (hc : X.calm = true) : CallR X (.type "list") rLstD := call_listD hc
theorem cr_lstS {X : Cx} (h : X.K = K) : CallR X (.type "list") (rLstS K) := by subst h; exact call_list_of
theorem cr_srtSK {X : Cx} (h : X.K = K) : CallR X (.builtin "sorted") (rSortedS K) := by subst h; exact cr_sortedS
/-- sorted(d) of a dict whose keys stand sorted -/
theorem el_srtD (h : Ev te σ H (.ref a)) (hd : Rd H a (.dK (kvT g l))) (srt : sortedS (keysT l) = true) (hz : l.length < 64) : EvL (tCB rSrtD (tCons te tNil)) σ H ((keysT l).map V.str) := fun H1 e Q q =>
  h H1 e _ fun H2 e2 => ⟨a, _, keysT l, rfl, ex_rd (e.trans e2) hd, keys_kvT, by unfold keysT; rw [List.length_map]; exact hz, fun ys p pm s hp => by
    rw [srt_eq pm s srt]
    exact q p _ (fresh_back e2 hp) (e2.trans (Ex.new hp)) upd_same⟩
theorem el_lstD (h : Ev te σ H (.ref a)) (hd : Rd H a (.dK (kvT g l))) : EvL (tCB rLstD (tCons te tNil)) σ H ((keysT l).map V.str) := fun H1 e Q q =>
  h H1 e _ fun H2 e2 => ⟨a, _, rfl, ex_rd (e.trans e2) hd, fun p hp => by
    rw [kV_kvT]
    exact q p _ (fresh_back e2 hp) (e2.trans (Ex.new hp)) upd_same⟩
/-- sorted(xs) of texts -/
theorem el_srtS {xs zs : List PySem.Str} (h : Ev te σ H (.ref a)) (hx : SqL K H a (xs.map V.str)) (hz : xs.length < 64) (pm : zs.Perm xs) (srt : sortedS zs = true) : EvL (tCB (rSortedS K) (tCons te tNil)) σ H (zs.map V.str) := fun H1 e Q q =>
  h H1 e _ fun H2 e2 => ⟨a, xs, rfl, ex_l (e.trans e2) hx, hz, fun ys p pm2 s hp => by
    rw [srt_eq (pm2.trans pm.symm) s srt]
    exact q p _ (fresh_back e2 hp) (e2.trans (Ex.new hp)) upd_same⟩
theorem mem_sortS (xs : List PySem.Str) : ∃ zs : List PySem.Str, zs.Perm xs ∧ sortedS zs = true := by
  induction xs with
  | nil => exact ⟨[], .nil, rfl⟩
  | cons x xs ih =>
    obtain ⟨zs, p, s⟩ := ih
    have pw := srt_pw s
    refine ⟨zs.filter (fun z => decide (ltN z x)) ++ x :: zs.filter (fun z => !decide (ltN z x)), ?_, ?_⟩
    · have := List.filter_append_perm (fun z => decide (ltN z x)) zs
      exact (List.perm_middle).trans ((this.trans p).cons x)
    · refine sortedS_of_pairwise _ ?_
      have key : (zs.filter (fun z => decide (ltN z x)) ++ x :: zs.filter (fun z => !decide (ltN z x))).Pairwise fun a b => ¬ ltN b a := by
        refine List.pairwise_append.mpr ⟨pw.filter _, List.pairwise_cons.mpr ⟨fun y hy => ?_, pw.filter _⟩, fun y hy z hz => ?_⟩
        · have := (List.mem_filter.mp hy).2
          simpa using this
        · have h1 : ltN y x := of_decide_eq_true (List.mem_filter.mp hy).2
          rcases List.mem_cons.mp hz with e | e
          · rw [e]; exact fun h2 => ltN_irr _ (ltN_trans h1 h2)
          · have h2 : ¬ ltN z x := by simpa using (List.mem_filter.mp e).2
            exact fun h3 => h2 (ltN_trans h3 h1)
      refine key.imp fun {a b} z => ?_
      rw [ltCps_eq]
      exact decide_eq_false z
end
end Mc
namespace Mc.Cn
open PySem L2 PySem.Spec PyProof.Rows Evl LamX NdefX
/-! k41's world: what is known of the council's data -/
structure P41 (B L r m : Nat) (v : Cw) (ls : List Ltr) : Prop where
  p : P40 B L m v ls
  eb : EpB 50 v ls
  rl : RL r v
  n4 : v.ss.length ≤ 4
  es : ∀ (i : Nat) (e : Int), (v.ss.map (·.ep))[i]? = some e → 3 * (i : Int) ≤ e ∧ e ≤ 3 * i + 2
section
variable {B L r m i n : Nat} {v : Cw} {ls : List Ltr} {s : SqS}
theorem P41.mono {B' L' r' : Nat} (h : P41 B L r m v ls) (b : B ≤ B') (l : L ≤ L') (k : r ≤ r') : P41 B' L' r' m v ls := ⟨h.p.mono b l, h.eb, h.rl.mono k, h.n4, h.es⟩
theorem n4_of {v v' : Cw} (e : v'.ss.map (·.ep) = v.ss.map (·.ep)) (h : v.ss.length ≤ 4) : v'.ss.length ≤ 4 := by
  have := congrArg List.length e
  rw [List.length_map, List.length_map] at this
  omega
theorem P41.start (h : 0 < m) : P41 0 0 0 m ⟨(List.range m).map KeS.new, []⟩ [] := ⟨P40.start h, EpB.start, fun _ h => (nomatch h), Nat.zero_le _, fun i e h => by simp at h⟩
theorem P41.add {x : En} (h : P41 B L r m v ls) (hs : v.ss[i]? = some s) (hl : s.st = .leading) (hx : x.ok) : P41 (B + 1) L (r + 1) m ⟨v.ks, v.ss.set i (s.add x)⟩ ls := by
  have e : (v.ss.set i (s.add x)).map (·.ep) = v.ss.map (·.ep) := map_set_same (f := fun s : SqS => s.ep) hs rfl
  exact ⟨(h.p.add hs hl hx).1, h.eb.add hs, h.rl.add hs, n4_of (v' := ⟨v.ks, v.ss.set i (s.add x)⟩) e h.n4, fun j z hj => h.es j z (by rw [← e]; exact hj)⟩
theorem P41.send (h : P41 B L r m v ls) (hs : v.ss[i]? = some s) : P41 B (L + m) r m v (ls ++ s.toSend) := ⟨h.p.send hs, h.eb.send hs, h.rl, h.n4, h.es⟩
theorem P41.flush {k : KeS} (h : P41 B L r m v ls) (hk : v.ks[n]? = some k) : P41 B (L + B) r m (v.onK n KeS.flush) (ls ++ k.wa) := ⟨(h.p.flush hk).1, h.eb.flush hk, h.rl, h.n4, h.es⟩
theorem P41.bring {l : Ltr} (h : P41 B L r m v ls) (hl : l ∈ ls) : P41 (B + 1) L r m (v.bring l) ls := by
  have e := bring_ep v l
  exact ⟨(h.p.bring hl).1, h.eb.bring (h.eb.ls l hl), h.rl.bring h.p.sf (h.p.sf.lf l hl), n4_of e h.n4, fun j z hj => h.es j z (by rw [← e]; exact hj)⟩
theorem P41.fewer {l2 : List Ltr} (h : P41 B L r m v ls) (k : ∀ l ∈ l2, l ∈ ls) (kl : l2.length ≤ ls.length) : P41 B L r m v l2 := ⟨h.p.fewer k kl, h.eb.fewer k, h.rl, h.n4, h.es⟩
theorem P41.free (h : P41 B L r m v ls) {t : Int} (t0 : 0 ≤ t) : 3 * (v.ss.length : Int) + t ∉ v.ss.map (·.ep) := fun hm => by
  obtain ⟨j, hj⟩ := List.mem_iff_getElem?.mp hm
  have := h.es j _ hj
  have hl := (List.getElem?_eq_some_iff.mp hj).1
  rw [List.length_map] at hl
  omega
theorem P41.begin {t : Int} (h : P41 B L r m v ls) (hl : v.ss.length < 4) (t0 : 0 ≤ t) (t3 : t < 3) : P41 B L r m ⟨v.ks, v.ss ++ [SqS.new (3 * (v.ss.length : Int) + t) m]⟩ ls := by
  refine ⟨(h.p.begin (by omega) (by omega) (by omega) (h.free t0)).1, h.eb.begin (by omega), h.rl.begin, by show (v.ss ++ _).length ≤ 4; rw [List.length_append, List.length_singleton]; omega, fun j z hj => ?_⟩
  have hj : ((v.ss ++ [SqS.new (3 * (v.ss.length : Int) + t) m]).map (·.ep))[j]? = some z := hj
  rw [List.map_append] at hj
  by_cases c : j < v.ss.length
  · rw [List.getElem?_append_left (by rw [List.length_map]; exact c)] at hj
    exact h.es j z hj
  · rw [List.getElem?_append_right (by rw [List.length_map]; omega), List.length_map] at hj
    have hj2 := (List.getElem?_eq_some_iff.mp hj).1
    rw [List.length_map, List.length_singleton] at hj2
    have e : j = v.ss.length := by omega
    subst e
    rw [Nat.sub_self] at hj
    have hj := Option.some.inj hj
    have hj : 3 * (v.ss.length : Int) + t = z := hj
    omega
end
/-! readings -/
section
variable {K : PySem.W.Frag} {d a : Addr} {CC CK CN CS CB : Addr} {TT : List NTab} {H H' : Hp} {mg : PySem.Str → Option Value}
theorem q_takeD {Wp : Hp → Prop} (X : Dws K d a Wp) {tr : TE} {tz : TS} {D : Ends} {σ : L2.St} {i di : Nat} {r : Int} (h0 : σ[di]? = some (some (.ref d))) (ev : Ev tr σ H (.int r)) (hr : 0 < r) (W : Wp H) (k : ∀ v H', 0 ≤ v → v < r → Wp H' → (∀ b o, b ≠ d → H b = some o → H' b = some o) → tz D (σ.set i (some (.int v))) H') :
    tSeq (tAsg (tCall (spTake K) [] E0 (tCons (tVar di) (tCons tr tNil))) (gName i)) tz D σ H :=
  ⟨_, h0, ev H (Ex.refl _) _ fun H1 x1 => ⟨[d], d, a, r, rfl, X.dr _ (X.ex _ _ W x1), hr, fun v H' v0 v1 D' kp => k v H' v0 v1 (X.nx _ _ (X.ex _ _ W x1) D'.at_ kp) fun b o nb z => kp _ _ (x1 _ _ z) (by simpa using nb)⟩⟩
theorem pop_loop2 {Wp : Hp → Prop} (X : Dws K d a Wp) {σ : L2.St} {D : Ends} {H : Hp} {u : Addr} {up : List Nat} {n ui di gi : Nat} (h1 : σ[ui]? = some (some (.ref u))) (h2 : σ[di]? = some (some (.ref d))) (h3 : σ[gi]? = some (some (.int (n : Nat))))
    (W : Wp (less H u)) (hH : H u = some (.lst (up.map vN))) (hup : ∀ x ∈ up, x < n) (nd : up.Nodup) (hl : most n ≤ up.length) (hn : up.length ≤ 1000)
    (k : ∀ (up' : List Nat) (H' : Hp), Wp (less H' u) → H' u = some (.lst (up'.map vN)) → (∀ x ∈ up', x < n) → up'.Nodup → most n ≤ up'.length → up'.length ≤ 1000 → D.nx σ H') :
    tWhile (tAnd (tTest (tOp (rI0 fun i j => .bl (decide (j < i))) (tCB (rLenS K) (tCons (tVar ui) tNil)) (tCall spMost [] E0 (tCons (tVar gi) tNil)))) (tTest (tOp rEq (tCall (spTake K) [] E0 (tCons (tVar di) (tCons (tC (.int 2)) tNil))) (tC (.int 0)))))
      (tDrop (tBM K "list" rPopAt (tVar ui) (tCons (tCall (spTake K) [] E0 (tCons (tVar di) (tCons (tCB (rLenS K) (tCons (tVar ui) tNil)) tNil))) tNil))) D σ H := by
  have lx : ∀ {H H' : Hp}, Ex H H' → Ex (less H u) (less H' u) := fun x b o z => by
    by_cases c : b = u
    · rw [c, less_at] at z; cases z
    · rw [less_ne c] at z
      rw [less_ne c]; exact x _ _ z
  refine ⟨fun m σ' H' => ∃ up' : List Nat, σ' = σ ∧ Wp (less H' u) ∧ H' u = some (.lst (up'.map vN)) ∧ (∀ x ∈ up', x < n) ∧ up'.Nodup ∧ most n ≤ up'.length ∧ up'.length ≤ 1000 ∧ m = up'.length, ⟨up.length, up, rfl, W, hH, hup, nd, hl, hn, rfl⟩, ?_⟩
  rintro m σ' H1 ⟨up1, rfl, W1, hH1, hup1, nd1, hl1, hn1, rfl⟩
  obtain ⟨k0, hd0⟩ := (X.dr _ W1).at_
  have nud : u ≠ d := fun e => by rw [← e, less_at] at hd0; cases hd0
  have evl : Ev (tCB (rLenS K) (tCons (tVar ui) tNil)) σ' H1 (.int (up1.length : Nat)) := by
    have := ev_len (K := K) (ta := tVar ui) (σ := σ') (H := H1) (ev_var h1) (SqL.of hH1)
    rw [List.length_map] at this
    exact this
  refine evl H1 (Ex.refl _) _ fun H2 x2 => ⟨_, h3, n, rfl, ⟨_, _, rfl, rfl, _, rfl, ?_⟩⟩
  have hH2 := x2 _ _ hH1
  have W2 := X.ex _ _ W1 (lx x2)
  refine ite2 (fun hb => ?_) (fun _ => ?_)
  rotate_left
  · exact ite2 (fun h => nomatch h) fun _ => k up1 H2 W2 hH2 hup1 nd1 hl1 hn1
  have hb : most n < up1.length := by have := of_decide_eq_true hb; omega
  refine ⟨_, h2, [d], d, a, 2, rfl, X.dr _ (X.ex _ _ W2 less_ex), by decide, fun v H3 v0 v1 D3 kp3 => ⟨rfl, _, rfl, ?_⟩⟩
  have hH3 := kp3 _ _ hH2 (by simpa using nud)
  have nxl : ∀ {H2 H3 : Hp}, Wp (less H2 u) → Dr K [d] d a H3 → Kp [d] H2 H3 → Wp (less H3 u) := fun {H2 H3} W2 D3 kp3 => by
    refine X.nx _ _ W2 ?_ fun b o z nb => ?_
    · obtain ⟨k1, hk1⟩ := D3.at_
      exact ⟨k1, by rw [less_ne nud.symm]; exact hk1⟩
    · have c : b ≠ u := fun e => by rw [e, less_at] at z; cases z
      rw [less_ne c] at z
      rw [less_ne c]
      exact kp3 _ _ z nb
  have W3 := nxl W2 D3 kp3
  refine ite2 (fun _ => ?_) (fun _ => k up1 H3 W3 hH3 hup1 nd1 hl1 hn1)
  refine ⟨fun σ2 H' => ∃ up' : List Nat, σ2 = σ' ∧ Wp (less H' u) ∧ H' u = some (.lst (up'.map vN)) ∧ (∀ x ∈ up', x < n) ∧ up'.Nodup ∧ most n ≤ up'.length ∧ up'.length ≤ 1000 ∧ up'.length + 1 = up1.length, ?_, ?_⟩
  · rintro σ2 H' ⟨up', rfl, a1, a2, a3, a4, a5, a6, a7⟩
    exact ⟨up'.length, by omega, up', rfl, a1, a2, a3, a4, a5, a6, rfl⟩
  refine ⟨_, h1, .inl ⟨rfl, _, SqL.of hH3⟩, _, h2, _, h1, u, _, rfl, .inl (SqL.of hH3), [d], d, a, up1.length, by rw [List.length_map]; rfl, X.dr _ (X.ex _ _ W3 less_ex), by omega, fun v H4 v0 v1 D4 kp4 => ?_⟩
  have hH4 := kp4 _ _ hH3 (by simpa using nud)
  have W4 := nxl W3 D4 kp4
  have hv : v.toNat < up1.length := by omega
  have ev : v = ((v.toNat : Nat) : Int) := by omega
  refine ⟨u, _, v, v.toNat, vN up1[v.toNat], rfl, rfl, hH4, by omega, by omega, ?_, by rw [List.getElem?_map, List.getElem?_eq_getElem hv]; rfl, ?_⟩
  · unfold PySem.seqIndex?
    rw [List.length_map]
    have e1 : ¬ v < 0 := by omega
    simp only [e1, if_false]
    rw [if_pos (by simp; omega)]
  refine ⟨up1.eraseIdx v.toNat, rfl, ?_, ?_, fun x hx => hup1 x (List.mem_of_mem_eraseIdx hx), nd1.sublist (List.eraseIdx_sublist ..), by rw [List.length_eraseIdx_of_lt hv]; omega, by rw [List.length_eraseIdx_of_lt hv]; omega, by rw [List.length_eraseIdx_of_lt hv]; omega⟩
  · refine X.ex _ _ W4 fun b o z => ?_
    by_cases c : b = u
    · rw [c, less_at] at z; cases z
    · rw [less_ne c] at z
      rw [less_ne c, upd_ne c]; exact z
  · rw [upd_same]
    congr 2
    exact map_erase _ _ _
/-- tuple(xs) of a list of data, xs[:n] -/
theorem etd_of {te : TE} {σ : L2.St} {l : Addr} {ds : List PyData} (h : Ev te σ H (.ref l)) (ld : LD K H l ds) (td : tpA ds = true) : EvTD K (tThen te (kTup K)) σ H ds := fun H1 e _ q => h H1 e _ fun H2 e2 => by
  obtain ⟨us, h2, du⟩ := ld
  have x := e.trans e2
  exact .inl ⟨l, us, rfl, SqL.of (x _ _ h2), fun t ht => q t _ (fresh_back e2 ht) (e2.trans (Ex.new ht)) ⟨us, upd_same, dpA_tp (Tp.same (x.trans (Ex.new ht))) _ _ td du⟩⟩
theorem eld_sl {te tn : TE} {σ : L2.St} {l : Addr} {ds : List PyData} {n : Nat} (h : Ev te σ H (.ref l)) (ld : LD K H l ds) (td : tpA ds = true) (hn : Ev tn σ H (.int (n : Nat))) (le : n ≤ ds.length) : EvLD K (tSl (rSlL K) te tNoPart (tPart tn)) σ H (ds.take n) := fun H1 e Q q => by
  obtain ⟨us, h2, du⟩ := ld
  refine h H1 e _ fun H2 e2 => hn H2 (e.trans e2) _ fun H3 e3 => ⟨n, rfl, ?_⟩
  have x := e.trans (e2.trans e3)
  refine ⟨l, us, rfl, SqL.of (x _ _ h2), fun p hp => q p _ (fresh_back (e2.trans e3) hp) ((e2.trans e3).trans (Ex.new hp)) ⟨_, upd_same, ?_⟩⟩
  have lus := dpA_len du
  have e0 : cutV us none (some (n : Int)) = us.take n := by
    unfold cutV
    rw [HT.sIx_none, HT.sIx_nat, List.drop_zero, Nat.sub_zero, Nat.min_eq_left (by omega)]
  rw [e0]
  exact dpA_take n (dpA_tp (Tp.same (x.trans (Ex.new hp))) _ _ td du)
/-- two tuples of the same entries -/
theorem et_neRR {ta tb : TE} {σ : L2.St} {R : List En} (ha : EvTD K ta σ H (R.map En.d)) (hb : EvTD K tb σ H (R.map En.d)) (ok : ∀ x ∈ R, x.ok) : EvT (tTest (tOp (rNeD K) ta tb)) σ H false := et_test fun H1 e Q q => ha H1 e _ fun t H2 _ e2 td => hb H2 (e.trans e2) _ fun t2 H3 _ e3 td2 => by
  have d1 := (td.ks (Ks.same e3) (tpAE _)).dp
  exact rv_neDD d1 td2.dp (sd_row ok).1 (sd_row ok).1 (sd_row ok).2 (sd_row ok).2 (b := true) (by simp) H3 (Ex.refl _) Q fun H4 e4 => q H4 (e2.trans (e3.trans e4))
end
/-! the council and a list of those that are up -/
structure X41 (K : PySem.W.Frag) (CC CK CS : Addr) (TT : List NTab) (c ll : Addr) (ow : List (Addr × List V)) (fa : List (Nat × Addr)) (g : Sf) (w : Cw) (ls : List Ltr) (H : Hp) : Prop where
  cn : CnAt K CC CK CS H c ll g w ls
  tb : TabsN TT H
  ow : ∀ x ∈ ow, H x.1 = some (.lst x.2) ∧ x.1 ∉ c :: ll :: g.all
  fa : ∀ x ∈ fa, ∃ z, g.fs[x.1]? = some z ∧ z.a = x.2
section
variable {K : PySem.W.Frag} {CC CK CN CS CB : Addr} {TT : List NTab} {c ll : Addr} {ow : List (Addr × List V)} {fa : List (Nat × Addr)} {g g' : Sf} {w w' : Cw} {ls ls' : List Ltr} {H H' : Hp} {mg : PySem.Str → Option Value}
theorem X41.ex (X : X41 K CC CK CS TT c ll ow fa g w ls H) (x : Ex H H') : X41 K CC CK CS TT c ll ow fa g w ls H' := ⟨X.cn.same x, TabsN.ext X.tb x, fun y hy => ⟨x _ _ (X.ow y hy).1, (X.ow y hy).2⟩, X.fa⟩
theorem X41.cou (X : X41 K CC CK CS TT c ll ow fa g w ls H) (b : CnP K CC CK CS TT H c ll g w' ls' g' H') : X41 K CC CK CS TT c ll ow fa g' w' ls' H' := by
  refine ⟨b.cn, b.tb, fun y hy => ?_, fun y hy => ?_⟩
  · obtain ⟨h1, h2⟩ := X.ow y hy
    refine ⟨b.kp _ _ h1 h2 (fun _ z => (by cases z)), fun m => ?_⟩
    rcases List.mem_cons.mp m with e | m
    · exact h2 (by rw [e]; exact .head _)
    · rcases List.mem_cons.mp m with e | m
      · exact h2 (by rw [e]; exact .tail _ (.head _))
      · rcases b.gro.all _ m with q | q
        · exact h2 (.tail _ (.tail _ q))
        · rw [h1] at q; cases q
  · obtain ⟨z, hz, e⟩ := X.fa y hy
    obtain ⟨z', hz', e'⟩ := b.gro.fa _ _ hz
    exact ⟨z', hz', e'.trans e⟩
theorem X41.own {p : Addr} {xs : List V} (X : X41 K CC CK CS TT c ll ow fa g w ls H) (x : Ex H H') (hp : H p = none) (hp' : H' p = some (.lst xs)) : X41 K CC CK CS TT c ll ((p, xs) :: ow) fa g w ls H' := by
  have X2 := X.ex x
  refine ⟨X2.cn, X2.tb, fun y hy => ?_, X2.fa⟩
  rcases List.mem_cons.mp hy with rfl | hy
  · refine ⟨hp', fun m => ?_⟩
    obtain ⟨o, ho, _⟩ := cn_nt X.cn _ m
    rw [hp] at ho; cases ho
  · exact X2.ow y hy
theorem X41.mark {i : Nat} {z : Ft} (X : X41 K CC CK CS TT c ll ow fa g w ls H) (hz : g.fs[i]? = some z) : X41 K CC CK CS TT c ll ow ((i, z.a) :: fa) g w ls H := ⟨X.cn, X.tb, X.ow, fun y hy => by
  rcases List.mem_cons.mp hy with rfl | hy
  · exact ⟨z, hz, rfl⟩
  · exact X.fa y hy⟩
theorem X41.c_at (X : X41 K CC CK CS TT c ll ow fa g w ls H) : ∃ dx, H c = some (.ins CC dx (CnF g ll)) := X.cn.1
theorem X41.seq {i : Nat} {la : Addr} {s : SqS} (X : X41 K CC CK CS TT c ll ow fa g w ls H) (hf : (i, la) ∈ fa) (hs : w.ss[i]? = some s) : ∃ z, g.fs[i]? = some z ∧ z.a = la ∧ SqAt K CS H z s := by
  obtain ⟨z, hz, SQ⟩ := X.cn.sd.sget hs
  obtain ⟨z', hz', e⟩ := X.fa _ hf
  rw [hz] at hz'
  obtain rfl := Option.some.inj hz'
  exact ⟨z, hz, e, SQ⟩
/-- exchange -/
theorem X41.exch {B m i ni : Nat} {ua : Addr} {up : List Nat} {s : SqS} {σ : L2.St} {D : Ends} (X : X41 K CC CK CS TT c ll ow fa g w ls H) (hu : (ua, up.map vN) ∈ ow) (ok : CwOk B m w) (hup : ∀ n ∈ up, n < m) (hl : up.length ≤ 1000) (hm : m ≤ 1000) (hB : B + m ≤ 90000) (hs : w.ss[i]? = some s)
    (h3 : σ[3]? = some (some (.ref c))) (hi : σ[ni]? = some (some (.int (i : Nat)))) (h9 : σ[9]? = some (some (.ref ua))) (k : ∀ g' H', X41 K CC CK CS TT c ll ow fa g' (w.exchange i up) ls H' → Ks H H' → D.nx σ H') :
    tDrop (tMeth CC "exchange" (spExC K CC CK CS TT) [] E0 (tVar 3) (tCons (tVar ni) (tCons (tVar 9) tNil))) D σ H := by
  obtain ⟨dx, hc⟩ := X.c_at
  obtain ⟨h1, h2⟩ := X.ow _ hu
  exact ⟨_, h3, c, dx, _, rfl, hc, rfl, _, hi, _, h9, c, ll, ua, g, w, ls, B, m, i, up, s, rfl, X.cn, h1, fun q => h2 (.tail _ (.tail _ q)), hup, hl, ok, hm, hB, X.tb, hs, fun g' H' cp => k g' H' (X.cou cp) cp.ks⟩
/-- add to a leading sequencer -/
theorem X41.add {i li : Nat} {la : Addr} {s : SqS} {x : En} {tx : TE} {σ : L2.St} {D : Ends} (X : X41 K CC CK CS TT c ll ow fa g w ls H) (hf : (i, la) ∈ fa) (hs : w.ss[i]? = some s) (hl : s.st = .leading) (hlen : s.row.length ≤ 90000) (h : σ[li]? = some (some (.ref la)))
    (hx : ∀ Q : VK, (∀ xv H1, Ex H H1 → Dp K H1 xv x.d → Q xv H1) → tx σ H Q) (k : ∀ g' H', X41 K CC CK CS TT c ll ow fa g' ⟨w.ks, w.ss.set i (s.add x)⟩ ls H' → Ks H H' → D.nx σ H') :
    tDrop (tMethE CS "add" (spAdd K CS CB) (fun _ => E0) (tVar li) (tCons tx tNil)) D σ H := by
  obtain ⟨z, hz, ea, SQ⟩ := X.seq hf hs
  obtain ⟨dxs, hzs⟩ := SQ.self
  subst ea
  refine ⟨_, h, z.a, dxs, _, rfl, hzs, rfl, ?_⟩
  refine hx _ fun xv H1 x1 dv => ?_
  have X1 := X.ex x1
  have SQ1 := SQ.same x1
  refine ⟨z, s, x, xv, rfl, SQ1, dv, .inl ⟨hl, hlen, fun H' SQ' kp ks => ?_⟩⟩
  obtain ⟨g', br⟩ := BrP.row (TT := TT) X1.cn.sd X1.tb hz SQ1 SQ' kp ks
  exact k g' H' (X1.cou (CnP.br X1.cn br)) ((Ks.same x1).trans ks)
/-- what is read -/
theorem X41.ev_row {i : Nat} {la : Addr} {s : SqS} {te : TE} {σ : L2.St} (T : TxS K mg CS) (X : X41 K CC CK CS TT c ll ow fa g w ls H) (hf : (i, la) ∈ fa) (hs : w.ss[i]? = some s) (h : Ev te σ H (.ref la)) : ∃ r, Ev (tFld K te "row") σ H (.ref r) ∧ LD K H r (s.row.map En.d) := by
  obtain ⟨z, hz, ea, SQ⟩ := X.seq hf hs
  obtain ⟨⟨dxs, h1⟩, h2, _⟩ := id SQ
  subst ea
  exact ⟨z.r, ev_fld h h1 T.cl T.nRow rfl, h2⟩
theorem X41.ev_stand {i : Nat} {la : Addr} {s : SqS} {te : TE} {σ : L2.St} (T : TxS K mg CS) (X : X41 K CC CK CS TT c ll ow fa g w ls H) (hf : (i, la) ∈ fa) (hs : w.ss[i]? = some s) (h : Ev te σ H (.ref la)) : Ev (tFld K te "stand") σ H (.str s.st.s) := by
  obtain ⟨z, hz, ea, SQ⟩ := X.seq hf hs
  obtain ⟨dxs, hzs⟩ := SQ.self
  subst ea
  exact ev_fld h hzs T.cl T.nSt rfl
theorem X41.ev_len {i : Nat} {la : Addr} {s : SqS} {te : TE} {σ : L2.St} (T : TxS K mg CS) (X : X41 K CC CK CS TT c ll ow fa g w ls H) (hf : (i, la) ∈ fa) (hs : w.ss[i]? = some s) (h : Ev te σ H (.ref la)) : Ev (tCB (rLenS K) (tCons (tFld K te "row") tNil)) σ H (.int (s.row.length : Nat)) := by
  obtain ⟨r, ev, us, hr, du⟩ := X.ev_row T hf hs h
  have := Evl.ev_len (K := K) ev (SqL.of hr)
  rw [dpA_len du, List.length_map] at this
  exact this
theorem X41.etd_row {i : Nat} {la : Addr} {s : SqS} {te : TE} {σ : L2.St} (T : TxS K mg CS) (X : X41 K CC CK CS TT c ll ow fa g w ls H) (hf : (i, la) ∈ fa) (hs : w.ss[i]? = some s) (h : Ev te σ H (.ref la)) : EvTD K (tThen (tFld K te "row") (kTup K)) σ H (s.row.map En.d) := by
  obtain ⟨r, ev, ld⟩ := X.ev_row T hf hs h
  exact etd_of ev ld (tpAE _)
theorem X41.etd_setC {B L m : Nat} {R : List En} {te : TE} {σ : L2.St} (X : X41 K CC CK CS TT c ll ow fa g w ls H) (P : P40 B L m w ls) (hm : m ≤ 60) (hB : B ≤ 16000) (R0 : RowS m w R) (h : Ev te σ H (.ref c)) : EvTD K (tMeth CC "settled" (spSetC K CC CK CS) [] E0 te tNil) σ H (R.map En.d) := fun H1 e Q q => h H1 e _ fun H2 e2 => by
  obtain ⟨dx, hc⟩ := (X.ex (e.trans e2)).c_at
  refine ⟨c, dx, _, rfl, hc, rfl, c, ll, g, w, ls, B, m, rfl, (X.ex (e.trans e2)).cn, P.ok, hm, hB, fun t H3 R' ht s3 rowS lR okR td => ?_⟩
  rw [RowS.uniq P.sf rowS R0] at td
  exact q t H3 (fresh_back e2 ht) (e2.trans s3) td
theorem X41.etd_setS {B m i : Nat} {la : Addr} {s : SqS} {te : TE} {σ : L2.St} (X : X41 K CC CK CS TT c ll ow fa g w ls H) (ok : CwOk B m w) (hm : m ≤ 60) (hB : B ≤ 90000) (hf : (i, la) ∈ fa) (hs : w.ss[i]? = some s) (h : Ev te σ H (.ref la)) : EvTD K (tMeth CS "settled" (spSettled K CS) [] E0 te tNil) σ H (s.settled.map En.d) := fun H1 e Q q => h H1 e _ fun H2 e2 => by
  obtain ⟨z, hz, ea, SQ⟩ := (X.ex (e.trans e2)).seq hf hs
  obtain ⟨dxs, hzs⟩ := SQ.self
  subst ea
  exact ⟨z.a, dxs, _, rfl, hzs, rfl, z, s, B, m, rfl, SQ, ok.ss s (List.mem_of_getElem? hs), hm, hB, fun t H3 ht s3 td => q t H3 (fresh_back e2 ht) (e2.trans s3) td⟩
end
/-! the takeover, told of data -/
theorem ge_of {E : Int} {v v' : Cw} (e : v'.ss.map (·.ep) = v.ss.map (·.ep)) (h : ∀ s ∈ v.ss, s.ep ≤ E) : ∀ s ∈ v'.ss, s.ep ≤ E := fun x hx => by
  have : x.ep ∈ v.ss.map (·.ep) := by rw [← e]; exact List.mem_map.mpr ⟨x, hx, rfl⟩
  obtain ⟨y, hy, ey⟩ := List.mem_map.mp this
  have := h y hy
  have ey : y.ep = x.ep := ey
  omega
theorem nn_of {n : Nat} {v v' : Cw} (e : v'.ss.map (·.ep) = v.ss.map (·.ep)) (h : v.ss.length = n) : v'.ss.length = n := by
  have := congrArg List.length e
  rw [List.length_map, List.length_map] at this
  omega
structure Z41 (m N : Nat) (L : List En) (up : List Nat) (t B r : Nat) (w : Cw) (ls : List Ltr) : Prop where
  p : P40 B 4000 m w ls
  rl : RL r w
  lv : LvA m 50 L up t w N
  ge : ∀ s ∈ w.ss, s.ep ≤ 50
  n : w.ss.length = N + 1
structure Y41 (m N : Nat) (L : List En) (B r : Nat) (w : Cw) (ls : List Ltr) : Prop where
  p : P40 B 4000 m w ls
  rl : RL r w
  ld : LdA m 50 L w N
  at_ : ∀ (p : Nat) (x : En), L[p]? = some x → SetAt m w p x
  ge : ∀ s ∈ w.ss, s.ep ≤ 50
  n : w.ss.length = N + 1
section
variable {m N t B r : Nat} {L : List En} {up : List Nat} {w : Cw} {ls : List Ltr}
theorem Z41.mono {B' r' : Nat} (h : Z41 m N L up t B r w ls) (b : B ≤ B') (k : r ≤ r') : Z41 m N L up t B' r' w ls := ⟨h.p.mono b (Nat.le_refl _), h.rl.mono k, h.lv, h.ge, h.n⟩
theorem Y41.mono {B' r' : Nat} (h : Y41 m N L B r w ls) (b : B ≤ B') (k : r ≤ r') : Y41 m N L B' r' w ls := ⟨h.p.mono b (Nat.le_refl _), h.rl.mono k, h.ld, h.at_, h.ge, h.n⟩
theorem Z41.get (h : Z41 m N L up t B r w ls) : ∃ s, w.ss[N]? = some s ∧ s.st = .leading ∧ s.row = L := by
  obtain ⟨s, hs, hl, ld, _⟩ := h.lv.sq
  exact ⟨s, hs, ld, hl.row⟩
theorem Y41.get (h : Y41 m N L B r w ls) : ∃ s, w.ss[N]? = some s ∧ s.row = L := by
  obtain ⟨s, hs, hl⟩ := h.ld
  exact ⟨s, hs, hl.row⟩
theorem Y41.okL (h : Y41 m N L B r w ls) : ∀ x ∈ L, x.ok := by
  obtain ⟨s, hs, rfl⟩ := h.get
  exact (h.p.ok.ss s (List.mem_of_getElem? hs)).row
theorem Z41.okL (h : Z41 m N L up t B r w ls) : ∀ x ∈ L, x.ok := by
  obtain ⟨s, hs, _, rfl⟩ := h.get
  exact (h.p.ok.ss s (List.mem_of_getElem? hs)).row
theorem Z41.len (h : Z41 m N L up t B r w ls) : L.length ≤ r := by
  obtain ⟨s, hs, _, rfl⟩ := h.get
  exact h.rl s (List.mem_of_getElem? hs)
theorem Z41.exch (h : Z41 m N L up t B r w ls) (lt : t < L.length) : Z41 m N L up (t + 1) (B + m) r (w.exchange N up) ls := by
  have e := exchange_ep w N up
  exact ⟨(h.p.exch (i := N) (up := up)).1, h.rl.exchange h.p.sf, h.lv.exch h.p.sf lt, ge_of e h.ge, nn_of e h.n⟩
theorem Z41.add {s : SqS} {x : En} (h : Z41 m N L up t B r w ls) (hs : w.ss[N]? = some s) (hx : x.ok) : Z41 m N (L ++ [x]) up t (B + 1) (r + 1) ⟨w.ks, w.ss.set N (s.add x)⟩ ls := by
  obtain ⟨s', hs', hl, _⟩ := h.get
  rw [hs] at hs'
  obtain rfl := Option.some.inj hs'
  have e : (w.ss.set N (s.add x)).map (·.ep) = w.ss.map (·.ep) := map_set_same (f := fun s : SqS => s.ep) hs rfl
  exact ⟨(h.p.add hs hl hx).1, h.rl.add hs, h.lv.add hs, ge_of (v' := ⟨w.ks, w.ss.set N (s.add x)⟩) e h.ge, nn_of (v' := ⟨w.ks, w.ss.set N (s.add x)⟩) e h.n⟩
theorem Z41.done (h : Z41 m N L up t B r w ls) (le : L.length ≤ t) : Y41 m N L B r w ls := by
  obtain ⟨s, hs, _, _⟩ := h.get
  have e := h.lv.settled h.p.sf le hs h.p.pos
  refine ⟨h.p, h.rl, h.lv.ld, fun p x hx => ?_, h.ge, h.n⟩
  rw [← e] at hx
  exact h.p.sf.settled (List.mem_of_getElem? hs) h.p.pos p x hx
theorem Y41.exch {j : Nat} {u2 : List Nat} (h : Y41 m N L B r w ls) : Y41 m N L (B + m) r (w.exchange j u2) ls := by
  have e := exchange_ep w j u2
  have st := h.p.exch (i := j) (up := u2)
  exact ⟨st.1, h.rl.exchange h.p.sf, h.ld.exchange, fun p x hx => (h.at_ p x hx).rs st.2, ge_of e h.ge, nn_of e h.n⟩
theorem Y41.add {j : Nat} {s : SqS} {x : En} (h : Y41 m N L B r w ls) (hs : w.ss[j]? = some s) (hl : s.st = .leading) (ne : j ≠ N) (hx : x.ok) : Y41 m N L (B + 1) (r + 1) ⟨w.ks, w.ss.set j (s.add x)⟩ ls := by
  have e : (w.ss.set j (s.add x)).map (·.ep) = w.ss.map (·.ep) := map_set_same (f := fun s : SqS => s.ep) hs rfl
  have st := h.p.add hs hl hx
  exact ⟨st.1, h.rl.add hs, h.ld.add ne, fun p x hx => (h.at_ p x hx).rs st.2, ge_of (v' := ⟨w.ks, w.ss.set j (s.add x)⟩) e h.ge, nn_of (v' := ⟨w.ks, w.ss.set j (s.add x)⟩) e h.n⟩
theorem Y41.rowS (h : Y41 m N L B r w ls) : RowS m w L := LdA.rowS h.p.sf h.ld h.ge h.at_
theorem repl_getD {n i : Nat} : (List.replicate n 0).getD i 0 = 0 := by
  rw [List.getD_eq_getElem?_getD, List.getElem?_replicate]
  split <;> rfl
theorem P41.first {R : List En} (h : P41 B 4000 r m w ls) (nd : up.Nodup) (lt : ∀ n ∈ up, n < m) (mj : most m ≤ up.length) (hR : RowS m w R) :
    P40 B 4000 m ⟨w.ks, w.ss ++ [SqS.new 50 m]⟩ ls ∧ ∃ s, ((⟨w.ks, w.ss ++ [SqS.new 50 m]⟩ : Cw).exchange w.ss.length up).ss[w.ss.length]? = some s ∧ s.st = .leading ∧ Z41 m w.ss.length s.row up 0 (B + m) r ((⟨w.ks, w.ss ++ [SqS.new 50 m]⟩ : Cw).exchange w.ss.length up) ls ∧ R = s.row.take R.length := by
  have n4 := h.n4
  have hE : (50 : Int) ∉ w.ss.map (·.ep) := fun z => by
    obtain ⟨s, hs, e⟩ := List.mem_map.mp z
    have := h.eb.ss s hs
    have e : s.ep = 50 := e
    omega
  have P1 := h.p.begin (e := 50) (by omega) (by decide) (by decide) hE
  obtain ⟨s, hs, ep, ld, tk, ku⟩ := first_exch (i := w.ss.length) h.p.sf h.eb (by decide) rfl nd lt mj
  have P2 := P1.1.exch (i := w.ss.length) (up := up)
  have hl := (P2.1.sf.si s (List.mem_of_getElem? hs)).led ld
  rw [ep] at hl
  have e := exchange_ep ⟨w.ks, w.ss ++ [SqS.new 50 m]⟩ w.ss.length up
  have ge1 : ∀ s ∈ (⟨w.ks, w.ss ++ [SqS.new 50 m]⟩ : Cw).ss, s.ep ≤ 50 := fun s hs => by
    rcases List.mem_append.mp hs with hs | hs
    · have := h.eb.ss s hs; omega
    · rw [List.mem_singleton.mp hs]; exact Int.le_refl _
  have LA : LdA m 50 s.row ((⟨w.ks, w.ss ++ [SqS.new 50 m]⟩ : Cw).exchange w.ss.length up) w.ss.length := ⟨s, hs, hl⟩
  refine ⟨P1.1, s, hs, ld, ⟨P2.1, h.rl.begin.exchange P1.1.sf, ⟨⟨s, hs, hl, ld, fun n hn => by rw [tk]; exact repl_getD⟩, ku, nd, lt, mj⟩, ge_of e ge1, nn_of e (by show (w.ss ++ _).length = _; rw [List.length_append, List.length_singleton])⟩, ?_⟩
  exact LA.before h.p.sf P2.1.sf h.eb.ss (P1.2.trans P2.2) hR.at_
end
/-! readings more -/
section
variable {K : PySem.W.Frag} {d a : Addr} {CC CK CN CS CB : Addr} {TT : List NTab} {c ll : Addr} {ow : List (Addr × List V)} {fa : List (Nat × Addr)} {g g' : Sf} {w w' : Cw} {ls ls' : List Ltr} {H H' : Hp} {mg : PySem.Str → Option Value}
theorem q_pop2 {Wp : Hp → Prop} (X : Dws K d a Wp) {tz : TS} {σ : L2.St} {D : Ends} {H : Hp} {u : Addr} {up : List Nat} {n ui di gi : Nat} (h1 : σ[ui]? = some (some (.ref u))) (h2 : σ[di]? = some (some (.ref d))) (h3 : σ[gi]? = some (some (.int (n : Nat))))
    (W : Wp (less H u)) (hH : H u = some (.lst (up.map vN))) (hup : ∀ x ∈ up, x < n) (nd : up.Nodup) (hl : most n ≤ up.length) (hn : up.length ≤ 1000)
    (k : ∀ (up' : List Nat) (H' : Hp), Wp (less H' u) → H' u = some (.lst (up'.map vN)) → (∀ x ∈ up', x < n) → up'.Nodup → most n ≤ up'.length → up'.length ≤ 1000 → tz D σ H') :
    tSeq (tWhile (tAnd (tTest (tOp (rI0 fun i j => .bl (decide (j < i))) (tCB (rLenS K) (tCons (tVar ui) tNil)) (tCall spMost [] E0 (tCons (tVar gi) tNil)))) (tTest (tOp rEq (tCall (spTake K) [] E0 (tCons (tVar di) (tCons (tC (.int 2)) tNil))) (tC (.int 0)))))
      (tDrop (tBM K "list" rPopAt (tVar ui) (tCons (tCall (spTake K) [] E0 (tCons (tVar di) (tCons (tCB (rLenS K) (tCons (tVar ui) tNil)) tNil))) tNil)))) tz D σ H := pop_loop2 (D := { D with nx := tz D }) X h1 h2 h3 W hH hup nd hl hn k
theorem X41.q_exch {tz : TS} {B m i ni : Nat} {ua : Addr} {up : List Nat} {s : SqS} {σ : L2.St} {D : Ends} (X : X41 K CC CK CS TT c ll ow fa g w ls H) (hu : (ua, up.map vN) ∈ ow) (ok : CwOk B m w) (hup : ∀ n ∈ up, n < m) (hl : up.length ≤ 1000) (hm : m ≤ 1000) (hB : B + m ≤ 90000) (hs : w.ss[i]? = some s)
    (h3 : σ[3]? = some (some (.ref c))) (hi : σ[ni]? = some (some (.int (i : Nat)))) (h9 : σ[9]? = some (some (.ref ua))) (k : ∀ g' H', X41 K CC CK CS TT c ll ow fa g' (w.exchange i up) ls H' → Ks H H' → tz D σ H') :
    tSeq (tDrop (tMeth CC "exchange" (spExC K CC CK CS TT) [] E0 (tVar 3) (tCons (tVar ni) (tCons (tVar 9) tNil)))) tz D σ H := X.exch (D := { D with nx := tz D }) hu ok hup hl hm hB hs h3 hi h9 k
theorem X41.q_add {tz : TS} {i li : Nat} {la : Addr} {s : SqS} {x : En} {tx : TE} {σ : L2.St} {D : Ends} (X : X41 K CC CK CS TT c ll ow fa g w ls H) (hf : (i, la) ∈ fa) (hs : w.ss[i]? = some s) (hl : s.st = .leading) (hlen : s.row.length ≤ 90000) (h : σ[li]? = some (some (.ref la)))
    (hx : ∀ Q : VK, (∀ xv H1, Ex H H1 → Dp K H1 xv x.d → Q xv H1) → tx σ H Q) (k : ∀ g' H', X41 K CC CK CS TT c ll ow fa g' ⟨w.ks, w.ss.set i (s.add x)⟩ ls H' → Ks H H' → tz D σ H') :
    tSeq (tDrop (tMethE CS "add" (spAdd K CS CB) (fun _ => E0) (tVar li) (tCons tx tNil))) tz D σ H := X.add (D := { D with nx := tz D }) hf hs hl hlen h hx k
/-- a tuple of entries against another -/
theorem et_neRV {ta tb : TE} {σ : L2.St} {R : List En} {q : Addr} (ha : EvTD K ta σ H (R.map En.d)) (hb : Ev tb σ H (.ref q)) (hq : TD K H q (R.map En.d)) (ok : ∀ x ∈ R, x.ok) : EvT (tTest (tOp (rNeD K) ta tb)) σ H false := et_test fun H1 e Q q2 => ha H1 e _ fun t H2 _ e2 td => hb H2 (e.trans e2) _ fun H3 e3 => by
  have d1 := (td.ks (Ks.same e3) (tpAE _)).dp
  have d2 := (hq.ks (Ks.same (e.trans (e2.trans e3))) (tpAE _)).dp
  exact rv_neDD d1 d2 (sd_row ok).1 (sd_row ok).1 (sd_row ok).2 (sd_row ok).2 (b := true) (by simp) H3 (Ex.refl _) Q fun H4 e4 => q2 H4 (e2.trans (e3.trans e4))
/-- one.settled() != row[:len(one.settled())] -/
theorem et_neSl {ta tb : TE} {σ : L2.St} {R L : List En} (ha : EvTD K ta σ H (R.map En.d)) (hb : EvTD K tb σ H (L.map En.d)) (e : R = L.take R.length) (le : R.length ≤ L.length) (ok : ∀ x ∈ L, x.ok) : EvT (tTest (tOp (rNeD K) ta (tSl (rSlA K) tb tNoPart (tPart (tCB (rLenS K) (tCons ta tNil)))))) σ H false := et_test fun H1 x1 Q q => by
  have okR : ∀ x ∈ R, x.ok := fun x hx => ok x (by rw [e] at hx; exact List.mem_of_mem_take hx)
  refine ha H1 x1 _ fun t H2 _ x2 td => hb H2 (x1.trans x2) _ fun t2 H3 _ x3 td2 => ?_
  refine ha H3 (x1.trans (x2.trans x3)) _ fun t3 H4 _ x4 td3 => ?_
  obtain ⟨us, hus, dus⟩ := td3
  have lus : us.length = R.length := by rw [dpA_len dus, List.length_map]
  refine ⟨t3, us, rfl, .inr (SqT.of hus), (us.length : Int), rfl, ?_⟩
  rw [lus]
  refine tup_sl (td2.ks (Ks.same x4) (tpAE _)) (tpAE _) (by rw [List.length_map]; exact le) fun t4 H5 x5 td4 => ?_
  rw [← List.map_take, ← e] at td4
  have d1 := (td.ks (Ks.same (x3.trans (x4.trans x5))) (tpAE _)).dp
  exact rv_neDD d1 td4.dp (sd_row okR).1 (sd_row okR).1 (sd_row okR).2 (sd_row okR).2 (b := true) (by simp) H5 (Ex.refl _) Q fun H6 x6 => q H6 (x2.trans (x3.trans (x4.trans (x5.trans x6))))
theorem new_ok0 : sdD (.str "new") = true := by decide +kernel
theorem new_ok (n : Int) : (En.tag "new" n).ok := new_ok0
theorem late_ok : (En.str "late").ok := by unfold En.ok; decide +kernel
/-- all sequencers so far -/
def allF (g : Sf) : List (Nat × Addr) := (List.range g.fs.length).map fun i => (i, ((g.fs[i]?.map Ft.a).getD 0))
theorem allF_mem {i : Nat} {z : Ft} (h : g.fs[i]? = some z) : (i, z.a) ∈ allF g := List.mem_map.mpr ⟨i, List.mem_range.mpr (List.getElem?_eq_some_iff.mp h).1, by rw [h]; rfl⟩
theorem X41.all (X : X41 K CC CK CS TT c ll ow fa g w ls H) : X41 K CC CK CS TT c ll ow (allF g ++ fa) g w ls H := ⟨X.cn, X.tb, X.ow, fun y hy => by
  rcases List.mem_append.mp hy with hy | hy
  · obtain ⟨i, hi, rfl⟩ := List.mem_map.mp hy
    have hl := List.mem_range.mp hi
    exact ⟨g.fs[i], List.getElem?_eq_getElem hl, by rw [List.getElem?_eq_getElem hl]; rfl⟩
  · exact X.fa y hy⟩
theorem cut_last (xs : List V) : cutV xs none (some (-1)) = xs.take (xs.length - 1) := by
  unfold cutV
  rw [show HT.sIx xs.length 0 none = 0 from rfl, List.drop_zero, Nat.sub_zero]
  congr 1
  show (if (-1 : Int) < 0 then (-1 + (xs.length : Int)).toNat else min (-1 : Int).toNat xs.length) = _
  rw [if_pos (by decide)]
  omega
theorem fs_nodup (sd : SdAt K CK CS H g w) : (g.fs.map (·.a)).Nodup := by
  have nd := sd.nd
  unfold Sf.all at nd
  have nd2 := (List.nodup_append.mp (List.nodup_cons.mp (List.nodup_cons.mp nd).2).2).2.1
  unfold Sf.fl at nd2
  have : ∀ xs : List Ft, ((xs.map Ft.l).flatten).Nodup → (xs.map (·.a)).Nodup := by
    intro xs
    induction xs with
    | nil => exact fun _ => List.nodup_nil
    | cons x xs ih =>
      intro h
      rw [List.map_cons, List.flatten_cons] at h
      obtain ⟨h1, h2, h3⟩ := List.nodup_append.mp h
      refine List.nodup_cons.mpr ⟨fun m => ?_, ih h2⟩
      obtain ⟨y, hy, e⟩ := List.mem_map.mp m
      exact h3 x.a (by simp [Ft.l]) y.a (List.mem_flatten.mpr ⟨y.l, List.mem_map.mpr ⟨y, hy, rfl⟩, by simp [Ft.l]⟩) e.symm
  exact this _ nd2
end
end Mc.Cn
namespace Mc.Cn
open PySem L2 PySem.Spec PyProof.Rows Evl LamX NdefX
abbrev s_law : Stmt := top 24
theorem sc_law : FnScope ["script", "draw", "many", "council", "word", "turn", "kind", "one", "before", "up", "number", "leader", "fault", "at"] ["script"] (defScope s_law) := ⟨rfl, rfl, rfl, by decide +kernel, rfl, by decide +kernel, by decide +kernel⟩
def spLaw (K : PySem.W.Frag) (T : List NTab) : Sp := fun vs H Q _ => ∃ (a : Addr) (ns : List Int), vs = [.ref a] ∧ SqL K H a (ns.map V.int) ∧ ns.length ≤ 63 ∧ TabsN T H ∧ ∀ H', Q (.bl true) H'
structure TxBr (K : PySem.W.Frag) (mg : PySem.Str → Option Value) (CB : Addr) : Prop where
  mgB : mg "BadName" = some (.ref CB)
  xf : XfC K CB
  nN : PySem.W.findIn K (.ref CB) "name" = some none
  te : PySem.W.exmOne K (.ref CB) (.ref CB) = some true
structure TxW (K : PySem.W.Frag) (mg : PySem.Str → Option Value) (CC CK CN CS CB : Addr) : Prop extends TxL K mg CC CK CN CS where
  br : TxBr K mg CB
  tup : mg "tuple" = none
  eqS : PySem.W.findIn K (.ref CS) "__eq__" = some (some (.builtin "object.__eq__"))
  mrS : PySem.W.mroIn K CS (.type "object") = some true
section
variable {P : Program} {w : World} {K : PySem.W.Frag} {mg : PySem.Str → Option Value} {base : Heap} {CC CK CN CS CB : Addr} {TT : List NTab}
theorem ok_law {f : Addr} {fd : FuncData} (F : Fun K "law" "law" s_law f fd) (T : TxW K mg CC CK CN CS CB)
    (c_take : Cal P w K mg base 2 "_law_take" ["draw", "many"] (spTake K)) (c_pick : Cal P w K mg base 3 "_law_pick" ["draw", "items"] (spPick K)) (c_most_of : Cal P w K mg base 1 "most_of" ["many"] spMost)
    (c_Council : CalI P w K mg base CC 3 "Council" ["self", "many"] (spCnI K CC CK CS)) (c_begin : CalMX P w K mg base CC 4 "begin" ["self", "epoch"] (spBegin K CC CK CS CB TT)) (c_add : CalMX P w K mg base CS 4 "add" ["self", "entry"] (spAdd K CS CB))
    (c_csend : CalM P w K mg base CC 3 "send" ["self", "number"] (spSendC K CC CK CS TT)) (c_cflush : CalM P w K mg base CC 2 "flush" ["self", "number"] (spFlushC K CC CK CS TT)) (c_ex : CalM P w K mg base CC 6 "exchange" ["self", "number", "up"] (spExC K CC CK CS TT))
    (c_deliver : CalMX P w K mg base CC 6 "deliver" ["self", "at", "is_kept"] (spDeliverC K CC CK CS CB TT)) (c_csettled : CalM P w K mg base CC 4 "settled" ["self"] (spSetC K CC CK CS)) (c_settled : CalM P w K mg base CS 2 "settled" ["self"] (spSettled K CS)) :
    FnOk P w K mg base CX0 7 f fd ["script"] (spLaw K TT) := by
  refine F.ok sc_law (fun vs H Q E h => ?_) (fun cdv A outer s H vs Q E hr h => ?_)
  · obtain ⟨a, ns, rfl, _⟩ := h
    rfl
  · obtain ⟨a, ns, rfl, hs, hl, hT, k⟩ := h
    have hu := hu_of hr
    refine ⟨_, (pss_cons (ps_set (i := 1) sc_law.nd rfl (Or.inl rfl) (pe_lst (pa_cons (pv 0) (pa_cons pe_int pa_nil))))
      (pss_cons (ps_set (i := 2) sc_law.nd rfl (Or.inl rfl) (pe_op op_add pe_int (pe_cal c_take (hr.mono (by decide)) rfl (pa_cons (pv 1) (pa_cons pe_int pa_nil)))))
      (pss_cons (ps_par (i := 3) (j := 4) rfl sc_law.nd rfl rfl (by decide) rfl rfl (pa_cons (pe_calI c_Council (hr.mono (by decide)) rfl (pa_cons (pv 2) pa_nil)) (pa_cons pe_int pa_nil)) (by rfl))
      (pss_cons (ps_for PassesOwn.never rfl (pi_range1 (by rfl) T.co.range (pa_cons (pe_cal c_take (hr.mono (by decide)) rfl (pa_cons (pv 1) (pa_cons pe_int pa_nil))) pa_nil)) (pg_name (i := 5) sc_law.nd rfl (Or.inl rfl))
        (pss_cons (ps_set (i := 6) sc_law.nd rfl (Or.inl rfl) (pe_cal c_take (hr.mono (by decide)) rfl (pa_cons (pv 1) (pa_cons pe_int pa_nil))))
        (pss_one (ps_if (PW.pt (pw_and (pt_cmpR op_eq (pv 6) pe_int (nomark _)) (pw_and1 (pt_cmpR op_lt (pe_callB (call_len_seqK (K := K) rfl) (by rfl) T.co.len PySem.boot_len (pa_cons (pe_fld (pv 3) rfl) pa_nil)) pe_int (nomark _)))))
          (pss_one (ps_expr (pe_calMX (pv 3) T.co.cl c_begin (hr.mono (by decide)) noE (pa_cons (pe_op op_add (pe_op op_mul (pe_callB (call_len_seqK (K := K) rfl) (by rfl) T.co.len PySem.boot_len (pa_cons (pe_fld (pv 3) rfl) pa_nil)) pe_int) (pe_cal c_take (hr.mono (by decide)) rfl (pa_cons (pv 1) (pa_cons pe_int pa_nil)))) pa_nil))))
          (pss_one (ps_if (PW.pt (pw_and (pt_cmpR op_lt (pv 6) pe_int (nomark _)) (pw_and1 (pt_cmpR (op_neNil hr.units) (pe_fld (pv 3) rfl) (pe_lst pa_nil) (nomark _)))))
            (pss_cons (ps_set (i := 7) sc_law.nd rfl (Or.inl rfl) (pe_cal c_pick (hr.mono (by decide)) rfl (pa_cons (pv 1) (pa_cons (pe_fld (pv 3) rfl) pa_nil))))
            (pss_cons (ps_if (pt_cmpR op_eq (pe_fld (pv 7) rfl) pe_str (nomark _))
              (pss_cons (ps_aug (i := 4) sc_law.nd rfl (Or.inl rfl) pe_int ip_add)
              (pss_one (ps_expr (pe_calMX (pv 7) T.sq.cl c_add (hr.mono (by decide)) noE (pa_cons (pv 4) pa_nil)))))
              pss_nil)
            (pss_one (ps_expr (pe_calM (pv 3) T.co.cl c_csend (hr.mono (by decide)) (pa_cons (pe_cal c_take (hr.mono (by decide)) rfl (pa_cons (pv 1) (pa_cons (pe_callB (call_len_seqK (K := K) rfl) (by rfl) T.co.len PySem.boot_len (pa_cons (pe_fld (pv 3) rfl) pa_nil)) pa_nil))) pa_nil))))))
            (pss_one (ps_if (pt_cmpR op_eq (pv 6) pe_int (nomark _))
              (pss_one (ps_expr (pe_calM (pv 3) T.co.cl c_cflush (hr.mono (by decide)) (pa_cons (pe_cal c_take (hr.mono (by decide)) rfl (pa_cons (pv 1) (pa_cons (pv 2) pa_nil))) pa_nil))))
              (pss_one (ps_if (pt_cmpR (op_neNil hr.units) (pe_fld (pv 3) rfl) (pe_lst pa_nil) (nomark _))
                (pss_one (ps_expr (pe_calMX (pv 3) T.co.cl c_deliver (hr.mono (by decide)) noE (pa_cons (pe_cal c_take (hr.mono (by decide)) rfl (pa_cons (pv 1) (pa_cons (pe_callB (call_len_seqK (K := K) rfl) (by rfl) T.co.len PySem.boot_len (pa_cons (pe_fld (pv 3) rfl) pa_nil)) pa_nil))) (pa_cons (pe_cmpR op_eq (pe_cal c_take (hr.mono (by decide)) rfl (pa_cons (pv 1) (pa_cons pe_int pa_nil))) pe_int (nomark _)) pa_nil)))))
                pss_nil))))))))))
      (pss_cons (ps_set (i := 8) sc_law.nd rfl (Or.inl rfl) (pe_calM0 (pv 3) T.co.cl c_csettled (hr.mono (by decide))))
      (pss_cons (ps_set (i := 9) sc_law.nd rfl (Or.inl rfl) (pe_listRg rfl (by rfl) T.sq.list (prg_1 (by rfl) T.co.range (pv 2))))
      (pss_cons (ps_while PassesOwn.never (PW.pt (pw_and (pt_cmpR op_gt (pe_callB (call_len_seqK (K := K) rfl) (by rfl) T.co.len PySem.boot_len (pa_cons (pv 9) pa_nil)) (pe_cal c_most_of (hr.mono (by decide)) rfl (pa_cons (pv 2) pa_nil)) (nomark _)) (pw_and1 (pt_cmpR op_eq (pe_cal c_take (hr.mono (by decide)) rfl (pa_cons (pv 1) (pa_cons pe_int pa_nil))) pe_int (nomark _)))))
        (pss_one (ps_expr (pe_bm PySem.F.plainAttrs_list PySem.F.slot_list_pop PySem.F.type_list_pop mt_popAt (pv 9) (pa_cons (pe_cal c_take (hr.mono (by decide)) rfl (pa_cons (pv 1) (pa_cons (pe_callB (call_len_seqK (K := K) rfl) (by rfl) T.co.len PySem.boot_len (pa_cons (pv 9) pa_nil)) pa_nil))) pa_nil)))))
      (pss_cons (ps_set (i := 10) sc_law.nd rfl (Or.inl rfl) (pe_calMX (pv 3) T.co.cl c_begin (hr.mono (by decide)) noE (pa_cons pe_int pa_nil)))
      (pss_cons (ps_set (i := 11) sc_law.nd rfl (Or.inl rfl) (pe_ix ix_list (pe_fld (pv 3) rfl) (pv 10) (fun _ _ => rfl)))
      (pss_cons (ps_tryAs (i := 12) (Wout := fun _ _ _ _ => False) rfl rfl sc_law.nd rfl rfl ⟨by rfl, by decide, Or.inl T.br.mgB⟩ L2.takes0
          (fun W pn xe tk _ => pss_cons (ps_expr (pe_calMX (pv 11) T.sq.cl c_add (hr.mono (by decide)) (fun σ => passAt tk σ) (pa_cons pe_str pa_nil)))
            (pss_one (ps_ret pe_bl)))
          (fun a oe cls d pn hz hf => pss_one (ps_if (pt_cmpR op_ne (pe_xf T.br.xf T.br.nN hz hf (pv 12)) pe_str (nomark _)) (pss_one (ps_ret pe_bl)) pss_nil)))
      (pss_cons (ps_expr (pe_calM (pv 3) T.co.cl c_ex (hr.mono (by decide)) (pa_cons (pv 10) (pa_cons (pv 9) pa_nil))))
      (pss_cons (ps_if (PW.pt (pw_or (pt_cmpR op_ne (pe_fld (pv 11) rfl) pe_str (nomark _)) (pw_or1 (pt_cmpR (op_neD hr.units) (pe_tupleOf (by rfl) T.tup (pe_slice sl_list (pe_fld (pv 11) rfl) po_none (po_some (pe_callB (call_len_seqK (K := K) rfl) (by rfl) T.co.len PySem.boot_len (pa_cons (pv 8) pa_nil))))) (pv 8) (nomark _)))))
        (pss_one (ps_ret pe_bl))
        pss_nil)
      (pss_cons (ps_for PassesOwn.never rfl (pi_range1 (by rfl) T.co.range (pa_cons pe_int pa_nil)) (pg_name (i := 5) sc_law.nd rfl (Or.inl rfl))
        (pss_one (ps_expr (pe_calMX (pv 11) T.sq.cl c_add (hr.mono (by decide)) noE (pa_cons (pe_tup (pa_cons pe_str (pa_cons (pv 5) pa_nil))) pa_nil)))))
      (pss_cons (ps_for PassesOwn.never rfl (pi_range1 (by rfl) T.co.range (pa_cons (pe_callB (call_len_seqK (K := K) rfl) (by rfl) T.co.len PySem.boot_len (pa_cons (pe_fld (pv 11) rfl) pa_nil)) pa_nil)) (pg_name (i := 5) sc_law.nd rfl (Or.inl rfl))
        (pss_one (ps_expr (pe_calM (pv 3) T.co.cl c_ex (hr.mono (by decide)) (pa_cons (pv 10) (pa_cons (pv 9) pa_nil))))))
      (pss_cons (ps_if (PW.pt (pw_or (pt_cmpR (op_neD hr.units) (pe_calM0 (pv 3) T.co.cl c_csettled (hr.mono (by decide))) (pe_tupleOf (by rfl) T.tup (pe_fld (pv 11) rfl)) (nomark _)) (pw_or1 (pt_cmpR (op_neD hr.units) (pe_calM0 (pv 11) T.sq.cl c_settled (hr.mono (by decide))) (pe_tupleOf (by rfl) T.tup (pe_fld (pv 11) rfl)) (nomark _)))))
        (pss_one (ps_ret pe_bl))
        pss_nil)
      (pss_cons (ps_for PassesOwn.never rfl (pi_list (pe_slice sl_list (pe_fld (pv 3) rfl) po_none (po_some (pe_un un_neg pe_int)))) (pg_name (i := 7) sc_law.nd rfl (Or.inl rfl))
        (pss_one (ps_if (pt_cmpR op_eq (pe_fld (pv 7) rfl) pe_str (nomark _))
          (pss_cons (ps_expr (pe_calMX (pv 7) T.sq.cl c_add (hr.mono (by decide)) noE (pa_cons pe_str pa_nil)))
          (pss_cons (ps_set (i := 13) sc_law.nd rfl (Or.inl rfl) (pe_bm PySem.F.plainAttrs_list PySem.F.slot_list_index PySem.F.type_list_index (mt_indexO T.eqS T.mrS hr.units) (pe_fld (pv 3) rfl) (pa_cons (pv 7) pa_nil)))
          (pss_cons (ps_for PassesOwn.never rfl (pi_range1 (by rfl) T.co.range (pa_cons (pe_op op_add (pe_callB (call_len_seqK (K := K) rfl) (by rfl) T.co.len PySem.boot_len (pa_cons (pe_fld (pv 7) rfl) pa_nil)) pe_int) pa_nil)) (pg_name (i := 5) sc_law.nd rfl (Or.inl rfl))
            (pss_one (ps_expr (pe_calM (pv 3) T.co.cl c_ex (hr.mono (by decide)) (pa_cons (pv 13) (pa_cons (pv 9) pa_nil))))))
          (pss_one (ps_if (PW.pt (pw_or (pt_cmpR (op_neD hr.units) (pe_calM0 (pv 3) T.co.cl c_csettled (hr.mono (by decide))) (pe_tupleOf (by rfl) T.tup (pe_fld (pv 11) rfl)) (nomark _)) (pw_or1 (PW.pt (pw_and (pt_cmpR op_ne (pe_fld (pv 7) rfl) pe_str (nomark _)) (pw_and1 (pt_cmpR (op_neD hr.units) (pe_calM0 (pv 7) T.sq.cl c_settled (hr.mono (by decide))) (pe_slice sl_tupA (pe_tupleOf (by rfl) T.tup (pe_fld (pv 11) rfl)) po_none (po_some (pe_callB (call_len_seqK (K := K) rfl) (by rfl) T.co.len PySem.boot_len (pa_cons (pe_calM0 (pv 7) T.sq.cl c_settled (hr.mono (by decide))) pa_nil)))) (nomark _))))))))
            (pss_one (ps_ret pe_bl))
            pss_nil)))))
          pss_nil)))
      (pss_one (ps_ret pe_bl))))))))))))))))))
, ?_⟩
    refine ⟨_, rfl, (by show 2 ≤ sizeLine; decide), fun d hd => ?_⟩
    have W : D40 K TT d a [] [d] (upd H d (.lst [.ref a, .int 0])) (upd H d (.lst [.ref a, .int 0])) := ⟨Dz.mk' (j := 0) hs hl hd, TabsN.ext hT (H' := upd H d (.lst [.ref a, .int 0])) (fun b o z => (Ex.new hd) b o z), fun _ h => (nomatch h), .head _, fun _ _ z _ _ => z, fun _ z => z, Ks.refl _⟩
    generalize upd H d (.lst [.ref a, .int 0]) = H1 at W ⊢
    clear hs hl hd hT
    have eσ : (L2.start ["script", "draw", "many", "council", "word", "turn", "kind", "one", "before", "up", "number", "leader", "fault", "at"] [.ref a]).set 1 (some (.ref d)) = [some (.ref a), some (.ref d), none, none, none, none, none, none, none, none, none, none, none, none] := rfl
    dsimp only [gName]
    rw [eσ]
    clear eσ
    refine ⟨_, rfl, [d], d, a, 5, rfl, W.dz.dr, by decide, fun v H3 v0 v5 D3 k3 => ⟨1, v, rfl, rfl, ?_⟩⟩
    have W := W.draw D3 k3
    obtain ⟨m, em⟩ : ∃ m : Nat, 1 + v = (m : Int) := ⟨(1 + v).toNat, by omega⟩
    dsimp only [gName]
    rw [em]
    have m1 : 1 ≤ m := by omega
    have m5 : m ≤ 5 := by omega
    clear em v0 v5 v D3 k3
    dsimp only [List.set]
    refine ⟨_, rfl, fun c dx hc0 hdx npx => ⟨c, dx, m, rfl, upd_same, by omega, fun ll g1 H4 CN hll hg kp ks => ⟨rfl, ?_⟩⟩⟩
    have x34 : Ex H3 H4 := fun b o z => by
      have nb : b ≠ c := ne_of_none z hc0
      exact kp b o (by rw [upd_ne nb, upd_ne (ne_of_none z hdx)]; exact z) (by simpa using nb)
    have new : ∀ b ∈ c :: ll :: g1.all, H3 b = none := fun b hb => by
      have bk : ∀ u, (upd (upd H3 dx (.own c)) c (.ins CC dx [])) u = none → H3 u = none := fun u hu => upd_back (upd_back hu)
      rcases List.mem_cons.mp hb with rfl | hb
      · exact hc0
      · rcases List.mem_cons.mp hb with rfl | hb
        · exact bk _ hll
        · exact bk _ (hg b hb)
    have W := W.coun x34 CN new
    clear CN x34 new kp ks hll hg hc0 hdx npx
    refine ⟨_, _, rfl, ?_⟩
    dsimp only [List.set]
    refine ⟨_, rfl, [d], d, a, 60, rfl, W.dz.dr, by decide, fun v H7 v0 v60 D7 k7 => ⟨v, rfl, by omega, by omega, ?_⟩⟩
    have W := W.draw D7 k7
    clear D7 k7
    refine for_range (lo := 0) (n := v.toNat) (fun i σ' H' => ∃ (o5 o6 o7 : Option V) (g : Sf) (v : Cw) (ls : List Ltr) (n : Int), σ' = [some (.ref a), some (.ref d), some (.int m), some (.ref c), some (.int n), o5, o6, o7, none, none, none, none, none, none] ∧ W40 K CC CK CS TT d a c ll [] [d] H1 g v ls H' ∧ P41 i (65 * i) i m v ls) ?_ ?_ ?_
    · exact ⟨none, none, none, g1, _, _, 0, rfl, W, P41.start (by omega)⟩
    · rintro i σ' H8 hi ⟨o5, o6, o7, g, w1, ls, n, rfl, W, PP⟩
      have hi : i < 60 := by omega
      dsimp only [gName, List.set]
      have lks := PP.p.ok.len
      have hll := PP.p.ll
      have hn4 := PP.n4
      have fin : ∀ {o7 : Option V} {kd n' : Int} {g' : Sf} {w' : Cw} {ls' : List Ltr} {H' : Hp}, W40 K CC CK CS TT d a c ll [] [d] H1 g' w' ls' H' → P41 (i + 1) (65 * (i + 1)) (i + 1) m w' ls' → ∃ (o5 o6 o7' : Option V) (g : Sf) (v : Cw) (ls : List Ltr) (n : Int), [some (.ref a), some (.ref d), some (.int m), some (.ref c), some (.int n'), some (.int (0 + (i : Int))), some (.int kd), o7, none, none, none, none, none, none] = [some (.ref a), some (.ref d), some (.int m), some (.ref c), some (.int n), o5, o6, o7', none, none, none, none, none, none] ∧ W40 K CC CK CS TT d a c ll [] [d] H1 g v ls H' ∧ P41 (i + 1) (65 * (i + 1)) (i + 1) m v ls := fun {o7 kd n' g' w' ls' H'} W' P' => ⟨_, _, _, g', w', ls', n', rfl, W', P'⟩
      refine q_takeD W40.dws (di := 1) rfl ev_c (by decide) W fun kd H9 _ _ W _ => ?_
      dsimp only [List.set]
      refine s_if (et_and (et_test (ev_op (ev_var rfl) ev_c (rv_eq rfl))) fun _ => et_test (ev_op (W.ev_nseq T.co (ev_var rfl)) ev_c rv_I0)) (fun hb H10 x10 => ?_) fun _ H10 x10 => ?_
      · -- a sequencer begins
        have W := W.ex x10
        have hlen : w1.ss.length < 4 := by
          rw [Bool.and_eq_true] at hb
          have := of_decide_eq_true hb.2
          omega
        obtain ⟨dxc, hc⟩ := W.c_at
        refine ⟨_, rfl, c, dxc, _, rfl, hc, rfl, ?_⟩
        have evm := ev_op (W.ev_nseq (σ := [some (.ref a), some (.ref d), some (.int m), some (.ref c), some (.int n), some (.int (0 + (i : Int))), some (.int kd), o7, none, none, none, none, none, none]) (tc := tVar 3) T.co (ev_var rfl)) (ev_c (v := .int 3)) (r := rI CMul fun i j => V.int (i * j)) (z := .int ((w1.ss.length : Int) * 3)) (fun H1 e Q q => ⟨_, _, rfl, rfl, .inr ⟨by decide, by decide⟩, q H1 (Ex.refl _)⟩)
        refine evm _ (Ex.refl _) _ fun H11 x11 => ?_
        have W := W.ex x11
        refine ⟨_, rfl, [d], d, a, 3, rfl, W.dz.dr, by decide, fun t H12 t0 t3 D12 k12 => ⟨_, _, rfl, rfl, ?_⟩⟩
        have W := W.draw D12 k12
        have ee : (w1.ss.length : Int) * 3 + t = 3 * (w1.ss.length : Int) + t := by omega
        dsimp only
        rw [ee]
        refine ⟨c, ll, g, w1, ls, .int (3 * (w1.ss.length : Int) + t), rfl, W.cn, by omega, by omega, W.tb, .inl ⟨_, rfl, by omega, by omega, PP.free t0, fun g' H13 cp => ?_⟩⟩
        have W := W.cou cp
        rw [lks] at W
        exact fin W ((PP.begin hlen t0 t3).mono (by omega) (by omega) (by omega))
      · have W := W.ex x10
        refine s_if (et_and (et_test (ev_op (ev_var rfl) ev_c rv_I0)) fun _ => W.et_nes T.co (ev_var rfl)) (fun hb H11 x11 => ?_) fun _ H11 x11 => ?_
        · -- one sends
          have W := W.ex x11
          have hne : 0 < w1.ss.length := by
            rw [Bool.and_eq_true] at hb
            have := hb.2
            cases e : w1.ss with
            | nil => rw [e] at this; cases this
            | cons x xs => exact Nat.succ_pos _
          have lfs := Paired.length W.cn.sd.ps
          refine ⟨_, rfl, W.ev_seqs (tc := tVar 3) T.co (ev_var rfl) _ (Ex.refl _) _ fun H12 x12 => ?_⟩
          have W := W.ex x12
          have nsd : g.sl ≠ d := fun e => W.d_off (by rw [← e]; exact List.mem_append.mpr (.inr (.tail _ (.tail _ (mem_all.mpr (.inr (.inl rfl)))))))
          refine ⟨[d], d, a, g.sl, _, rfl, W.dz.dr, by rw [List.length_map]; omega, fun H' kp => .inl (SqL.of (kp _ _ W.cn.sd.hs (by simpa using nsd))), fun j x H13 hj D13 k13 => ?_⟩
          have W := W.draw D13 k13
          rw [List.getElem?_map] at hj
          obtain ⟨z, hz, rfl⟩ := Option.map_eq_some_iff.mp hj
          have hjl : j < w1.ss.length := by
            rw [← lfs]
            exact (List.getElem?_eq_some_iff.mp hz).1
          have hs := List.getElem?_eq_getElem hjl
          generalize w1.ss[j] = sq at hs
          have SQ := prd_get W.cn.sd.ps hz hs
          dsimp only [List.set, gName]
          refine q_join (fun σ' H' => ∃ (n' : Int) (g' : Sf) (v' : Cw), σ' = [some (.ref a), some (.ref d), some (.int m), some (.ref c), some (.int n'), some (.int (0 + (i : Int))), some (.int kd), some (.ref z.a), none, none, none, none, none, none] ∧ W40 K CC CK CS TT d a c ll [] [d] H1 g' v' ls H' ∧ P41 (i + 1) (65 * i) (i + 1) m v' ls ∧ v'.ss.length = w1.ss.length) ?_ ?_
          · rintro σ' H14 ⟨n', g2, w2, rfl, W, PP, el⟩
            obtain ⟨dxc, hc⟩ := W.c_at
            refine ⟨_, rfl, c, dxc, _, rfl, hc, rfl, _, rfl, ?_⟩
            refine W.ev_nseq (tc := tVar 3) T.co (ev_var rfl) _ (Ex.refl _) _ fun H15 x15 => ?_
            have W := W.ex x15
            refine ⟨[d], d, a, _, rfl, W.dz.dr, by omega, fun vb H16 v0 v1 D16 k16 => ?_⟩
            have W := W.draw D16 k16
            obtain ⟨j2, rfl⟩ : ∃ j2 : Nat, vb = (j2 : Int) := ⟨vb.toNat, by omega⟩
            have hj2 : j2 < w2.ss.length := by omega
            have hs2 := List.getElem?_eq_getElem hj2
            generalize w2.ss[j2] = sq2 at hs2
            have hll := PP.p.ll
            refine ⟨c, ll, g2, w2, ls, i + 1, m, j2, sq2, rfl, W.cn, PP.p.ok, by omega, by omega, by omega, W.tb, hs2, fun g3 H17 cp => ?_⟩
            exact fin (W.cou cp) ((PP.send hs2).mono (by omega) (by omega) (by omega))
          · intro join
            obtain ⟨dxs, hzs⟩ := SQ.self
            refine s_if (b := decide (sq.st = .leading)) (by rw [← st_lead]; exact et_test (ev_op (ev_fld (ev_var (i := 7) rfl) hzs T.sq.cl T.sq.nSt rfl) ev_c (rv_eq rfl))) (fun hl H14 x14 => ?_) fun _ H14 x14 => ?_
            · have hl := of_decide_eq_true hl
              have W := W.ex x14
              have SQ := SQ.same x14
              refine q_aug (i := 4) rfl ev_c fun H15 x15 => ?_
              have W := W.ex x15
              have SQ := SQ.same x15
              obtain ⟨dxs, hzs⟩ := SQ.self
              have sok := PP.p.ok.ss sq (List.mem_of_getElem? hs)
              have hlen : sq.row.length ≤ 90000 := by have := sok.len; omega
              dsimp only [List.set]
              refine ⟨_, rfl, z.a, dxs, _, rfl, hzs, rfl, _, rfl, z, sq, .int (n + 1), .int (n + 1), rfl, SQ, .int _, .inl ⟨hl, hlen, fun H16 SQ' kp ks => ?_⟩⟩
              obtain ⟨g', br⟩ := BrP.row (TT := TT) W.cn.sd W.tb hz SQ SQ' kp ks
              exact join _ _ ⟨n + 1, g', _, rfl, W.cou (CnP.br W.cn br), PP.add hs hl trivial, by show (w1.ss.set _ _).length = _; rw [List.length_set]⟩
            · exact join _ _ ⟨n, g, w1, rfl, W.ex x14, PP.mono (by omega) (by omega) (by omega), rfl⟩
        · have W := W.ex x11
          refine s_if (et_test (ev_op (ev_var rfl) ev_c (rv_eq rfl))) (fun _ H12 x12 => ?_) fun _ H12 x12 => ?_
          · -- a keeper settles
            have W := W.ex x12
            obtain ⟨dxc, hc⟩ := W.c_at
            refine ⟨_, rfl, c, dxc, _, rfl, hc, rfl, _, rfl, _, rfl, [d], d, a, m, rfl, W.dz.dr, by omega, fun vb H13 v0 v1 D13 k13 => ?_⟩
            have W := W.draw D13 k13
            obtain ⟨j, rfl⟩ : ∃ j : Nat, vb = (j : Int) := ⟨vb.toNat, by omega⟩
            have hjl : j < w1.ks.length := by omega
            have hk := List.getElem?_eq_getElem hjl
            generalize w1.ks[j] = ke at hk
            refine ⟨c, ll, g, w1, ls, i, m, j, ke, rfl, W.cn, PP.p.ok, by omega, by omega, by omega, W.tb, hk, fun g' H14 cp => ?_⟩
            exact fin (W.cou cp) ((PP.flush hk).mono (by omega) (by omega) (by omega))
          · have W := W.ex x12
            obtain ⟨us, hlU, dus⟩ := W.cn.lt
            have lus : us.length = ls.length := by rw [dpA_len dus, List.length_map]
            refine s_when (et_neN (W.ev_lets T.co (ev_var rfl)) hlU) (fun hb H13 x13 => ?_) fun _ H13 x13 => fin (W.ex x13) (PP.mono (by omega) (by omega) (by omega))
            have W := W.ex x13
            have hpos : 0 < ls.length := by
              rw [← lus]
              cases us with
              | nil => cases hb
              | cons x xs => exact Nat.succ_pos _
            obtain ⟨dxc, hc⟩ := W.c_at
            refine ⟨_, rfl, c, dxc, _, rfl, hc, rfl, _, rfl, ?_⟩
            refine W.ev_nlet (tc := tVar 3) T.co (ev_var rfl) _ (Ex.refl _) _ fun H14 x14 => ?_
            have W := W.ex x14
            refine ⟨[d], d, a, _, rfl, W.dz.dr, by omega, fun vb H15 v0 v1 D15 k15 => ?_⟩
            have W := W.draw D15 k15
            obtain ⟨j, rfl⟩ : ∃ j : Nat, vb = (j : Int) := ⟨vb.toNat, by omega⟩
            have hjl : j < ls.length := by omega
            have hl := List.getElem?_eq_getElem hjl
            generalize ls[j] = lt at hl
            have hlm := List.mem_of_getElem? hl
            have few : ∀ l ∈ ls.eraseIdx j, l ∈ ls := fun l hl => List.mem_of_mem_eraseIdx hl
            have fewl : (ls.eraseIdx j).length ≤ ls.length := by rw [List.length_eraseIdx_of_lt hjl]; omega
            refine ⟨_, rfl, [d], d, a, 4, rfl, W.dz.dr, by decide, fun v4 H16 v0 v1 D16 k16 => ⟨rfl, ?_⟩⟩
            have W := W.draw D16 k16
            refine ⟨c, ll, g, w1, ls, i, m, .int j, decide (V.int v4 = V.int 0), rfl, W.cn, PP.p.ok, by omega, by omega, by omega, W.tb, .inl ⟨j, lt, rfl, hl, PP.p.lk lt hlm, fun g' H17 cp => ?_⟩⟩
            have P2 := (PP.bring hlm).mono (B' := i + 1) (L' := 65 * (i + 1)) (r' := i + 1) (by omega) (by omega) (by omega)
            refine fin (W.cou cp) ?_
            split
            · exact P2
            · exact P2.fewer few fewl
    · rintro σ' H8 ⟨o5, o6, o7, g, w1, ls, n, rfl, W, PP⟩
      have PP : P41 60 4000 60 m w1 ls := PP.mono (by omega) (by omega) (by omega)
      have n4 := PP.n4
      have lks := PP.p.ok.len
      dsimp only
      obtain ⟨dxc, hc⟩ := W.c_at
      refine ⟨_, rfl, c, dxc, _, rfl, hc, rfl, c, ll, g, w1, ls, 60, m, rfl, W.cn, PP.p.ok, by omega, by omega, fun q H9 R hq s9 rowS lR okR tdq => ?_⟩
      have W := W.ex s9
      dsimp only [gName, List.set]
      refine q_lstR (ev_var (i := 2) rfl) (by omega) fun u H10 x10 hu10 => ?_
      have T1 : T40 K CC CK CS TT d a c ll q [] [d] H1 g w1 ls R H10 := ⟨W.ex x10, tdq.ks (Ks.same x10) (tpAE _)⟩
      have L10 := less_new (o := .lst ((List.range m).map vN)) T40.dws T1 hu10
      dsimp only [List.set]
      refine q_pop2 T40.dws (ui := 9) (di := 1) (gi := 2) (n := m) rfl rfl rfl L10 upd_same (fun x hx => List.mem_range.mp hx) List.nodup_range (by rw [List.length_range]; unfold most; omega) (by rw [List.length_range]; omega) fun up H11 T11 hu11 hup nd mj hl1 => ?_
      have X0 : X41 K CC CK CS TT c ll [] [] g w1 ls (less H11 u) := ⟨T11.W.cn, T11.W.tb, fun _ h => (nomatch h), fun _ h => (nomatch h)⟩
      have X := X0.own less_ex less_at hu11
      have tdq := T11.la.ks (Ks.same less_ex) (tpAE _)
      clear X0 T11 T1 L10 hu10 x10 W hu11
      obtain ⟨P2, sl, hsl, ldl, Z, eR⟩ := PP.first nd hup mj rowS
      have hE : (50 : Int) ∉ w1.ss.map (·.ep) := fun z => by
        obtain ⟨s, hs, e⟩ := List.mem_map.mp z
        have := PP.eb.ss s hs
        have e : s.ep = 50 := e
        omega
      obtain ⟨dxc, hc⟩ := X.c_at
      refine ⟨_, rfl, c, dxc, _, rfl, hc, rfl, c, ll, g, w1, ls, .int 50, rfl, X.cn, by omega, by omega, X.tb, .inl ⟨50, rfl, by decide, by decide, hE, fun g2 H12 cp => ?_⟩⟩
      have X := X.cou cp
      have tdq := tdq.ks cp.ks (tpAE _)
      rw [lks] at X
      clear cp hc
      generalize hw2 : (⟨w1.ks, w1.ss ++ [SqS.new 50 m]⟩ : Cw) = w2 at P2 hsl Z X
      have hs2 : w2.ss[w1.ss.length]? = some (SqS.new 50 m) := by
        rw [← hw2]
        show (w1.ss ++ _)[_]? = _
        rw [List.getElem?_append_right (Nat.le_refl _), Nat.sub_self]; rfl
      generalize hN : w1.ss.length = N at hsl Z n4 hs2
      dsimp only [gName, List.set]
      obtain ⟨z, hz, SQ⟩ := X.cn.sd.sget hs2
      obtain ⟨dxc, hc⟩ := X.c_at
      refine q_asg (ev_op (ev_fld (ev_var (i := 3) rfl) hc T.co.cl T.co.nSe rfl) (ev_var (i := 10) rfl) (rv_ixL (SqL.of X.cn.sd.hs) (atN (j := N) rfl (by rw [List.getElem?_map, hz]; rfl)))) fun H13 x13 => ?_
      have X := (X.mark hz).ex x13
      have tdq := tdq.ks (Ks.same x13) (tpAE _)
      have SQ := SQ.same x13
      clear hc
      dsimp only [List.set]
      obtain ⟨dxs, hzs⟩ := SQ.self
      refine ⟨_, rfl, z.a, dxs, _, rfl, hzs, rfl, z, SqS.new 50 m, .str "early", .str "early", rfl, SQ, .str _, .inr ⟨(fun e => nomatch e), fun d2 H14 s14 hd2 => ?_⟩⟩
      have X := X.ex s14
      have tdq := tdq.ks (Ks.same s14) (tpAE _)
      clear SQ hzs
      refine ⟨true, T.br.te, fun _ a0 _ => ?_, fun q => Bool.noConfusion q⟩
      refine ⟨_, rfl, rfl, rfl, d2, _, _, rfl, hd2, rfl, rfl, _, rfl, ?_⟩
      refine ite2 (fun h => absurd h (by decide)) (fun _ => ?_)
      dsimp only [tNext, List.set]
      refine X.q_exch (ni := 10) (B := 60) (m := m) (.head _) P2.ok hup hl1 (by omega) (by omega) hs2 rfl rfl rfl fun g3 H15 X ks15 => ?_
      have tdq := tdq.ks ks15 (tpAE _)
      generalize hw3 : w2.exchange N up = w3 at hsl Z X
      -- it leads, with all that was settled
      have leL : R.length ≤ sl.row.length := by
        have := congrArg List.length eR
        rw [List.length_take] at this
        omega
      have e1 : EvT (tTest (tOp rNe (tFld K (tVar 11) "stand") (tC (.str "leading")))) [some (.ref a), some (.ref d), some (.int m), some (.ref c), some (.int n), o5, o6, o7, some (.ref q), some (.ref u), some (.int (N : Nat)), some (.ref z.a), none, none] H15 false := by
        have := et_test (ev_op (X.ev_stand T.sq (i := N) (la := z.a) (te := tVar 11) (σ := [some (.ref a), some (.ref d), some (.int m), some (.ref c), some (.int n), o5, o6, o7, some (.ref q), some (.ref u), some (.int (N : Nat)), some (.ref z.a), none, none]) (.head _) hsl (ev_var rfl)) (ev_c (v := .str "leading")) (rv_ne rfl))
        rw [ldl] at this
        exact this
      have e2 : EvTD K (tThen (tSl (rSlL K) (tFld K (tVar 11) "row") tNoPart (tPart (tCB (rLenS K) (tCons (tVar 8) tNil)))) (kTup K)) [some (.ref a), some (.ref d), some (.int m), some (.ref c), some (.int n), o5, o6, o7, some (.ref q), some (.ref u), some (.int (N : Nat)), some (.ref z.a), none, none] H15 (R.map En.d) := by
        obtain ⟨r, evr, ldr⟩ := X.ev_row T.sq (i := N) (la := z.a) (te := tVar 11) (σ := [some (.ref a), some (.ref d), some (.int m), some (.ref c), some (.int n), o5, o6, o7, some (.ref q), some (.ref u), some (.int (N : Nat)), some (.ref z.a), none, none]) (.head _) hsl (ev_var rfl)
        obtain ⟨us, hus, dus⟩ := id tdq
        have lus : us.length = R.length := by rw [dpA_len dus, List.length_map]
        have evl := ev_lenT (K := K) (σ := [some (.ref a), some (.ref d), some (.int m), some (.ref c), some (.int n), o5, o6, o7, some (.ref q), some (.ref u), some (.int (N : Nat)), some (.ref z.a), none, none]) (ev_var (i := 8) rfl) (SqT.of hus)
        rw [lus] at evl
        have h0 := eld_sl evr ldr (tpAE _) evl (by rw [List.length_map]; exact leL)
        rw [← List.map_take, ← eR] at h0
        exact etd_tup h0 (tpAE _)
      refine q_when (b := false || false) (et_or e1 fun _ => et_neRV e2 (ev_var (i := 8) rfl) tdq okR) (fun hb => by cases hb) fun _ H16 x16 => ?_
      have X := X.ex x16
      clear e1 e2 tdq leL hw2 hw3 P2 eR ldl
      -- three new deeds
      refine q_forR1 (n := 3) (ea_cons ev_c ea_nil) ⟨by decide, by decide⟩ (fun i σ' H' => ∃ (o5 : Option V) (g : Sf) (v : Cw) (L : List En), σ' = [some (.ref a), some (.ref d), some (.int m), some (.ref c), some (.int n), o5, o6, o7, some (.ref q), some (.ref u), some (.int (N : Nat)), some (.ref z.a), none, none] ∧ X41 K CC CK CS TT c ll [(u, up.map vN)] [(N, z.a)] g v ls H' ∧ Z41 m N L up 0 (65 + i) (60 + i) v ls) (fun H17 x17 => ⟨_, _, _, _, rfl, X.ex x17, Z.mono (by omega) (by omega)⟩) ?_ ?_
      · rintro i σ' H17 hi ⟨o5, g4, v, L, rfl, X, Z⟩
        obtain ⟨s4, hs4, hl4, er4⟩ := Z.get
        have lenL := Z.len
        dsimp only [List.set]
        refine X.add (x := .tag "new" i) (.head _) hs4 hl4 (by rw [er4]; omega) rfl (fun Q k => ?_) fun g' H18 X _ => ⟨_, g', _, L ++ [.tag "new" i], rfl, X, (Z.add hs4 (new_ok _)).mono (by omega) (by omega)⟩
        exact ⟨_, rfl, (by show 2 ≤ sizeLine; decide), fun t ht => k _ _ (Ex.new ht) (.tup (SqT.of upd_same) (.cons (.str _) (.cons (.int _) .nil)))⟩
      rintro σ' H17 ⟨o5, g4, v, L, rfl, X, Z⟩
      have Z : Z41 m N L up 0 68 63 v ls := Z
      obtain ⟨s4, hs4, hl4, er4⟩ := Z.get
      have lenL := Z.len
      have evl := X.ev_len T.sq (i := N) (la := z.a) (te := tVar 11) (σ := [some (.ref a), some (.ref d), some (.int m), some (.ref c), some (.int n), o5, o6, o7, some (.ref q), some (.ref u), some (.int (N : Nat)), some (.ref z.a), none, none]) (.head _) hs4 (ev_var rfl)
      rw [er4] at evl
      clear hs4 hl4 er4
      refine q_forR1 (n := ((L.length : Nat) : Int)) (ea_cons evl ea_nil) ⟨by omega, by omega⟩ (fun i σ' H' => ∃ (o5 : Option V) (g : Sf) (v : Cw), σ' = [some (.ref a), some (.ref d), some (.int m), some (.ref c), some (.int n), o5, o6, o7, some (.ref q), some (.ref u), some (.int (N : Nat)), some (.ref z.a), none, none] ∧ X41 K CC CK CS TT c ll [(u, up.map vN)] [(N, z.a)] g v ls H' ∧ Z41 m N L up i (68 + 5 * i) 63 v ls) (fun H18 x18 => ⟨_, _, _, rfl, X.ex x18, Z⟩) ?_ ?_
      · rintro i σ' H18 hi ⟨o5, g5, v, rfl, X, Z⟩
        have hi : i < L.length := by omega
        obtain ⟨s5, hs5, _, _⟩ := Z.get
        dsimp only [List.set]
        exact X.exch (ni := 10) (.head _) Z.p.ok hup hl1 (by omega) (by omega) hs5 rfl rfl rfl fun g' H19 X _ => ⟨_, g', _, rfl, X, (Z.exch hi).mono (by omega) (Nat.le_refl _)⟩
      clear evl
      rintro σ' H18 ⟨o5, g5, v, rfl, X, Z⟩
      rw [Int.toNat_natCast] at Z
      have Y := (Z.done (Nat.le_refl _)).mono (B' := 400) (r' := 63) (by omega) (Nat.le_refl _)
      obtain ⟨s5, hs5, _, er5⟩ := Z.get
      have es5 := Z.lv.settled Z.p.sf (Nat.le_refl _) hs5 Z.p.pos
      have okL := Y.okL
      clear Z
      have t1 := X.etd_row T.sq (i := N) (la := z.a) (te := tVar 11) (σ := [some (.ref a), some (.ref d), some (.int m), some (.ref c), some (.int n), o5, o6, o7, some (.ref q), some (.ref u), some (.int (N : Nat)), some (.ref z.a), none, none]) (.head _) hs5 (ev_var rfl)
      have t2 := X.etd_setS (σ := [some (.ref a), some (.ref d), some (.int m), some (.ref c), some (.int n), o5, o6, o7, some (.ref q), some (.ref u), some (.int (N : Nat)), some (.ref z.a), none, none]) (te := tVar 11) Y.p.ok (by omega) (by omega) (i := N) (la := z.a) (.head _) hs5 (ev_var rfl)
      have t3 := X.etd_setC (σ := [some (.ref a), some (.ref d), some (.int m), some (.ref c), some (.int n), o5, o6, o7, some (.ref q), some (.ref u), some (.int (N : Nat)), some (.ref z.a), none, none]) (te := tVar 3) Y.p (by omega) (by omega) Y.rowS (ev_var rfl)
      rw [er5] at t1
      rw [es5] at t2
      refine q_when (b := false || false) (et_or (et_neRR t3 t1 okL) fun _ => et_neRR t2 t1 okL) (fun hb => by cases hb) fun _ H19 x19 => ?_
      have X := X.ex x19
      clear t1 t2 t3 es5
      -- older ones that lead
      have lfs : g5.fs.length = N + 1 := by rw [Paired.length X.cn.sd.ps, Y.n]
      obtain ⟨dxc, hc⟩ := X.c_at
      have evs := el_sl (K := K) (ev_fld (σ := [some (.ref a), some (.ref d), some (.int m), some (.ref c), some (.int n), o5, o6, o7, some (.ref q), some (.ref u), some (.int (N : Nat)), some (.ref z.a), none, none]) (ev_var (i := 3) rfl) hc T.co.cl T.co.nSe rfl) eo_none (eo_some (ev_un (ev_c (v := .int 1)) ru_neg)) (SqL.of X.cn.sd.hs)
      rw [cut_last, List.length_map, lfs, Nat.add_sub_cancel] at evs
      refine q_forNLn evs (fun p i σ' H' => ∃ (o5 o7 o13 : Option V) (g : Sf) (v : Cw), σ' = [some (.ref a), some (.ref d), some (.int m), some (.ref c), some (.int n), o5, o6, o7, some (.ref q), some (.ref u), some (.int (N : Nat)), some (.ref z.a), none, o13] ∧ X41 K CC CK CS TT c ll [(p, (g5.fs.map fun z => V.ref z.a).take N), (u, up.map vN)] (allF g5 ++ [(N, z.a)]) g v ls H' ∧ Y41 m N L (400 + 400 * i) (63 + i) v ls) (fun p H20 hp x20 hp20 => ⟨_, _, _, _, _, rfl, X.all.own x20 hp hp20, Y⟩) (fun p i σ' H' _ h => by obtain ⟨_, _, _, _, _, _, X, _⟩ := h; exact SqL.of (X.ow _ (.head _)).1) ?_ ?_
      · rintro p i x σ' H20 hx ⟨o5, o7, o13, g6, v6, rfl, X, Y⟩
        rw [List.getElem?_take] at hx
        have hiN : i < N := by
          by_cases c : i < N
          · exact c
          · rw [if_neg c] at hx; cases hx
        rw [if_pos hiN, List.getElem?_map] at hx
        obtain ⟨z0, hz0, rfl⟩ := Option.map_eq_some_iff.mp hx
        have hf : (i, z0.a) ∈ allF g5 ++ [(N, z.a)] := List.mem_append.mpr (.inl (allF_mem hz0))
        have hfN : (N, z.a) ∈ allF g5 ++ [(N, z.a)] := List.mem_append.mpr (.inr (.head _))
        have hil : i < v6.ss.length := by rw [Y.n]; omega
        have hs6 := List.getElem?_eq_getElem hil
        generalize v6.ss[i] = sq at hs6
        dsimp only [List.set]
        have evst := X.ev_stand T.sq (te := tVar 7) (σ := [some (.ref a), some (.ref d), some (.int m), some (.ref c), some (.int n), o5, o6, some (.ref z0.a), some (.ref q), some (.ref u), some (.int (N : Nat)), some (.ref z.a), none, o13]) hf hs6 (ev_var rfl)
        refine s_when (b := decide (sq.st = .leading)) (by rw [← st_lead]; exact et_test (ev_op evst ev_c (rv_eq rfl))) (fun hl H21 x21 => ?_) fun _ H21 x21 => ⟨_, _, _, _, _, rfl, X.ex x21, Y.mono (by omega) (by omega)⟩
        have hl := of_decide_eq_true hl
        have X := X.ex x21
        clear evst
        have lsq := Y.rl sq (List.mem_of_getElem? hs6)
        refine X.q_add (li := 7) (x := .str "late") hf hs6 hl (by omega) rfl (fun Q k => k _ _ (Ex.refl _) (.str _)) fun g7 H22 X _ => ?_
        have Y := Y.add hs6 hl (by omega) late_ok (x := .str "late")
        have hs7 : (v6.ss.set i (sq.add (.str "late")))[i]? = some (sq.add (.str "late")) := List.getElem?_set_self hil
        have hs7 : (⟨v6.ks, v6.ss.set i (sq.add (.str "late"))⟩ : Cw).ss[i]? = some (sq.add (.str "late")) := hs7
        have lsq7 := Y.rl _ (List.mem_of_getElem? hs7)
        generalize (⟨v6.ks, v6.ss.set i (sq.add (.str "late"))⟩ : Cw) = v7 at X Y hs7
        generalize sq.add (.str "late") = sq7 at hs7 lsq7
        -- its place
        obtain ⟨dxc, hc⟩ := X.c_at
        obtain ⟨z7, hz7, ez7, SQ7⟩ := X.seq hf hs7
        refine ⟨_, rfl, c, CC, dxc, _, _, rfl, hc, T.co.cl, T.co.nSe, rfl, .inl ⟨rfl, _, SqL.of X.cn.sd.hs⟩, _, rfl, g7.sl, g7.fs.map (·.a), z0.a, i, rfl, rfl, ?_, fun b hb => ?_, fs_nodup X.cn.sd, by rw [List.getElem?_map, hz7, ← ez7]; rfl, ?_⟩
        · rw [List.map_map]
          exact SqL.of X.cn.sd.hs
        · obtain ⟨y, hy, rfl⟩ := List.mem_map.mp hb
          obtain ⟨jy, hjy⟩ := List.mem_iff_getElem?.mp hy
          have hjl : jy < v7.ss.length := by
            rw [← Paired.length X.cn.sd.ps]
            exact (List.getElem?_eq_some_iff.mp hjy).1
          obtain ⟨dxy, hyy⟩ := (prd_get X.cn.sd.ps hjy (List.getElem?_eq_getElem hjl)).self
          exact ⟨dxy, _, hyy⟩
        dsimp only [gName, List.set]
        have evl := ev_op (X.ev_len T.sq (te := tVar 7) (σ := [some (.ref a), some (.ref d), some (.int m), some (.ref c), some (.int n), o5, o6, some (.ref z0.a), some (.ref q), some (.ref u), some (.int (N : Nat)), some (.ref z.a), none, some (.int (i : Nat))]) hf hs7 (ev_var rfl)) (ev_c (v := .int 1)) (rv_I0 (g := fun i j => V.int (i + j)))
        refine q_forR1 (n := ((sq7.row.length : Nat) : Int) + 1) (ea_cons evl ea_nil) ⟨by omega, by omega⟩ (fun t σ' H' => ∃ (o5 : Option V) (g : Sf) (v : Cw), σ' = [some (.ref a), some (.ref d), some (.int m), some (.ref c), some (.int n), o5, o6, some (.ref z0.a), some (.ref q), some (.ref u), some (.int (N : Nat)), some (.ref z.a), none, some (.int (i : Nat))] ∧ X41 K CC CK CS TT c ll [(p, (g5.fs.map fun z => V.ref z.a).take N), (u, up.map vN)] (allF g5 ++ [(N, z.a)]) g v ls H' ∧ Y41 m N L (401 + 400 * i + 5 * t) (64 + i) v ls) (fun H24 x24 => ⟨_, _, _, rfl, X.ex x24, Y.mono (by omega) (by omega)⟩) ?_ ?_
        · rintro t σ' H24 ht ⟨o5, g8, v8, rfl, X, Y⟩
          have hil8 : i < v8.ss.length := by rw [Y.n]; omega
          have hs8 := List.getElem?_eq_getElem hil8
          generalize v8.ss[i] = s8 at hs8
          dsimp only [List.set]
          exact X.exch (ni := 13) (.tail _ (.head _)) Y.p.ok hup hl1 (by omega) (by omega) hs8 rfl rfl rfl fun g' H25 X _ => ⟨_, g', _, rfl, X, Y.exch.mono (by omega) (Nat.le_refl _)⟩
        rintro σ' H24 ⟨o5, g8, v8, rfl, X, Y⟩
        have Y := Y.mono (B' := 400 + 400 * (i + 1)) (r' := 63 + (i + 1)) (by omega) (by omega)
        have hil8 : i < v8.ss.length := by rw [Y.n]; omega
        have hs8 := List.getElem?_eq_getElem hil8
        generalize v8.ss[i] = s8 at hs8
        obtain ⟨sN, hsN, erN⟩ := Y.get
        have rowS := Y.rowS
        have eS := pre_of Y.p.sf rowS (Y.p.sf.settled (List.mem_of_getElem? hs8) Y.p.pos)
        have leS : s8.settled.length ≤ L.length := by
          have := congrArg List.length eS
          rw [List.length_take] at this
          omega
        have okS : ∀ x ∈ s8.settled, x.ok := fun x hx => okL x (by rw [eS] at hx; exact List.mem_of_mem_take hx)
        have t1 := X.etd_row T.sq (te := tVar 11) (σ := [some (.ref a), some (.ref d), some (.int m), some (.ref c), some (.int n), o5, o6, some (.ref z0.a), some (.ref q), some (.ref u), some (.int (N : Nat)), some (.ref z.a), none, some (.int (i : Nat))]) hfN hsN (ev_var rfl)
        have t2 := X.etd_setS (σ := [some (.ref a), some (.ref d), some (.int m), some (.ref c), some (.int n), o5, o6, some (.ref z0.a), some (.ref q), some (.ref u), some (.int (N : Nat)), some (.ref z.a), none, some (.int (i : Nat))]) (te := tVar 7) Y.p.ok (by omega) (by omega) hf hs8 (ev_var rfl)
        have t3 := X.etd_setC (σ := [some (.ref a), some (.ref d), some (.int m), some (.ref c), some (.int n), o5, o6, some (.ref z0.a), some (.ref q), some (.ref u), some (.int (N : Nat)), some (.ref z.a), none, some (.int (i : Nat))]) (te := tVar 3) Y.p (by omega) (by omega) rowS (ev_var rfl)
        have t4 := et_test (ev_op (X.ev_stand T.sq (te := tVar 7) (σ := [some (.ref a), some (.ref d), some (.int m), some (.ref c), some (.int n), o5, o6, some (.ref z0.a), some (.ref q), some (.ref u), some (.int (N : Nat)), some (.ref z.a), none, some (.int (i : Nat))]) hf hs8 (ev_var rfl)) (ev_c (v := .str "stopped")) (rv_ne rfl))
        rw [erN] at t1
        refine s_when (et_or (et_neRR t3 t1 okL) fun _ => et_and t4 fun _ => et_neSl t2 t1 eS leS okL) (fun hb => by simp at hb) fun _ H25 x25 => ⟨_, _, _, _, _, rfl, X.ex x25, Y⟩
      · rintro p σ' H20 _
        exact k _
end
end Mc.Cn
namespace Mc.Cn
open PySem L2 PySem.Spec PyProof.Rows
/-! ### an error of a class is what «except» of that class names -/
theorem exm_self {K : PySem.W.Frag} {S : Addr} (h1 : PySem.W.subIn K (.ref S) (.type "BaseException") = some true) (h2 : PySem.W.isClsIn K S = true) (h3 : PySem.W.typeIn K (.ref S) = some (.type "type")) (h4 : PySem.W.subIn K (.ref S) (.ref S) = some true) :
    PySem.W.exmOne K (.ref S) (.ref S) = some true := by
  have e1 : (PySem.W.subIn K (.ref S) (.type "BaseException") == some true) = true := by rw [h1] <;> rfl
  have e2 : ((PySem.W.clsIn K S).isSome && PySem.W.typeIn K (.ref S) == some (.type "type")) = true := by
    have h2' : (PySem.W.clsIn K S).isSome = true := h2
    rw [h2', h3] <;> rfl
  show (if (PySem.W.subIn K (.ref S) (.type "BaseException") == some true) = true then (if ((PySem.W.clsIn K S).isSome && PySem.W.typeIn K (.ref S) == some (.type "type")) = true then PySem.W.subIn K (.ref S) (.ref S) else none) else none) = some true
  rw [if_pos e1, if_pos e2]
  exact h4
abbrev sBadNm : Stmt := inClass (top 3) 0
theorem scBadN : FnScope ["self", "name"] ["self", "name"] (defScope sBadNm) := ⟨rfl, rfl, rfl, by decide +kernel, rfl, by decide +kernel, by decide +kernel⟩
theorem all_mk {l : PySem.W.OpenLaw} {w : World} {K : PySem.W.Frag} {h : Heap} {mg : PySem.Str → Option Value} {fa : Addr} (X : K.In h) (G : h.Ns mainGlobals mg) (hfa : mg "law" = some (.ref fa))
    {CN : Addr}
    {f_Known_init : Addr} {od_Known_init an_Known_init : Option Addr} {sl_Known_init : Array (Option Value)} {oc_Known_init kV_Known_init dc_Known_init pm_Known_init cd_Known_init ct_Known_init : Value}
    {CK : Addr}
    {f_Keeper_init : Addr} {od_Keeper_init an_Keeper_init : Option Addr} {sl_Keeper_init : Array (Option Value)} {oc_Keeper_init kV_Keeper_init dc_Keeper_init pm_Keeper_init cd_Keeper_init ct_Keeper_init : Value}
    {f_Keeper_kept : Addr} {od_Keeper_kept an_Keeper_kept : Option Addr} {sl_Keeper_kept : Array (Option Value)} {oc_Keeper_kept kV_Keeper_kept dc_Keeper_kept pm_Keeper_kept cd_Keeper_kept ct_Keeper_kept : Value}
    {f_Keeper_handle : Addr} {od_Keeper_handle an_Keeper_handle : Option Addr} {sl_Keeper_handle : Array (Option Value)} {oc_Keeper_handle kV_Keeper_handle dc_Keeper_handle pm_Keeper_handle cd_Keeper_handle ct_Keeper_handle : Value}
    {f_Keeper_take : Addr} {od_Keeper_take an_Keeper_take : Option Addr} {sl_Keeper_take : Array (Option Value)} {oc_Keeper_take kV_Keeper_take dc_Keeper_take pm_Keeper_take cd_Keeper_take ct_Keeper_take : Value}
    {f_Keeper_note : Addr} {od_Keeper_note an_Keeper_note : Option Addr} {sl_Keeper_note : Array (Option Value)} {oc_Keeper_note kV_Keeper_note dc_Keeper_note pm_Keeper_note cd_Keeper_note ct_Keeper_note : Value}
    {f_Keeper_reply : Addr} {od_Keeper_reply an_Keeper_reply : Option Addr} {sl_Keeper_reply : Array (Option Value)} {oc_Keeper_reply kV_Keeper_reply dc_Keeper_reply pm_Keeper_reply cd_Keeper_reply ct_Keeper_reply : Value}
    {f_Keeper_flush : Addr} {od_Keeper_flush an_Keeper_flush : Option Addr} {sl_Keeper_flush : Array (Option Value)} {oc_Keeper_flush kV_Keeper_flush dc_Keeper_flush pm_Keeper_flush cd_Keeper_flush ct_Keeper_flush : Value}
    {CS : Addr}
    {f_Sequencer_init : Addr} {od_Sequencer_init an_Sequencer_init : Option Addr} {sl_Sequencer_init : Array (Option Value)} {oc_Sequencer_init kV_Sequencer_init dc_Sequencer_init pm_Sequencer_init cd_Sequencer_init ct_Sequencer_init : Value}
    {f_Sequencer_to_send : Addr} {od_Sequencer_to_send an_Sequencer_to_send : Option Addr} {sl_Sequencer_to_send : Array (Option Value)} {oc_Sequencer_to_send kV_Sequencer_to_send dc_Sequencer_to_send pm_Sequencer_to_send cd_Sequencer_to_send ct_Sequencer_to_send : Value}
    {f_Sequencer_write_to : Addr} {od_Sequencer_write_to an_Sequencer_write_to : Option Addr} {sl_Sequencer_write_to : Array (Option Value)} {oc_Sequencer_write_to kV_Sequencer_write_to dc_Sequencer_write_to pm_Sequencer_write_to cd_Sequencer_write_to ct_Sequencer_write_to : Value}
    {f_Sequencer_hear : Addr} {od_Sequencer_hear an_Sequencer_hear : Option Addr} {sl_Sequencer_hear : Array (Option Value)} {oc_Sequencer_hear kV_Sequencer_hear dc_Sequencer_hear pm_Sequencer_hear cd_Sequencer_hear ct_Sequencer_hear : Value}
    {f_Sequencer_add : Addr} {od_Sequencer_add an_Sequencer_add : Option Addr} {sl_Sequencer_add : Array (Option Value)} {oc_Sequencer_add kV_Sequencer_add dc_Sequencer_add pm_Sequencer_add cd_Sequencer_add ct_Sequencer_add : Value}
    {f_Sequencer_settled : Addr} {od_Sequencer_settled an_Sequencer_settled : Option Addr} {sl_Sequencer_settled : Array (Option Value)} {oc_Sequencer_settled kV_Sequencer_settled dc_Sequencer_settled pm_Sequencer_settled cd_Sequencer_settled ct_Sequencer_settled : Value}
    {CC : Addr}
    {f_Council_init : Addr} {od_Council_init an_Council_init : Option Addr} {sl_Council_init : Array (Option Value)} {oc_Council_init kV_Council_init dc_Council_init pm_Council_init cd_Council_init ct_Council_init : Value}
    {f_Council_begin : Addr} {od_Council_begin an_Council_begin : Option Addr} {sl_Council_begin : Array (Option Value)} {oc_Council_begin kV_Council_begin dc_Council_begin pm_Council_begin cd_Council_begin ct_Council_begin : Value}
    {f_Council_send : Addr} {od_Council_send an_Council_send : Option Addr} {sl_Council_send : Array (Option Value)} {oc_Council_send kV_Council_send dc_Council_send pm_Council_send cd_Council_send ct_Council_send : Value}
    {f_Council_deliver : Addr} {od_Council_deliver an_Council_deliver : Option Addr} {sl_Council_deliver : Array (Option Value)} {oc_Council_deliver kV_Council_deliver dc_Council_deliver pm_Council_deliver cd_Council_deliver ct_Council_deliver : Value}
    {f_Council_bring : Addr} {od_Council_bring an_Council_bring : Option Addr} {sl_Council_bring : Array (Option Value)} {oc_Council_bring kV_Council_bring dc_Council_bring pm_Council_bring cd_Council_bring ct_Council_bring : Value}
    {f_Council_flush : Addr} {od_Council_flush an_Council_flush : Option Addr} {sl_Council_flush : Array (Option Value)} {oc_Council_flush kV_Council_flush dc_Council_flush pm_Council_flush cd_Council_flush ct_Council_flush : Value}
    {f_Council_exchange : Addr} {od_Council_exchange an_Council_exchange : Option Addr} {sl_Council_exchange : Array (Option Value)} {oc_Council_exchange kV_Council_exchange dc_Council_exchange pm_Council_exchange cd_Council_exchange ct_Council_exchange : Value}
    {f_Council_settled : Addr} {od_Council_settled an_Council_settled : Option Addr} {sl_Council_settled : Array (Option Value)} {oc_Council_settled kV_Council_settled dc_Council_settled pm_Council_settled cd_Council_settled ct_Council_settled : Value}
    {CB : Addr}
    {f_BadName_init : Addr} {od_BadName_init an_BadName_init : Option Addr} {sl_BadName_init : Array (Option Value)} {oc_BadName_init kV_BadName_init dc_BadName_init pm_BadName_init cd_BadName_init ct_BadName_init : Value}
    {f_is_number : Addr} {od_is_number an_is_number : Option Addr} {sl_is_number : Array (Option Value)} {oc_is_number kV_is_number dc_is_number pm_is_number cd_is_number ct_is_number : Value}
    {f_take_letter : Addr} {od_take_letter an_take_letter : Option Addr} {sl_take_letter : Array (Option Value)} {oc_take_letter kV_take_letter dc_take_letter pm_take_letter cd_take_letter ct_take_letter : Value}
    {f_most_of : Addr} {od_most_of an_most_of : Option Addr} {sl_most_of : Array (Option Value)} {oc_most_of kV_most_of dc_most_of pm_most_of cd_most_of ct_most_of : Value}
    {f_newest_row : Addr} {od_newest_row an_newest_row : Option Addr} {sl_newest_row : Array (Option Value)} {oc_newest_row kV_newest_row dc_newest_row pm_newest_row cd_newest_row ct_newest_row : Value}
    {f_law_number : Addr} {od_law_number an_law_number : Option Addr} {sl_law_number : Array (Option Value)} {oc_law_number kV_law_number dc_law_number pm_law_number cd_law_number ct_law_number : Value}
    {f_law_take : Addr} {od_law_take an_law_take : Option Addr} {sl_law_take : Array (Option Value)} {oc_law_take kV_law_take dc_law_take pm_law_take cd_law_take ct_law_take : Value}
    {f_law_pick : Addr} {od_law_pick an_law_pick : Option Addr} {sl_law_pick : Array (Option Value)} {oc_law_pick kV_law_pick dc_law_pick pm_law_pick cd_law_pick ct_law_pick : Value}
    {f_settled_at : Addr} {od_settled_at an_settled_at : Option Addr} {sl_settled_at : Array (Option Value)} {oc_settled_at kV_settled_at dc_settled_at pm_settled_at cd_settled_at ct_settled_at : Value}
    {f_takes_at : Addr} {od_takes_at an_takes_at : Option Addr} {sl_takes_at : Array (Option Value)} {oc_takes_at kV_takes_at dc_takes_at pm_takes_at cd_takes_at ct_takes_at : Value}
    {f_settled_row : Addr} {od_settled_row an_settled_row : Option Addr} {sl_settled_row : Array (Option Value)} {oc_settled_row kV_settled_row dc_settled_row pm_settled_row cd_settled_row ct_settled_row : Value}
    {f_law : Addr} {od_law an_law : Option Addr} {sl_law : Array (Option Value)} {oc_law kV_law dc_law pm_law cd_law ct_law : Value}
    {t_MOST_EPOCH : Tok}
    {tc_newest_row tp_newest_row : Addr}
    (a_Known : PySem.W.nsIn K mainGlobals "Known" = some (some (.ref CN)))
    (a_Known_init : PySem.W.findIn K (.ref CN) "__init__" = some (some (.ref f_Known_init)))
    (i_Known_init : PySem.W.isFn K (.ref f_Known_init) = true)
    (l_Known_init : K.lookup f_Known_init = some ⟨oc_Known_init, od_Known_init, .func (PySem.W.fnOf "__init__" "Known.__init__" (defArgs sKnI) (defBody sKnI) (defScope sKnI) .none kV_Known_init dc_Known_init pm_Known_init an_Known_init cd_Known_init ct_Known_init), sl_Known_init⟩)
    (c_Known_init : PySem.W.codeIn K cd_Known_init "Known.__init__" = true)
    (k_Known_init : PySem.W.keepIn K (.ref f_Known_init) = true)
    (pg_Known : PySem.W.plainGet K CN PySem.Str.empty = true)
    (hd_Known : PySem.W.hasDictIn K CN = true)
    (po_Known : PySem.W.plainOver K CN = true)
    (sa_Known : PySem.W.findIn K (.ref CN) "__setattr__" = some (some (.builtin "object.__setattr__")))
    (mk_Known : PySem.W.makesIn K CN = true)
    (kc_Known : PySem.W.keepIn K (.ref CN) = true)
    (na_Known_epoch : PySem.W.findIn K (.ref CN) "epoch" = some none)
    (na_Known_row : PySem.W.findIn K (.ref CN) "row" = some none)
    (a_Keeper : PySem.W.nsIn K mainGlobals "Keeper" = some (some (.ref CK)))
    (a_Keeper_init : PySem.W.findIn K (.ref CK) "__init__" = some (some (.ref f_Keeper_init)))
    (i_Keeper_init : PySem.W.isFn K (.ref f_Keeper_init) = true)
    (l_Keeper_init : K.lookup f_Keeper_init = some ⟨oc_Keeper_init, od_Keeper_init, .func (PySem.W.fnOf "__init__" "Keeper.__init__" (defArgs sKeI) (defBody sKeI) (defScope sKeI) .none kV_Keeper_init dc_Keeper_init pm_Keeper_init an_Keeper_init cd_Keeper_init ct_Keeper_init), sl_Keeper_init⟩)
    (c_Keeper_init : PySem.W.codeIn K cd_Keeper_init "Keeper.__init__" = true)
    (k_Keeper_init : PySem.W.keepIn K (.ref f_Keeper_init) = true)
    (a_Keeper_kept : PySem.W.findIn K (.ref CK) "kept" = some (some (.ref f_Keeper_kept)))
    (i_Keeper_kept : PySem.W.isFn K (.ref f_Keeper_kept) = true)
    (l_Keeper_kept : K.lookup f_Keeper_kept = some ⟨oc_Keeper_kept, od_Keeper_kept, .func (PySem.W.fnOf "kept" "Keeper.kept" (defArgs sKeKept) (defBody sKeKept) (defScope sKeKept) .none kV_Keeper_kept dc_Keeper_kept pm_Keeper_kept an_Keeper_kept cd_Keeper_kept ct_Keeper_kept), sl_Keeper_kept⟩)
    (c_Keeper_kept : PySem.W.codeIn K cd_Keeper_kept "Keeper.kept" = true)
    (k_Keeper_kept : PySem.W.keepIn K (.ref f_Keeper_kept) = true)
    (a_Keeper_handle : PySem.W.findIn K (.ref CK) "handle" = some (some (.ref f_Keeper_handle)))
    (i_Keeper_handle : PySem.W.isFn K (.ref f_Keeper_handle) = true)
    (l_Keeper_handle : K.lookup f_Keeper_handle = some ⟨oc_Keeper_handle, od_Keeper_handle, .func (PySem.W.fnOf "handle" "Keeper.handle" (defArgs sKeHandle) (defBody sKeHandle) (defScope sKeHandle) .none kV_Keeper_handle dc_Keeper_handle pm_Keeper_handle an_Keeper_handle cd_Keeper_handle ct_Keeper_handle), sl_Keeper_handle⟩)
    (c_Keeper_handle : PySem.W.codeIn K cd_Keeper_handle "Keeper.handle" = true)
    (k_Keeper_handle : PySem.W.keepIn K (.ref f_Keeper_handle) = true)
    (a_Keeper_take : PySem.W.findIn K (.ref CK) "take" = some (some (.ref f_Keeper_take)))
    (i_Keeper_take : PySem.W.isFn K (.ref f_Keeper_take) = true)
    (l_Keeper_take : K.lookup f_Keeper_take = some ⟨oc_Keeper_take, od_Keeper_take, .func (PySem.W.fnOf "take" "Keeper.take" (defArgs sKeTake) (defBody sKeTake) (defScope sKeTake) .none kV_Keeper_take dc_Keeper_take pm_Keeper_take an_Keeper_take cd_Keeper_take ct_Keeper_take), sl_Keeper_take⟩)
    (c_Keeper_take : PySem.W.codeIn K cd_Keeper_take "Keeper.take" = true)
    (k_Keeper_take : PySem.W.keepIn K (.ref f_Keeper_take) = true)
    (a_Keeper_note : PySem.W.findIn K (.ref CK) "note" = some (some (.ref f_Keeper_note)))
    (i_Keeper_note : PySem.W.isFn K (.ref f_Keeper_note) = true)
    (l_Keeper_note : K.lookup f_Keeper_note = some ⟨oc_Keeper_note, od_Keeper_note, .func (PySem.W.fnOf "note" "Keeper.note" (defArgs sKeNote) (defBody sKeNote) (defScope sKeNote) .none kV_Keeper_note dc_Keeper_note pm_Keeper_note an_Keeper_note cd_Keeper_note ct_Keeper_note), sl_Keeper_note⟩)
    (c_Keeper_note : PySem.W.codeIn K cd_Keeper_note "Keeper.note" = true)
    (k_Keeper_note : PySem.W.keepIn K (.ref f_Keeper_note) = true)
    (a_Keeper_reply : PySem.W.findIn K (.ref CK) "reply" = some (some (.ref f_Keeper_reply)))
    (i_Keeper_reply : PySem.W.isFn K (.ref f_Keeper_reply) = true)
    (l_Keeper_reply : K.lookup f_Keeper_reply = some ⟨oc_Keeper_reply, od_Keeper_reply, .func (PySem.W.fnOf "reply" "Keeper.reply" (defArgs sKeReply) (defBody sKeReply) (defScope sKeReply) .none kV_Keeper_reply dc_Keeper_reply pm_Keeper_reply an_Keeper_reply cd_Keeper_reply ct_Keeper_reply), sl_Keeper_reply⟩)
    (c_Keeper_reply : PySem.W.codeIn K cd_Keeper_reply "Keeper.reply" = true)
    (k_Keeper_reply : PySem.W.keepIn K (.ref f_Keeper_reply) = true)
    (a_Keeper_flush : PySem.W.findIn K (.ref CK) "flush" = some (some (.ref f_Keeper_flush)))
    (i_Keeper_flush : PySem.W.isFn K (.ref f_Keeper_flush) = true)
    (l_Keeper_flush : K.lookup f_Keeper_flush = some ⟨oc_Keeper_flush, od_Keeper_flush, .func (PySem.W.fnOf "flush" "Keeper.flush" (defArgs sKeFlush) (defBody sKeFlush) (defScope sKeFlush) .none kV_Keeper_flush dc_Keeper_flush pm_Keeper_flush an_Keeper_flush cd_Keeper_flush ct_Keeper_flush), sl_Keeper_flush⟩)
    (c_Keeper_flush : PySem.W.codeIn K cd_Keeper_flush "Keeper.flush" = true)
    (k_Keeper_flush : PySem.W.keepIn K (.ref f_Keeper_flush) = true)
    (pg_Keeper : PySem.W.plainGet K CK PySem.Str.empty = true)
    (hd_Keeper : PySem.W.hasDictIn K CK = true)
    (po_Keeper : PySem.W.plainOver K CK = true)
    (sa_Keeper : PySem.W.findIn K (.ref CK) "__setattr__" = some (some (.builtin "object.__setattr__")))
    (mk_Keeper : PySem.W.makesIn K CK = true)
    (kc_Keeper : PySem.W.keepIn K (.ref CK) = true)
    (na_Keeper_number : PySem.W.findIn K (.ref CK) "number" = some none)
    (na_Keeper_records : PySem.W.findIn K (.ref CK) "records" = some none)
    (na_Keeper_loose : PySem.W.findIn K (.ref CK) "loose" = some none)
    (na_Keeper_waiting : PySem.W.findIn K (.ref CK) "waiting" = some none)
    (a_Sequencer : PySem.W.nsIn K mainGlobals "Sequencer" = some (some (.ref CS)))
    (a_Sequencer_init : PySem.W.findIn K (.ref CS) "__init__" = some (some (.ref f_Sequencer_init)))
    (i_Sequencer_init : PySem.W.isFn K (.ref f_Sequencer_init) = true)
    (l_Sequencer_init : K.lookup f_Sequencer_init = some ⟨oc_Sequencer_init, od_Sequencer_init, .func (PySem.W.fnOf "__init__" "Sequencer.__init__" (defArgs sSqI) (defBody sSqI) (defScope sSqI) .none kV_Sequencer_init dc_Sequencer_init pm_Sequencer_init an_Sequencer_init cd_Sequencer_init ct_Sequencer_init), sl_Sequencer_init⟩)
    (c_Sequencer_init : PySem.W.codeIn K cd_Sequencer_init "Sequencer.__init__" = true)
    (k_Sequencer_init : PySem.W.keepIn K (.ref f_Sequencer_init) = true)
    (a_Sequencer_to_send : PySem.W.findIn K (.ref CS) "to_send" = some (some (.ref f_Sequencer_to_send)))
    (i_Sequencer_to_send : PySem.W.isFn K (.ref f_Sequencer_to_send) = true)
    (l_Sequencer_to_send : K.lookup f_Sequencer_to_send = some ⟨oc_Sequencer_to_send, od_Sequencer_to_send, .func (PySem.W.fnOf "to_send" "Sequencer.to_send" (defArgs sSqSend) (defBody sSqSend) (defScope sSqSend) .none kV_Sequencer_to_send dc_Sequencer_to_send pm_Sequencer_to_send an_Sequencer_to_send cd_Sequencer_to_send ct_Sequencer_to_send), sl_Sequencer_to_send⟩)
    (c_Sequencer_to_send : PySem.W.codeIn K cd_Sequencer_to_send "Sequencer.to_send" = true)
    (k_Sequencer_to_send : PySem.W.keepIn K (.ref f_Sequencer_to_send) = true)
    (a_Sequencer_write_to : PySem.W.findIn K (.ref CS) "write_to" = some (some (.ref f_Sequencer_write_to)))
    (i_Sequencer_write_to : PySem.W.isFn K (.ref f_Sequencer_write_to) = true)
    (l_Sequencer_write_to : K.lookup f_Sequencer_write_to = some ⟨oc_Sequencer_write_to, od_Sequencer_write_to, .func (PySem.W.fnOf "write_to" "Sequencer.write_to" (defArgs sSqWrite) (defBody sSqWrite) (defScope sSqWrite) .none kV_Sequencer_write_to dc_Sequencer_write_to pm_Sequencer_write_to an_Sequencer_write_to cd_Sequencer_write_to ct_Sequencer_write_to), sl_Sequencer_write_to⟩)
    (c_Sequencer_write_to : PySem.W.codeIn K cd_Sequencer_write_to "Sequencer.write_to" = true)
    (k_Sequencer_write_to : PySem.W.keepIn K (.ref f_Sequencer_write_to) = true)
    (a_Sequencer_hear : PySem.W.findIn K (.ref CS) "hear" = some (some (.ref f_Sequencer_hear)))
    (i_Sequencer_hear : PySem.W.isFn K (.ref f_Sequencer_hear) = true)
    (l_Sequencer_hear : K.lookup f_Sequencer_hear = some ⟨oc_Sequencer_hear, od_Sequencer_hear, .func (PySem.W.fnOf "hear" "Sequencer.hear" (defArgs sSqHear) (defBody sSqHear) (defScope sSqHear) .none kV_Sequencer_hear dc_Sequencer_hear pm_Sequencer_hear an_Sequencer_hear cd_Sequencer_hear ct_Sequencer_hear), sl_Sequencer_hear⟩)
    (c_Sequencer_hear : PySem.W.codeIn K cd_Sequencer_hear "Sequencer.hear" = true)
    (k_Sequencer_hear : PySem.W.keepIn K (.ref f_Sequencer_hear) = true)
    (a_Sequencer_add : PySem.W.findIn K (.ref CS) "add" = some (some (.ref f_Sequencer_add)))
    (i_Sequencer_add : PySem.W.isFn K (.ref f_Sequencer_add) = true)
    (l_Sequencer_add : K.lookup f_Sequencer_add = some ⟨oc_Sequencer_add, od_Sequencer_add, .func (PySem.W.fnOf "add" "Sequencer.add" (defArgs sSqAdd) (defBody sSqAdd) (defScope sSqAdd) .none kV_Sequencer_add dc_Sequencer_add pm_Sequencer_add an_Sequencer_add cd_Sequencer_add ct_Sequencer_add), sl_Sequencer_add⟩)
    (c_Sequencer_add : PySem.W.codeIn K cd_Sequencer_add "Sequencer.add" = true)
    (k_Sequencer_add : PySem.W.keepIn K (.ref f_Sequencer_add) = true)
    (a_Sequencer_settled : PySem.W.findIn K (.ref CS) "settled" = some (some (.ref f_Sequencer_settled)))
    (i_Sequencer_settled : PySem.W.isFn K (.ref f_Sequencer_settled) = true)
    (l_Sequencer_settled : K.lookup f_Sequencer_settled = some ⟨oc_Sequencer_settled, od_Sequencer_settled, .func (PySem.W.fnOf "settled" "Sequencer.settled" (defArgs sSqSettled) (defBody sSqSettled) (defScope sSqSettled) .none kV_Sequencer_settled dc_Sequencer_settled pm_Sequencer_settled an_Sequencer_settled cd_Sequencer_settled ct_Sequencer_settled), sl_Sequencer_settled⟩)
    (c_Sequencer_settled : PySem.W.codeIn K cd_Sequencer_settled "Sequencer.settled" = true)
    (k_Sequencer_settled : PySem.W.keepIn K (.ref f_Sequencer_settled) = true)
    (pg_Sequencer : PySem.W.plainGet K CS PySem.Str.empty = true)
    (hd_Sequencer : PySem.W.hasDictIn K CS = true)
    (po_Sequencer : PySem.W.plainOver K CS = true)
    (sa_Sequencer : PySem.W.findIn K (.ref CS) "__setattr__" = some (some (.builtin "object.__setattr__")))
    (mk_Sequencer : PySem.W.makesIn K CS = true)
    (kc_Sequencer : PySem.W.keepIn K (.ref CS) = true)
    (qe_Sequencer : PySem.W.findIn K (.ref CS) "__eq__" = some (some (.builtin "object.__eq__")))
    (ob_Sequencer : PySem.W.mroIn K CS (.type "object") = some true)
    (na_Sequencer_epoch : PySem.W.findIn K (.ref CS) "epoch" = some none)
    (na_Sequencer_many : PySem.W.findIn K (.ref CS) "many" = some none)
    (na_Sequencer_stand : PySem.W.findIn K (.ref CS) "stand" = some none)
    (na_Sequencer_row : PySem.W.findIn K (.ref CS) "row" = some none)
    (na_Sequencer_rows : PySem.W.findIn K (.ref CS) "rows" = some none)
    (na_Sequencer_taken : PySem.W.findIn K (.ref CS) "taken" = some none)
    (a_Council : PySem.W.nsIn K mainGlobals "Council" = some (some (.ref CC)))
    (a_Council_init : PySem.W.findIn K (.ref CC) "__init__" = some (some (.ref f_Council_init)))
    (i_Council_init : PySem.W.isFn K (.ref f_Council_init) = true)
    (l_Council_init : K.lookup f_Council_init = some ⟨oc_Council_init, od_Council_init, .func (PySem.W.fnOf "__init__" "Council.__init__" (defArgs sCnI) (defBody sCnI) (defScope sCnI) .none kV_Council_init dc_Council_init pm_Council_init an_Council_init cd_Council_init ct_Council_init), sl_Council_init⟩)
    (c_Council_init : PySem.W.codeIn K cd_Council_init "Council.__init__" = true)
    (k_Council_init : PySem.W.keepIn K (.ref f_Council_init) = true)
    (a_Council_begin : PySem.W.findIn K (.ref CC) "begin" = some (some (.ref f_Council_begin)))
    (i_Council_begin : PySem.W.isFn K (.ref f_Council_begin) = true)
    (l_Council_begin : K.lookup f_Council_begin = some ⟨oc_Council_begin, od_Council_begin, .func (PySem.W.fnOf "begin" "Council.begin" (defArgs sCnBegin) (defBody sCnBegin) (defScope sCnBegin) .none kV_Council_begin dc_Council_begin pm_Council_begin an_Council_begin cd_Council_begin ct_Council_begin), sl_Council_begin⟩)
    (c_Council_begin : PySem.W.codeIn K cd_Council_begin "Council.begin" = true)
    (k_Council_begin : PySem.W.keepIn K (.ref f_Council_begin) = true)
    (a_Council_send : PySem.W.findIn K (.ref CC) "send" = some (some (.ref f_Council_send)))
    (i_Council_send : PySem.W.isFn K (.ref f_Council_send) = true)
    (l_Council_send : K.lookup f_Council_send = some ⟨oc_Council_send, od_Council_send, .func (PySem.W.fnOf "send" "Council.send" (defArgs sCnSend) (defBody sCnSend) (defScope sCnSend) .none kV_Council_send dc_Council_send pm_Council_send an_Council_send cd_Council_send ct_Council_send), sl_Council_send⟩)
    (c_Council_send : PySem.W.codeIn K cd_Council_send "Council.send" = true)
    (k_Council_send : PySem.W.keepIn K (.ref f_Council_send) = true)
    (a_Council_deliver : PySem.W.findIn K (.ref CC) "deliver" = some (some (.ref f_Council_deliver)))
    (i_Council_deliver : PySem.W.isFn K (.ref f_Council_deliver) = true)
    (l_Council_deliver : K.lookup f_Council_deliver = some ⟨oc_Council_deliver, od_Council_deliver, .func (PySem.W.fnOf "deliver" "Council.deliver" (defArgs sCnDeliver) (defBody sCnDeliver) (defScope sCnDeliver) .none kV_Council_deliver dc_Council_deliver pm_Council_deliver an_Council_deliver cd_Council_deliver ct_Council_deliver), sl_Council_deliver⟩)
    (c_Council_deliver : PySem.W.codeIn K cd_Council_deliver "Council.deliver" = true)
    (k_Council_deliver : PySem.W.keepIn K (.ref f_Council_deliver) = true)
    (a_Council_bring : PySem.W.findIn K (.ref CC) "bring" = some (some (.ref f_Council_bring)))
    (i_Council_bring : PySem.W.isFn K (.ref f_Council_bring) = true)
    (l_Council_bring : K.lookup f_Council_bring = some ⟨oc_Council_bring, od_Council_bring, .func (PySem.W.fnOf "bring" "Council.bring" (defArgs sCnBring) (defBody sCnBring) (defScope sCnBring) .none kV_Council_bring dc_Council_bring pm_Council_bring an_Council_bring cd_Council_bring ct_Council_bring), sl_Council_bring⟩)
    (c_Council_bring : PySem.W.codeIn K cd_Council_bring "Council.bring" = true)
    (k_Council_bring : PySem.W.keepIn K (.ref f_Council_bring) = true)
    (a_Council_flush : PySem.W.findIn K (.ref CC) "flush" = some (some (.ref f_Council_flush)))
    (i_Council_flush : PySem.W.isFn K (.ref f_Council_flush) = true)
    (l_Council_flush : K.lookup f_Council_flush = some ⟨oc_Council_flush, od_Council_flush, .func (PySem.W.fnOf "flush" "Council.flush" (defArgs sCnFlush) (defBody sCnFlush) (defScope sCnFlush) .none kV_Council_flush dc_Council_flush pm_Council_flush an_Council_flush cd_Council_flush ct_Council_flush), sl_Council_flush⟩)
    (c_Council_flush : PySem.W.codeIn K cd_Council_flush "Council.flush" = true)
    (k_Council_flush : PySem.W.keepIn K (.ref f_Council_flush) = true)
    (a_Council_exchange : PySem.W.findIn K (.ref CC) "exchange" = some (some (.ref f_Council_exchange)))
    (i_Council_exchange : PySem.W.isFn K (.ref f_Council_exchange) = true)
    (l_Council_exchange : K.lookup f_Council_exchange = some ⟨oc_Council_exchange, od_Council_exchange, .func (PySem.W.fnOf "exchange" "Council.exchange" (defArgs sCnEx) (defBody sCnEx) (defScope sCnEx) .none kV_Council_exchange dc_Council_exchange pm_Council_exchange an_Council_exchange cd_Council_exchange ct_Council_exchange), sl_Council_exchange⟩)
    (c_Council_exchange : PySem.W.codeIn K cd_Council_exchange "Council.exchange" = true)
    (k_Council_exchange : PySem.W.keepIn K (.ref f_Council_exchange) = true)
    (a_Council_settled : PySem.W.findIn K (.ref CC) "settled" = some (some (.ref f_Council_settled)))
    (i_Council_settled : PySem.W.isFn K (.ref f_Council_settled) = true)
    (l_Council_settled : K.lookup f_Council_settled = some ⟨oc_Council_settled, od_Council_settled, .func (PySem.W.fnOf "settled" "Council.settled" (defArgs sCnSettled) (defBody sCnSettled) (defScope sCnSettled) .none kV_Council_settled dc_Council_settled pm_Council_settled an_Council_settled cd_Council_settled ct_Council_settled), sl_Council_settled⟩)
    (c_Council_settled : PySem.W.codeIn K cd_Council_settled "Council.settled" = true)
    (k_Council_settled : PySem.W.keepIn K (.ref f_Council_settled) = true)
    (pg_Council : PySem.W.plainGet K CC PySem.Str.empty = true)
    (hd_Council : PySem.W.hasDictIn K CC = true)
    (po_Council : PySem.W.plainOver K CC = true)
    (sa_Council : PySem.W.findIn K (.ref CC) "__setattr__" = some (some (.builtin "object.__setattr__")))
    (mk_Council : PySem.W.makesIn K CC = true)
    (kc_Council : PySem.W.keepIn K (.ref CC) = true)
    (na_Council_keepers : PySem.W.findIn K (.ref CC) "keepers" = some none)
    (na_Council_sequencers : PySem.W.findIn K (.ref CC) "sequencers" = some none)
    (na_Council_letters : PySem.W.findIn K (.ref CC) "letters" = some none)
    (a_BadName : PySem.W.nsIn K mainGlobals "BadName" = some (some (.ref CB)))
    (a_BadName_init : PySem.W.findIn K (.ref CB) "__init__" = some (some (.ref f_BadName_init)))
    (i_BadName_init : PySem.W.isFn K (.ref f_BadName_init) = true)
    (l_BadName_init : K.lookup f_BadName_init = some ⟨oc_BadName_init, od_BadName_init, .func (PySem.W.fnOf "__init__" "BadName.__init__" (defArgs sBadNm) (defBody sBadNm) (defScope sBadNm) .none kV_BadName_init dc_BadName_init pm_BadName_init an_BadName_init cd_BadName_init ct_BadName_init), sl_BadName_init⟩)
    (c_BadName_init : PySem.W.codeIn K cd_BadName_init "BadName.__init__" = true)
    (k_BadName_init : PySem.W.keepIn K (.ref f_BadName_init) = true)
    (xi_BadName : PySem.W.excInitIn K CB exT "Exception.__new__" = true)
    (xo_BadName : PySem.W.excOver K CB exT = true)
    (hd_BadName : PySem.W.hasDictIn K CB = true)
    (sa_BadName : PySem.W.findIn K (.ref CB) "__setattr__" = some (some (.builtin "object.__setattr__")))
    (sb_BadName : PySem.W.subIn K (.ref CB) (.type "BaseException") = some true)
    (ty_BadName : PySem.W.typeIn K (.ref CB) = some (.type "type"))
    (kc_BadName : PySem.W.keepIn K (.ref CB) = true)
    (ga_BadName : PySem.W.findIn K (.ref CB) "__getattribute__" = some (some (.builtin "BaseException.__getattribute__")))
    (gg_BadName : PySem.W.findIn K (.ref CB) "__getattr__" = some none)
    (ic_BadName : PySem.W.isClsIn K CB = true)
    (ss_BadName : PySem.W.subIn K (.ref CB) (.ref CB) = some true)
    (na_BadName_name : PySem.W.findIn K (.ref CB) "name" = some none)
    (a_is_number : PySem.W.nsIn K mainGlobals "is_number" = some (some (.ref f_is_number)))
    (l_is_number : K.lookup f_is_number = some ⟨oc_is_number, od_is_number, .func (PySem.W.fnOf "is_number" "is_number" (defArgs sIsNum) (defBody sIsNum) (defScope sIsNum) .none kV_is_number dc_is_number pm_is_number an_is_number cd_is_number ct_is_number), sl_is_number⟩)
    (c_is_number : PySem.W.codeIn K cd_is_number "is_number" = true)
    (k_is_number : PySem.W.keepIn K (.ref f_is_number) = true)
    (a_take_letter : PySem.W.nsIn K mainGlobals "take_letter" = some (some (.ref f_take_letter)))
    (l_take_letter : K.lookup f_take_letter = some ⟨oc_take_letter, od_take_letter, .func (PySem.W.fnOf "take_letter" "take_letter" (defArgs sTakeL) (defBody sTakeL) (defScope sTakeL) .none kV_take_letter dc_take_letter pm_take_letter an_take_letter cd_take_letter ct_take_letter), sl_take_letter⟩)
    (c_take_letter : PySem.W.codeIn K cd_take_letter "take_letter" = true)
    (k_take_letter : PySem.W.keepIn K (.ref f_take_letter) = true)
    (a_most_of : PySem.W.nsIn K mainGlobals "most_of" = some (some (.ref f_most_of)))
    (l_most_of : K.lookup f_most_of = some ⟨oc_most_of, od_most_of, .func (PySem.W.fnOf "most_of" "most_of" (defArgs sMostOf) (defBody sMostOf) (defScope sMostOf) .none kV_most_of dc_most_of pm_most_of an_most_of cd_most_of ct_most_of), sl_most_of⟩)
    (c_most_of : PySem.W.codeIn K cd_most_of "most_of" = true)
    (k_most_of : PySem.W.keepIn K (.ref f_most_of) = true)
    (a_newest_row : PySem.W.nsIn K mainGlobals "newest_row" = some (some (.ref f_newest_row)))
    (l_newest_row : K.lookup f_newest_row = some ⟨oc_newest_row, od_newest_row, .func (PySem.W.fnOf "newest_row" "newest_row" (defArgs sNewest) (defBody sNewest) (defScope sNewest) .none kV_newest_row dc_newest_row pm_newest_row an_newest_row cd_newest_row ct_newest_row), sl_newest_row⟩)
    (c_newest_row : PySem.W.codeIn K cd_newest_row "newest_row" = true)
    (k_newest_row : PySem.W.keepIn K (.ref f_newest_row) = true)
    (a_law_number : PySem.W.nsIn K mainGlobals "_law_number" = some (some (.ref f_law_number)))
    (l_law_number : K.lookup f_law_number = some ⟨oc_law_number, od_law_number, .func (PySem.W.fnOf "_law_number" "_law_number" (defArgs sNum) (defBody sNum) (defScope sNum) .none kV_law_number dc_law_number pm_law_number an_law_number cd_law_number ct_law_number), sl_law_number⟩)
    (c_law_number : PySem.W.codeIn K cd_law_number "_law_number" = true)
    (k_law_number : PySem.W.keepIn K (.ref f_law_number) = true)
    (a_law_take : PySem.W.nsIn K mainGlobals "_law_take" = some (some (.ref f_law_take)))
    (l_law_take : K.lookup f_law_take = some ⟨oc_law_take, od_law_take, .func (PySem.W.fnOf "_law_take" "_law_take" (defArgs sTake) (defBody sTake) (defScope sTake) .none kV_law_take dc_law_take pm_law_take an_law_take cd_law_take ct_law_take), sl_law_take⟩)
    (c_law_take : PySem.W.codeIn K cd_law_take "_law_take" = true)
    (k_law_take : PySem.W.keepIn K (.ref f_law_take) = true)
    (a_law_pick : PySem.W.nsIn K mainGlobals "_law_pick" = some (some (.ref f_law_pick)))
    (l_law_pick : K.lookup f_law_pick = some ⟨oc_law_pick, od_law_pick, .func (PySem.W.fnOf "_law_pick" "_law_pick" (defArgs sPick) (defBody sPick) (defScope sPick) .none kV_law_pick dc_law_pick pm_law_pick an_law_pick cd_law_pick ct_law_pick), sl_law_pick⟩)
    (c_law_pick : PySem.W.codeIn K cd_law_pick "_law_pick" = true)
    (k_law_pick : PySem.W.keepIn K (.ref f_law_pick) = true)
    (a_settled_at : PySem.W.nsIn K mainGlobals "settled_at" = some (some (.ref f_settled_at)))
    (l_settled_at : K.lookup f_settled_at = some ⟨oc_settled_at, od_settled_at, .func (PySem.W.fnOf "settled_at" "settled_at" (defArgs sSettledAt) (defBody sSettledAt) (defScope sSettledAt) .none kV_settled_at dc_settled_at pm_settled_at an_settled_at cd_settled_at ct_settled_at), sl_settled_at⟩)
    (c_settled_at : PySem.W.codeIn K cd_settled_at "settled_at" = true)
    (k_settled_at : PySem.W.keepIn K (.ref f_settled_at) = true)
    (a_takes_at : PySem.W.nsIn K mainGlobals "takes_at" = some (some (.ref f_takes_at)))
    (l_takes_at : K.lookup f_takes_at = some ⟨oc_takes_at, od_takes_at, .func (PySem.W.fnOf "takes_at" "takes_at" (defArgs sTakesAt) (defBody sTakesAt) (defScope sTakesAt) .none kV_takes_at dc_takes_at pm_takes_at an_takes_at cd_takes_at ct_takes_at), sl_takes_at⟩)
    (c_takes_at : PySem.W.codeIn K cd_takes_at "takes_at" = true)
    (k_takes_at : PySem.W.keepIn K (.ref f_takes_at) = true)
    (a_settled_row : PySem.W.nsIn K mainGlobals "settled_row" = some (some (.ref f_settled_row)))
    (l_settled_row : K.lookup f_settled_row = some ⟨oc_settled_row, od_settled_row, .func (PySem.W.fnOf "settled_row" "settled_row" (defArgs sSettledRow) (defBody sSettledRow) (defScope sSettledRow) .none kV_settled_row dc_settled_row pm_settled_row an_settled_row cd_settled_row ct_settled_row), sl_settled_row⟩)
    (c_settled_row : PySem.W.codeIn K cd_settled_row "settled_row" = true)
    (k_settled_row : PySem.W.keepIn K (.ref f_settled_row) = true)
    (a_law : PySem.W.nsIn K mainGlobals "law" = some (some (.ref f_law)))
    (l_law : K.lookup f_law = some ⟨oc_law, od_law, .func (PySem.W.fnOf "law" "law" (defArgs s_law) (defBody s_law) (defScope s_law) .none kV_law dc_law pm_law an_law cd_law ct_law), sl_law⟩)
    (c_law : PySem.W.codeIn K cd_law "law" = true)
    (k_law : PySem.W.keepIn K (.ref f_law) = true)
    (a_MOST_EPOCH : PySem.W.nsIn K mainGlobals "MOST_EPOCH" = some (some (.int 999999999999 t_MOST_EPOCH)))
    (z_len : PySem.W.nsIn K mainGlobals "len" = some none)
    (z_int : PySem.W.nsIn K mainGlobals "int" = some none)
    (z_abs : PySem.W.nsIn K mainGlobals "abs" = some none)
    (z_max : PySem.W.nsIn K mainGlobals "max" = some none)
    (z_tuple : PySem.W.nsIn K mainGlobals "tuple" = some none)
    (z_list : PySem.W.nsIn K mainGlobals "list" = some none)
    (z_range : PySem.W.nsIn K mainGlobals "range" = some none)
    (z_sorted : PySem.W.nsIn K mainGlobals "sorted" = some none)
    (z_isinstance : PySem.W.nsIn K mainGlobals "isinstance" = some none)
    (z_bool : PySem.W.nsIn K mainGlobals "bool" = some none)
    (z_str : PySem.W.nsIn K mainGlobals "str" = some none)
    (ht_newest_row : h.get? tp_newest_row = some (PySem.W.tabObj #[]))
    (cc_newest_row : cd_newest_row = .ref tc_newest_row)
    (ch_newest_row : PySem.W.codeHdIn K tc_newest_row tp_newest_row = true)
    (np_newest_row : K.lookup tp_newest_row = none) :
    LamX.LawAtS l w K CX0 7 63 "script" mg fa h := by
  have e := hfa.symm.trans (PySem.W.mg_of X G a_law)
  cases e
  have F_Known_init := fun_mk (st := sKnI) l_Known_init c_Known_init k_Known_init
  have b_Known_init := F_Known_init.binds (ps := ["self", "records"]) fun _ _ _ _ _ _ us hl => match us, hl with | [_, _], _ => rfl
  have cls_Known : Cls K CN := ⟨pg_Known, hd_Known, po_Known, sa_Known⟩
  have g_Known := PySem.W.mg_of X G a_Known
  have Mk_Known : Mk K CN f_Known_init := ⟨mk_Known, a_Known_init, i_Known_init, kc_Known⟩
  have F_Keeper_init := fun_mk (st := sKeI) l_Keeper_init c_Keeper_init k_Keeper_init
  have b_Keeper_init := F_Keeper_init.binds (ps := ["self", "number"]) fun _ _ _ _ _ _ us hl => match us, hl with | [_, _], _ => rfl
  have F_Keeper_kept := fun_mk (st := sKeKept) l_Keeper_kept c_Keeper_kept k_Keeper_kept
  have b_Keeper_kept := F_Keeper_kept.binds (ps := ["self"]) fun _ _ _ _ _ _ us hl => match us, hl with | [_], _ => rfl
  have M_Keeper_kept : Meth K CK "kept" f_Keeper_kept := ⟨a_Keeper_kept, i_Keeper_kept, k_Keeper_kept⟩
  have F_Keeper_handle := fun_mk (st := sKeHandle) l_Keeper_handle c_Keeper_handle k_Keeper_handle
  have b_Keeper_handle := F_Keeper_handle.binds (ps := ["self", "letter"]) fun _ _ _ _ _ _ us hl => match us, hl with | [_, _], _ => rfl
  have M_Keeper_handle : Meth K CK "handle" f_Keeper_handle := ⟨a_Keeper_handle, i_Keeper_handle, k_Keeper_handle⟩
  have F_Keeper_take := fun_mk (st := sKeTake) l_Keeper_take c_Keeper_take k_Keeper_take
  have b_Keeper_take := F_Keeper_take.binds (ps := ["self", "row", "epoch", "place", "entry"]) fun _ _ _ _ _ _ us hl => match us, hl with | [_, _, _, _, _], _ => rfl
  have M_Keeper_take : Meth K CK "take" f_Keeper_take := ⟨a_Keeper_take, i_Keeper_take, k_Keeper_take⟩
  have F_Keeper_note := fun_mk (st := sKeNote) l_Keeper_note c_Keeper_note k_Keeper_note
  have b_Keeper_note := F_Keeper_note.binds (ps := ["self", "record"]) fun _ _ _ _ _ _ us hl => match us, hl with | [_, _], _ => rfl
  have M_Keeper_note : Meth K CK "note" f_Keeper_note := ⟨a_Keeper_note, i_Keeper_note, k_Keeper_note⟩
  have F_Keeper_reply := fun_mk (st := sKeReply) l_Keeper_reply c_Keeper_reply k_Keeper_reply
  have b_Keeper_reply := F_Keeper_reply.binds (ps := ["self", "told"]) fun _ _ _ _ _ _ us hl => match us, hl with | [_, _], _ => rfl
  have M_Keeper_reply : Meth K CK "reply" f_Keeper_reply := ⟨a_Keeper_reply, i_Keeper_reply, k_Keeper_reply⟩
  have F_Keeper_flush := fun_mk (st := sKeFlush) l_Keeper_flush c_Keeper_flush k_Keeper_flush
  have b_Keeper_flush := F_Keeper_flush.binds (ps := ["self"]) fun _ _ _ _ _ _ us hl => match us, hl with | [_], _ => rfl
  have M_Keeper_flush : Meth K CK "flush" f_Keeper_flush := ⟨a_Keeper_flush, i_Keeper_flush, k_Keeper_flush⟩
  have cls_Keeper : Cls K CK := ⟨pg_Keeper, hd_Keeper, po_Keeper, sa_Keeper⟩
  have g_Keeper := PySem.W.mg_of X G a_Keeper
  have Mk_Keeper : Mk K CK f_Keeper_init := ⟨mk_Keeper, a_Keeper_init, i_Keeper_init, kc_Keeper⟩
  have F_Sequencer_init := fun_mk (st := sSqI) l_Sequencer_init c_Sequencer_init k_Sequencer_init
  have b_Sequencer_init := F_Sequencer_init.binds (ps := ["self", "epoch", "many"]) fun _ _ _ _ _ _ us hl => match us, hl with | [_, _, _], _ => rfl
  have F_Sequencer_to_send := fun_mk (st := sSqSend) l_Sequencer_to_send c_Sequencer_to_send k_Sequencer_to_send
  have b_Sequencer_to_send := F_Sequencer_to_send.binds (ps := ["self"]) fun _ _ _ _ _ _ us hl => match us, hl with | [_], _ => rfl
  have M_Sequencer_to_send : Meth K CS "to_send" f_Sequencer_to_send := ⟨a_Sequencer_to_send, i_Sequencer_to_send, k_Sequencer_to_send⟩
  have F_Sequencer_write_to := fun_mk (st := sSqWrite) l_Sequencer_write_to c_Sequencer_write_to k_Sequencer_write_to
  have b_Sequencer_write_to := F_Sequencer_write_to.binds (ps := ["self", "number"]) fun _ _ _ _ _ _ us hl => match us, hl with | [_, _], _ => rfl
  have M_Sequencer_write_to : Meth K CS "write_to" f_Sequencer_write_to := ⟨a_Sequencer_write_to, i_Sequencer_write_to, k_Sequencer_write_to⟩
  have F_Sequencer_hear := fun_mk (st := sSqHear) l_Sequencer_hear c_Sequencer_hear k_Sequencer_hear
  have b_Sequencer_hear := F_Sequencer_hear.binds (ps := ["self", "letter"]) fun _ _ _ _ _ _ us hl => match us, hl with | [_, _], _ => rfl
  have M_Sequencer_hear : Meth K CS "hear" f_Sequencer_hear := ⟨a_Sequencer_hear, i_Sequencer_hear, k_Sequencer_hear⟩
  have F_Sequencer_add := fun_mk (st := sSqAdd) l_Sequencer_add c_Sequencer_add k_Sequencer_add
  have b_Sequencer_add := F_Sequencer_add.binds (ps := ["self", "entry"]) fun _ _ _ _ _ _ us hl => match us, hl with | [_, _], _ => rfl
  have M_Sequencer_add : Meth K CS "add" f_Sequencer_add := ⟨a_Sequencer_add, i_Sequencer_add, k_Sequencer_add⟩
  have F_Sequencer_settled := fun_mk (st := sSqSettled) l_Sequencer_settled c_Sequencer_settled k_Sequencer_settled
  have b_Sequencer_settled := F_Sequencer_settled.binds (ps := ["self"]) fun _ _ _ _ _ _ us hl => match us, hl with | [_], _ => rfl
  have M_Sequencer_settled : Meth K CS "settled" f_Sequencer_settled := ⟨a_Sequencer_settled, i_Sequencer_settled, k_Sequencer_settled⟩
  have cls_Sequencer : Cls K CS := ⟨pg_Sequencer, hd_Sequencer, po_Sequencer, sa_Sequencer⟩
  have g_Sequencer := PySem.W.mg_of X G a_Sequencer
  have Mk_Sequencer : Mk K CS f_Sequencer_init := ⟨mk_Sequencer, a_Sequencer_init, i_Sequencer_init, kc_Sequencer⟩
  have F_Council_init := fun_mk (st := sCnI) l_Council_init c_Council_init k_Council_init
  have b_Council_init := F_Council_init.binds (ps := ["self", "many"]) fun _ _ _ _ _ _ us hl => match us, hl with | [_, _], _ => rfl
  have F_Council_begin := fun_mk (st := sCnBegin) l_Council_begin c_Council_begin k_Council_begin
  have b_Council_begin := F_Council_begin.binds (ps := ["self", "epoch"]) fun _ _ _ _ _ _ us hl => match us, hl with | [_, _], _ => rfl
  have M_Council_begin : Meth K CC "begin" f_Council_begin := ⟨a_Council_begin, i_Council_begin, k_Council_begin⟩
  have F_Council_send := fun_mk (st := sCnSend) l_Council_send c_Council_send k_Council_send
  have b_Council_send := F_Council_send.binds (ps := ["self", "number"]) fun _ _ _ _ _ _ us hl => match us, hl with | [_, _], _ => rfl
  have M_Council_send : Meth K CC "send" f_Council_send := ⟨a_Council_send, i_Council_send, k_Council_send⟩
  have F_Council_deliver := fun_mk (st := sCnDeliver) l_Council_deliver c_Council_deliver k_Council_deliver
  have b_Council_deliver := F_Council_deliver.binds (ps := ["self", "at", "is_kept"]) fun _ _ _ _ _ _ us hl => match us, hl with | [_, _, _], _ => rfl
  have M_Council_deliver : Meth K CC "deliver" f_Council_deliver := ⟨a_Council_deliver, i_Council_deliver, k_Council_deliver⟩
  have F_Council_bring := fun_mk (st := sCnBring) l_Council_bring c_Council_bring k_Council_bring
  have b_Council_bring := F_Council_bring.binds (ps := ["self", "letter"]) fun _ _ _ _ _ _ us hl => match us, hl with | [_, _], _ => rfl
  have M_Council_bring : Meth K CC "bring" f_Council_bring := ⟨a_Council_bring, i_Council_bring, k_Council_bring⟩
  have F_Council_flush := fun_mk (st := sCnFlush) l_Council_flush c_Council_flush k_Council_flush
  have b_Council_flush := F_Council_flush.binds (ps := ["self", "number"]) fun _ _ _ _ _ _ us hl => match us, hl with | [_, _], _ => rfl
  have M_Council_flush : Meth K CC "flush" f_Council_flush := ⟨a_Council_flush, i_Council_flush, k_Council_flush⟩
  have F_Council_exchange := fun_mk (st := sCnEx) l_Council_exchange c_Council_exchange k_Council_exchange
  have b_Council_exchange := F_Council_exchange.binds (ps := ["self", "number", "up"]) fun _ _ _ _ _ _ us hl => match us, hl with | [_, _, _], _ => rfl
  have M_Council_exchange : Meth K CC "exchange" f_Council_exchange := ⟨a_Council_exchange, i_Council_exchange, k_Council_exchange⟩
  have F_Council_settled := fun_mk (st := sCnSettled) l_Council_settled c_Council_settled k_Council_settled
  have b_Council_settled := F_Council_settled.binds (ps := ["self"]) fun _ _ _ _ _ _ us hl => match us, hl with | [_], _ => rfl
  have M_Council_settled : Meth K CC "settled" f_Council_settled := ⟨a_Council_settled, i_Council_settled, k_Council_settled⟩
  have cls_Council : Cls K CC := ⟨pg_Council, hd_Council, po_Council, sa_Council⟩
  have g_Council := PySem.W.mg_of X G a_Council
  have Mk_Council : Mk K CC f_Council_init := ⟨mk_Council, a_Council_init, i_Council_init, kc_Council⟩
  have F_BadName_init := fun_mk (st := sBadNm) l_BadName_init c_BadName_init k_BadName_init
  have b_BadName_init := F_BadName_init.binds (ps := ["self", "name"]) fun _ _ _ _ _ _ us hl => match us, hl with | [_, _], _ => rfl
  have g_BadName := PySem.W.mg_of X G a_BadName
  have O_BadName : OexB K CB := ⟨xi_BadName, xo_BadName, hd_BadName, sa_BadName, sb_BadName, ty_BadName, kc_BadName⟩
  have xf_BadName : XfC K CB := ⟨ga_BadName, gg_BadName, sb_BadName, hd_BadName⟩
  have te_BadName := exm_self sb_BadName ic_BadName ty_BadName ss_BadName
  have F_is_number := fun_mk (st := sIsNum) l_is_number c_is_number k_is_number
  have b_is_number := F_is_number.binds (ps := ["thing", "low", "high"]) fun _ _ _ _ _ _ us hl => match us, hl with | [_, _, _], _ => rfl
  have g_is_number := PySem.W.mg_of X G a_is_number
  have F_take_letter := fun_mk (st := sTakeL) l_take_letter c_take_letter k_take_letter
  have b_take_letter := F_take_letter.binds (ps := ["letters", "at", "is_kept"]) fun _ _ _ _ _ _ us hl => match us, hl with | [_, _, _], _ => rfl
  have g_take_letter := PySem.W.mg_of X G a_take_letter
  have F_most_of := fun_mk (st := sMostOf) l_most_of c_most_of k_most_of
  have b_most_of := F_most_of.binds (ps := ["many"]) fun _ _ _ _ _ _ us hl => match us, hl with | [_], _ => rfl
  have g_most_of := PySem.W.mg_of X G a_most_of
  have F_newest_row := fun_mk (st := sNewest) l_newest_row c_newest_row k_newest_row
  have b_newest_row := F_newest_row.binds (ps := ["rows"]) fun _ _ _ _ _ _ us hl => match us, hl with | [_], _ => rfl
  have g_newest_row := PySem.W.mg_of X G a_newest_row
  have F_law_number := fun_mk (st := sNum) l_law_number c_law_number k_law_number
  have b_law_number := F_law_number.binds (ps := ["script", "index"]) fun _ _ _ _ _ _ us hl => match us, hl with | [_, _], _ => rfl
  have g_law_number := PySem.W.mg_of X G a_law_number
  have F_law_take := fun_mk (st := sTake) l_law_take c_law_take k_law_take
  have b_law_take := F_law_take.binds (ps := ["draw", "many"]) fun _ _ _ _ _ _ us hl => match us, hl with | [_, _], _ => rfl
  have g_law_take := PySem.W.mg_of X G a_law_take
  have F_law_pick := fun_mk (st := sPick) l_law_pick c_law_pick k_law_pick
  have b_law_pick := F_law_pick.binds (ps := ["draw", "items"]) fun _ _ _ _ _ _ us hl => match us, hl with | [_, _], _ => rfl
  have g_law_pick := PySem.W.mg_of X G a_law_pick
  have F_settled_at := fun_mk (st := sSettledAt) l_settled_at c_settled_at k_settled_at
  have b_settled_at := F_settled_at.binds (ps := ["keepers", "place"]) fun _ _ _ _ _ _ us hl => match us, hl with | [_, _], _ => rfl
  have g_settled_at := PySem.W.mg_of X G a_settled_at
  have F_takes_at := fun_mk (st := sTakesAt) l_takes_at c_takes_at k_takes_at
  have b_takes_at := F_takes_at.binds (ps := ["keepers", "place"]) fun _ _ _ _ _ _ us hl => match us, hl with | [_, _], _ => rfl
  have g_takes_at := PySem.W.mg_of X G a_takes_at
  have F_settled_row := fun_mk (st := sSettledRow) l_settled_row c_settled_row k_settled_row
  have b_settled_row := F_settled_row.binds (ps := ["keepers"]) fun _ _ _ _ _ _ us hl => match us, hl with | [_], _ => rfl
  have g_settled_row := PySem.W.mg_of X G a_settled_row
  have F_law := fun_mk (st := s_law) l_law c_law k_law
  have g_MOST_EPOCH := PySem.W.mg_of X G a_MOST_EPOCH
  have n_len := PySem.W.mg_none_of X G z_len
  have n_int := PySem.W.mg_none_of X G z_int
  have n_abs := PySem.W.mg_none_of X G z_abs
  have n_max := PySem.W.mg_none_of X G z_max
  have n_tuple := PySem.W.mg_none_of X G z_tuple
  have n_list := PySem.W.mg_none_of X G z_list
  have n_range := PySem.W.mg_none_of X G z_range
  have n_sorted := PySem.W.mg_none_of X G z_sorted
  have n_isinstance := PySem.W.mg_none_of X G z_isinstance
  have n_bool := PySem.W.mg_none_of X G z_bool
  have n_str := PySem.W.mg_none_of X G z_str
  refine ⟨PySem.W.fnOf "law" "law" (defArgs s_law) (defBody s_law) (defScope s_law) .none kV_law dc_law pm_law an_law cd_law ct_law, [(tc_newest_row, tp_newest_row)], spLaw K [(tp_newest_row, fun _ _ => "newest_row.<locals>.<lambda>")], List.forall_mem_cons.mpr ⟨ht_newest_row, fun _ z => nomatch z⟩, List.forall_mem_cons.mpr ⟨np_newest_row, fun _ z => nomatch z⟩, List.forall_mem_cons.mpr ⟨PySem.W.codeHd_of_K X ch_newest_row, fun _ z => nomatch z⟩, fun s v => .of_eq rfl, fun H a ns hl _ ht hS => ⟨a, ns, rfl, hS, hl, ?_, fun _ => rfl⟩, fun base KB GB TB => ?_⟩
  · exact List.forall_mem_cons.mpr ⟨NdefX.TabN.nil (ht (tc_newest_row, tp_newest_row) (by simp)), fun _ z => nomatch z⟩
  have tb_newest_row := TB (tc_newest_row, tp_newest_row) (by simp)
  have TD : TxD K mg f_law_number f_law_take := ⟨n_len, n_int, n_abs, g_law_number, g_law_take⟩
  have TK : TxK K mg CK CN := ⟨cls_Keeper, cls_Known, na_Keeper_number, na_Keeper_records, na_Keeper_loose, na_Keeper_waiting, na_Known_epoch, na_Known_row, n_max, n_len, n_tuple⟩
  have TS : TxS K mg CS := ⟨cls_Sequencer, na_Sequencer_epoch, na_Sequencer_many, na_Sequencer_stand, na_Sequencer_row, na_Sequencer_rows, na_Sequencer_taken, n_len, n_tuple, n_list, n_range, n_sorted, n_max⟩
  have TC : TxC K mg CC := ⟨cls_Council, na_Council_keepers, na_Council_sequencers, na_Council_letters, n_len, n_range⟩
  have TBd : TxB K mg CB := ⟨O_BadName, g_BadName⟩
  have cB : CalB l.prog w K mg base CB "name" := ⟨_, _, a_BadName_init, i_BadName_init, b_BadName_init, ok_badI F_BadName_init O_BadName na_BadName_name scBadN fun _ _ _ _ _ _ _ => pss_one (ps_ostB (pv 0) (pv 1))⟩
  have c_num : Cal l.prog w K mg base 1 "is_number" ["thing", "low", "high"] (spIsN) := ⟨_, _, g_is_number, F_is_number.kp, b_is_number, ok_isn F_is_number ⟨n_isinstance, n_int, n_bool⟩⟩
  have c_Known : CalI l.prog w K mg base CN 1 "Known" ["self", "records"] (spKnI K CN) := ⟨_, _, g_Known, Mk_Known, b_Known_init, ok_kni F_Known_init TK⟩
  have c_kept : CalM l.prog w K mg base CK 3 "kept" ["self"] (spKept K CK CN) := ⟨_, _, M_Keeper_kept, b_Keeper_kept, ok_kept F_Keeper_kept TK c_Known⟩
  have c_note : CalM l.prog w K mg base CK 1 "note" ["self", "record"] (spNote K CK) := ⟨_, _, M_Keeper_note, b_Keeper_note, ok_note F_Keeper_note TK⟩
  have c_reply : CalM l.prog w K mg base CK 1 "reply" ["self", "told"] (spReply K CK) := ⟨_, _, M_Keeper_reply, b_Keeper_reply, ok_reply F_Keeper_reply TK⟩
  have c_tk : CalM l.prog w K mg base CK 2 "take" ["self", "row", "epoch", "place", "entry"] (spTk K CK) := ⟨_, _, M_Keeper_take, b_Keeper_take, ok_tk F_Keeper_take TK c_note c_reply⟩
  have c_handle : CalM l.prog w K mg base CK 4 "handle" ["self", "letter"] (spHd K CK) := ⟨_, _, M_Keeper_handle, b_Keeper_handle, ok_hd F_Keeper_handle TK c_kept c_note c_reply c_tk⟩
  have c_kflush : CalM l.prog w K mg base CK 1 "flush" ["self"] (spFlush K CK) := ⟨_, _, M_Keeper_flush, b_Keeper_flush, ok_flush F_Keeper_flush TK⟩
  have c_Keeper : CalI l.prog w K mg base CK 1 "Keeper" ["self", "number"] (spKeI K CK) := ⟨_, _, g_Keeper, Mk_Keeper, b_Keeper_init, ok_kei F_Keeper_init TK⟩
  have c_most : Cal l.prog w K mg base 1 "most_of" ["many"] (spMost) := ⟨_, _, g_most_of, F_most_of.kp, b_most_of, ok_most F_most_of⟩
  have c_newest : Cal l.prog w K mg base 3 "newest_row" ["rows"] (spNewest K [(tp_newest_row, fun _ _ => "newest_row.<locals>.<lambda>")]) := ⟨_, _, g_newest_row, F_newest_row.kp, b_newest_row, ok_newest F_newest_row cc_newest_row tb_newest_row (by simp) (fun p hp _ => by rw [List.mem_singleton.mp hp]) n_len n_max n_range⟩
  have c_Seq : CalI l.prog w K mg base CS 1 "Sequencer" ["self", "epoch", "many"] (spSqI K CS) := ⟨_, _, g_Sequencer, Mk_Sequencer, b_Sequencer_init, ok_sqi F_Sequencer_init TS⟩
  have c_write : CalM l.prog w K mg base CS 1 "write_to" ["self", "number"] (spWrite K CS) := ⟨_, _, M_Sequencer_write_to, b_Sequencer_write_to, ok_write F_Sequencer_write_to TS⟩
  have c_send : CalM l.prog w K mg base CS 2 "to_send" ["self"] (spSend K CS) := ⟨_, _, M_Sequencer_to_send, b_Sequencer_to_send, ok_send F_Sequencer_to_send TS c_write⟩
  have c_settled : CalM l.prog w K mg base CS 2 "settled" ["self"] (spSettled K CS) := ⟨_, _, M_Sequencer_settled, b_Sequencer_settled, ok_settled F_Sequencer_settled TS c_most⟩
  have c_hear : CalM l.prog w K mg base CS 4 "hear" ["self", "letter"] (spHear K CS [(tp_newest_row, fun _ _ => "newest_row.<locals>.<lambda>")]) := ⟨_, _, M_Sequencer_hear, b_Sequencer_hear, ok_hear F_Sequencer_hear TS c_most c_newest⟩
  have c_add : CalMX l.prog w K mg base CS 4 "add" ["self", "entry"] (spAdd K CS CB) := ⟨_, _, M_Sequencer_add, b_Sequencer_add, ok_add F_Sequencer_add TS TBd cB⟩
  have c_takeL : CalX l.prog w K mg base 4 "take_letter" ["letters", "at", "is_kept"] (spTakeL K CB) := ⟨_, _, g_take_letter, F_take_letter.kp, b_take_letter, ok_takeL F_take_letter n_len TBd c_num cB⟩
  have c_bring : CalM l.prog w K mg base CC 5 "bring" ["self", "letter"] (spBring K CC CK CS [(tp_newest_row, fun _ _ => "newest_row.<locals>.<lambda>")]) := ⟨_, _, M_Council_bring, b_Council_bring, ok_bring F_Council_bring TC cls_Keeper cls_Sequencer c_handle c_hear⟩
  have c_Council : CalI l.prog w K mg base CC 3 "Council" ["self", "many"] (spCnI K CC CK CS) := ⟨_, _, g_Council, Mk_Council, b_Council_init, ok_cni F_Council_init TC c_Keeper⟩
  have c_begin : CalMX l.prog w K mg base CC 4 "begin" ["self", "epoch"] (spBegin K CC CK CS CB [(tp_newest_row, fun _ _ => "newest_row.<locals>.<lambda>")]) := ⟨_, _, M_Council_begin, b_Council_begin, ok_begin F_Council_begin TC TS TBd g_MOST_EPOCH cB c_num c_Seq⟩
  have c_csend : CalM l.prog w K mg base CC 3 "send" ["self", "number"] (spSendC K CC CK CS [(tp_newest_row, fun _ _ => "newest_row.<locals>.<lambda>")]) := ⟨_, _, M_Council_send, b_Council_send, ok_cnsend F_Council_send TC cls_Sequencer c_send⟩
  have c_cflush : CalM l.prog w K mg base CC 2 "flush" ["self", "number"] (spFlushC K CC CK CS [(tp_newest_row, fun _ _ => "newest_row.<locals>.<lambda>")]) := ⟨_, _, M_Council_flush, b_Council_flush, ok_cnflush F_Council_flush TC cls_Keeper c_kflush⟩
  have c_deliver : CalMX l.prog w K mg base CC 6 "deliver" ["self", "at", "is_kept"] (spDeliverC K CC CK CS CB [(tp_newest_row, fun _ _ => "newest_row.<locals>.<lambda>")]) := ⟨_, _, M_Council_deliver, b_Council_deliver, ok_cndeliver F_Council_deliver TC c_takeL c_bring⟩
  have c_ex : CalM l.prog w K mg base CC 6 "exchange" ["self", "number", "up"] (spExC K CC CK CS [(tp_newest_row, fun _ _ => "newest_row.<locals>.<lambda>")]) := ⟨_, _, M_Council_exchange, b_Council_exchange, ok_cnex F_Council_exchange TC cls_Keeper cls_Sequencer c_send c_kflush c_bring⟩
  have c_takes_at : Cal l.prog w K mg base 1 "takes_at" ["keepers", "place"] (spTakesAt K CK) := ⟨_, _, g_takes_at, F_takes_at.kp, b_takes_at, ok_takesAt F_takes_at TK⟩
  have c_settled_at : Cal l.prog w K mg base 2 "settled_at" ["keepers", "place"] (spSettledAt K CK) := ⟨_, _, g_settled_at, F_settled_at.kp, b_settled_at, ok_setAt F_settled_at TK c_takes_at c_most⟩
  have c_settled_row : Cal l.prog w K mg base 3 "settled_row" ["keepers"] (spSetRow K CK) := ⟨_, _, g_settled_row, F_settled_row.kp, b_settled_row, ok_setRow F_settled_row TK c_settled_at⟩
  have c_csettled : CalM l.prog w K mg base CC 4 "settled" ["self"] (spSetC K CC CK CS) := ⟨_, _, M_Council_settled, b_Council_settled, ok_cnsettled F_Council_settled TC c_settled_row⟩
  have c_take : Cal l.prog w K mg base 2 "_law_take" ["draw", "many"] (spTake K) := ⟨_, _, g_law_take, F_law_take.kp, b_law_take, ok_take F_law_take TD F_law_number b_law_number⟩
  have c_pick : Cal l.prog w K mg base 3 "_law_pick" ["draw", "items"] (spPick K) := ⟨_, _, g_law_pick, F_law_pick.kp, b_law_pick, ok_pick F_law_pick TD F_law_number b_law_number F_law_take b_law_take⟩
  exact ok_law F_law ⟨⟨TC, TK, TS⟩, ⟨g_BadName, xf_BadName, na_BadName_name, te_BadName⟩, n_tuple, qe_Sequencer, ob_Sequencer⟩ c_take c_pick c_most c_Council c_begin c_add c_csend c_cflush c_ex c_deliver c_csettled c_settled
theorem walk {l : PySem.W.OpenLaw} {q : Program} {loose : List PySem.Str} {XP : (PySem.Str → Option Value) → Heap → Prop} {YP : World → Heap → Prop} {d : DefRec} {K : Params → PySem.W.Frag} (hn : l.most = some 63) (hdf : d.params.defaults = [])
    (hY : ∀ (w : World) (h : Heap), YP w h → (K w.params).In h)
    (F : ∀ (w : World) (mg : PySem.Str → Option Value) (fa : Addr) (h : Heap), YP w h → (K w.params).In h → h.Ns mainGlobals mg → mg d.name = some (.ref fa) → LamX.LawAtS l w (K w.params) CX0 7 63 "script" mg fa h) :
    PySem.W.WalkO q loose XP YP l.row.toRowW d [] (fun f vs => PySem.call f vs) :=
  LamX.walk_ofTs (n := 63) (k := 7) (x := "script") (CX := fun _ => CX0) hn (by decide) hdf ⟨rfl, by decide, by decide⟩ hY F fun _ _ _ _ _ z => z
end Mc.Cn
open PySem PySem.W PyProof.Rows
set_option maxRecDepth 100000 in
set_option maxHeartbeats 0 in
theorem PySem.Challenge.cw_mastcalls_k41_whole_takes_over_holds : PySem.Challenge.rw_mastcalls_k41_whole_takes_over.Holds := by
  w_on; o_law; k_head; (case hw => w_witness2)
  k_fill
  refine Mc.Cn.walk (l := PySem.Challenge.rw_mastcalls_k41_whole_takes_over) rfl rfl (fun w h Y => PySem.W.km_in_of Y) ?F
  case F =>
    intro w mg fa h Y KX G hmg
    refine' Mc.Cn.all_mk KX G hmg ?a_Known ?a_Known_init ?i_Known_init ?l_Known_init ?c_Known_init ?k_Known_init ?pg_Known ?hd_Known ?po_Known ?sa_Known ?mk_Known ?kc_Known ?na_Known_epoch ?na_Known_row ?a_Keeper ?a_Keeper_init ?i_Keeper_init ?l_Keeper_init ?c_Keeper_init ?k_Keeper_init ?a_Keeper_kept ?i_Keeper_kept ?l_Keeper_kept ?c_Keeper_kept ?k_Keeper_kept ?a_Keeper_handle ?i_Keeper_handle ?l_Keeper_handle ?c_Keeper_handle ?k_Keeper_handle ?a_Keeper_take ?i_Keeper_take ?l_Keeper_take ?c_Keeper_take ?k_Keeper_take ?a_Keeper_note ?i_Keeper_note ?l_Keeper_note ?c_Keeper_note ?k_Keeper_note ?a_Keeper_reply ?i_Keeper_reply ?l_Keeper_reply ?c_Keeper_reply ?k_Keeper_reply ?a_Keeper_flush ?i_Keeper_flush ?l_Keeper_flush ?c_Keeper_flush ?k_Keeper_flush ?pg_Keeper ?hd_Keeper ?po_Keeper ?sa_Keeper ?mk_Keeper ?kc_Keeper ?na_Keeper_number ?na_Keeper_records ?na_Keeper_loose ?na_Keeper_waiting ?a_Sequencer ?a_Sequencer_init ?i_Sequencer_init ?l_Sequencer_init ?c_Sequencer_init ?k_Sequencer_init ?a_Sequencer_to_send ?i_Sequencer_to_send ?l_Sequencer_to_send ?c_Sequencer_to_send ?k_Sequencer_to_send ?a_Sequencer_write_to ?i_Sequencer_write_to ?l_Sequencer_write_to ?c_Sequencer_write_to ?k_Sequencer_write_to ?a_Sequencer_hear ?i_Sequencer_hear ?l_Sequencer_hear ?c_Sequencer_hear ?k_Sequencer_hear ?a_Sequencer_add ?i_Sequencer_add ?l_Sequencer_add ?c_Sequencer_add ?k_Sequencer_add ?a_Sequencer_settled ?i_Sequencer_settled ?l_Sequencer_settled ?c_Sequencer_settled ?k_Sequencer_settled ?pg_Sequencer ?hd_Sequencer ?po_Sequencer ?sa_Sequencer ?mk_Sequencer ?kc_Sequencer ?qe_Sequencer ?ob_Sequencer ?na_Sequencer_epoch ?na_Sequencer_many ?na_Sequencer_stand ?na_Sequencer_row ?na_Sequencer_rows ?na_Sequencer_taken ?a_Council ?a_Council_init ?i_Council_init ?l_Council_init ?c_Council_init ?k_Council_init ?a_Council_begin ?i_Council_begin ?l_Council_begin ?c_Council_begin ?k_Council_begin ?a_Council_send ?i_Council_send ?l_Council_send ?c_Council_send ?k_Council_send ?a_Council_deliver ?i_Council_deliver ?l_Council_deliver ?c_Council_deliver ?k_Council_deliver ?a_Council_bring ?i_Council_bring ?l_Council_bring ?c_Council_bring ?k_Council_bring ?a_Council_flush ?i_Council_flush ?l_Council_flush ?c_Council_flush ?k_Council_flush ?a_Council_exchange ?i_Council_exchange ?l_Council_exchange ?c_Council_exchange ?k_Council_exchange ?a_Council_settled ?i_Council_settled ?l_Council_settled ?c_Council_settled ?k_Council_settled ?pg_Council ?hd_Council ?po_Council ?sa_Council ?mk_Council ?kc_Council ?na_Council_keepers ?na_Council_sequencers ?na_Council_letters ?a_BadName ?a_BadName_init ?i_BadName_init ?l_BadName_init ?c_BadName_init ?k_BadName_init ?xi_BadName ?xo_BadName ?hd_BadName ?sa_BadName ?sb_BadName ?ty_BadName ?kc_BadName ?ga_BadName ?gg_BadName ?ic_BadName ?ss_BadName ?na_BadName_name ?a_is_number ?l_is_number ?c_is_number ?k_is_number ?a_take_letter ?l_take_letter ?c_take_letter ?k_take_letter ?a_most_of ?l_most_of ?c_most_of ?k_most_of ?a_newest_row ?l_newest_row ?c_newest_row ?k_newest_row ?a_law_number ?l_law_number ?c_law_number ?k_law_number ?a_law_take ?l_law_take ?c_law_take ?k_law_take ?a_law_pick ?l_law_pick ?c_law_pick ?k_law_pick ?a_settled_at ?l_settled_at ?c_settled_at ?k_settled_at ?a_takes_at ?l_takes_at ?c_takes_at ?k_takes_at ?a_settled_row ?l_settled_row ?c_settled_row ?k_settled_row ?a_law ?l_law ?c_law ?k_law ?a_MOST_EPOCH ?z_len ?z_int ?z_abs ?z_max ?z_tuple ?z_list ?z_range ?z_sorted ?z_isinstance ?z_bool ?z_str ?ht_newest_row ?cc_newest_row ?ch_newest_row ?np_newest_row
    (case a_Known => k_is)
    (case a_Known_init => k_is)
    (case i_Known_init => k_is)
    (case l_Known_init => k_is)
    (case c_Known_init => k_is)
    (case k_Known_init => k_is)
    (case pg_Known => k_is)
    (case hd_Known => k_is)
    (case po_Known => k_is)
    (case sa_Known => k_is)
    (case mk_Known => k_is)
    (case kc_Known => k_is)
    (case na_Known_epoch => k_is)
    (case na_Known_row => k_is)
    (case a_Keeper => k_is)
    (case a_Keeper_init => k_is)
    (case i_Keeper_init => k_is)
    (case l_Keeper_init => k_is)
    (case c_Keeper_init => k_is)
    (case k_Keeper_init => k_is)
    (case a_Keeper_kept => k_is)
    (case i_Keeper_kept => k_is)
    (case l_Keeper_kept => k_is)
    (case c_Keeper_kept => k_is)
    (case k_Keeper_kept => k_is)
    (case a_Keeper_handle => k_is)
    (case i_Keeper_handle => k_is)
    (case l_Keeper_handle => k_is)
    (case c_Keeper_handle => k_is)
    (case k_Keeper_handle => k_is)
    (case a_Keeper_take => k_is)
    (case i_Keeper_take => k_is)
    (case l_Keeper_take => k_is)
    (case c_Keeper_take => k_is)
    (case k_Keeper_take => k_is)
    (case a_Keeper_note => k_is)
    (case i_Keeper_note => k_is)
    (case l_Keeper_note => k_is)
    (case c_Keeper_note => k_is)
    (case k_Keeper_note => k_is)
    (case a_Keeper_reply => k_is)
    (case i_Keeper_reply => k_is)
    (case l_Keeper_reply => k_is)
    (case c_Keeper_reply => k_is)
    (case k_Keeper_reply => k_is)
    (case a_Keeper_flush => k_is)
    (case i_Keeper_flush => k_is)
    (case l_Keeper_flush => k_is)
    (case c_Keeper_flush => k_is)
    (case k_Keeper_flush => k_is)
    (case pg_Keeper => k_is)
    (case hd_Keeper => k_is)
    (case po_Keeper => k_is)
    (case sa_Keeper => k_is)
    (case mk_Keeper => k_is)
    (case kc_Keeper => k_is)
    (case na_Keeper_number => k_is)
    (case na_Keeper_records => k_is)
    (case na_Keeper_loose => k_is)
    (case na_Keeper_waiting => k_is)
    (case a_Sequencer => k_is)
    (case a_Sequencer_init => k_is)
    (case i_Sequencer_init => k_is)
    (case l_Sequencer_init => k_is)
    (case c_Sequencer_init => k_is)
    (case k_Sequencer_init => k_is)
    (case a_Sequencer_to_send => k_is)
    (case i_Sequencer_to_send => k_is)
    (case l_Sequencer_to_send => k_is)
    (case c_Sequencer_to_send => k_is)
    (case k_Sequencer_to_send => k_is)
    (case a_Sequencer_write_to => k_is)
    (case i_Sequencer_write_to => k_is)
    (case l_Sequencer_write_to => k_is)
    (case c_Sequencer_write_to => k_is)
    (case k_Sequencer_write_to => k_is)
    (case a_Sequencer_hear => k_is)
    (case i_Sequencer_hear => k_is)
    (case l_Sequencer_hear => k_is)
    (case c_Sequencer_hear => k_is)
    (case k_Sequencer_hear => k_is)
    (case a_Sequencer_add => k_is)
    (case i_Sequencer_add => k_is)
    (case l_Sequencer_add => k_is)
    (case c_Sequencer_add => k_is)
    (case k_Sequencer_add => k_is)
    (case a_Sequencer_settled => k_is)
    (case i_Sequencer_settled => k_is)
    (case l_Sequencer_settled => k_is)
    (case c_Sequencer_settled => k_is)
    (case k_Sequencer_settled => k_is)
    (case pg_Sequencer => k_is)
    (case hd_Sequencer => k_is)
    (case po_Sequencer => k_is)
    (case sa_Sequencer => k_is)
    (case mk_Sequencer => k_is)
    (case kc_Sequencer => k_is)
    (case qe_Sequencer => k_is)
    (case ob_Sequencer => first | k_is | rfl | decide +kernel)
    (case na_Sequencer_epoch => k_is)
    (case na_Sequencer_many => k_is)
    (case na_Sequencer_stand => k_is)
    (case na_Sequencer_row => k_is)
    (case na_Sequencer_rows => k_is)
    (case na_Sequencer_taken => k_is)
    (case a_Council => k_is)
    (case a_Council_init => k_is)
    (case i_Council_init => k_is)
    (case l_Council_init => k_is)
    (case c_Council_init => k_is)
    (case k_Council_init => k_is)
    (case a_Council_begin => k_is)
    (case i_Council_begin => k_is)
    (case l_Council_begin => k_is)
    (case c_Council_begin => k_is)
    (case k_Council_begin => k_is)
    (case a_Council_send => k_is)
    (case i_Council_send => k_is)
    (case l_Council_send => k_is)
    (case c_Council_send => k_is)
    (case k_Council_send => k_is)
    (case a_Council_deliver => k_is)
    (case i_Council_deliver => k_is)
    (case l_Council_deliver => k_is)
    (case c_Council_deliver => k_is)
    (case k_Council_deliver => k_is)
    (case a_Council_bring => k_is)
    (case i_Council_bring => k_is)
    (case l_Council_bring => k_is)
    (case c_Council_bring => k_is)
    (case k_Council_bring => k_is)
    (case a_Council_flush => k_is)
    (case i_Council_flush => k_is)
    (case l_Council_flush => k_is)
    (case c_Council_flush => k_is)
    (case k_Council_flush => k_is)
    (case a_Council_exchange => k_is)
    (case i_Council_exchange => k_is)
    (case l_Council_exchange => k_is)
    (case c_Council_exchange => k_is)
    (case k_Council_exchange => k_is)
    (case a_Council_settled => k_is)
    (case i_Council_settled => k_is)
    (case l_Council_settled => k_is)
    (case c_Council_settled => k_is)
    (case k_Council_settled => k_is)
    (case pg_Council => k_is)
    (case hd_Council => k_is)
    (case po_Council => k_is)
    (case sa_Council => k_is)
    (case mk_Council => k_is)
    (case kc_Council => k_is)
    (case na_Council_keepers => k_is)
    (case na_Council_sequencers => k_is)
    (case na_Council_letters => k_is)
    (case a_BadName => k_is)
    (case a_BadName_init => k_is)
    (case i_BadName_init => k_is)
    (case l_BadName_init => k_is)
    (case c_BadName_init => k_is)
    (case k_BadName_init => k_is)
    (case xi_BadName => first | k_is | rfl | decide +kernel)
    (case xo_BadName => first | k_is | rfl | decide +kernel)
    (case hd_BadName => k_is)
    (case sa_BadName => k_is)
    (case sb_BadName => k_is)
    (case ty_BadName => k_is)
    (case kc_BadName => k_is)
    (case ga_BadName => k_is)
    (case gg_BadName => k_is)
    (case ic_BadName => k_is)
    (case ss_BadName => first | rfl | k_is)
    (case na_BadName_name => k_is)
    (case a_is_number => k_is)
    (case l_is_number => k_is)
    (case c_is_number => k_is)
    (case k_is_number => k_is)
    (case a_take_letter => k_is)
    (case l_take_letter => k_is)
    (case c_take_letter => k_is)
    (case k_take_letter => k_is)
    (case a_most_of => k_is)
    (case l_most_of => k_is)
    (case c_most_of => k_is)
    (case k_most_of => k_is)
    (case a_newest_row => k_is)
    (case l_newest_row => k_is)
    (case c_newest_row => k_is)
    (case k_newest_row => k_is)
    (case a_law_number => k_is)
    (case l_law_number => k_is)
    (case c_law_number => k_is)
    (case k_law_number => k_is)
    (case a_law_take => k_is)
    (case l_law_take => k_is)
    (case c_law_take => k_is)
    (case k_law_take => k_is)
    (case a_law_pick => k_is)
    (case l_law_pick => k_is)
    (case c_law_pick => k_is)
    (case k_law_pick => k_is)
    (case a_settled_at => k_is)
    (case l_settled_at => k_is)
    (case c_settled_at => k_is)
    (case k_settled_at => k_is)
    (case a_takes_at => k_is)
    (case l_takes_at => k_is)
    (case c_takes_at => k_is)
    (case k_takes_at => k_is)
    (case a_settled_row => k_is)
    (case l_settled_row => k_is)
    (case c_settled_row => k_is)
    (case k_settled_row => k_is)
    (case a_law => k_is)
    (case l_law => k_is)
    (case c_law => k_is)
    (case k_law => k_is)
    (case a_MOST_EPOCH => k_is)
    (case z_len => k_is)
    (case z_int => k_is)
    (case z_abs => k_is)
    (case z_max => k_is)
    (case z_tuple => k_is)
    (case z_list => k_is)
    (case z_range => k_is)
    (case z_sorted => k_is)
    (case z_isinstance => k_is)
    (case z_bool => k_is)
    (case z_str => k_is)
    (case ht_newest_row => exact PySem.W.km_tabs_of Y _ (by first | exact List.mem_cons_self | exact List.mem_cons_of_mem _ List.mem_cons_self))
    (case cc_newest_row => rfl)
    (case ch_newest_row => kernel_rfl)
    (case np_newest_row => kernel_rfl)
