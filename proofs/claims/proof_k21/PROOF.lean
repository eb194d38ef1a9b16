import PyProof.Rows.All
import Wide.All
import OpenK.AllK
import Wide.FinOn
import HandS.ForMost
import HandS.Style
import HandS.Conv
import HandS.DictComp
import HandS.Evl
import HandS.SortRule
import KE.KDictPairs
import HandS.SetKeys
import HandS.Walk
import HandS.IsInst
import HandS.ExcInit
import HandS.ExcField
import KE.KExcInit
import HandS.WordsExc
import KE.SortKeyHeap
import HandS.FromBytesMap
import HandS.SortKw
import KE.DataCmp
import HandS.SetFor
import HandS.OwnEq
import HandS.More
import HandS.ListItems
import HandS.DeepEq
import HandS.TupAny
import KE.GoesEnum
import KE.KDictIter
import HandS.Zip
import HandS.Set
import HandS.SetBool
import KE.KDictList
import PySem.Challenge.RW_mastcalls_k21_whole_scenes
set_option Elab.async false
set_option maxRecDepth 100000
set_option maxHeartbeats 4000000
namespace Mc
open PySem L2 PySem.Spec PyProof.Rows
/-! rules that the layer lacks -/
theorem get_list {X : Cx} : PGet X (rIxL X.K) := by
  intro pins s σ H o i ov iv Q I ro ri h
  obtain ⟨p, xs, k, v, rfl, rfl, hs, hv, q⟩ := h
  cases ro
  obtain ⟨t, rfl⟩ := ri
  obtain ⟨its, r, pl, hz⟩ := I.list hs
  obtain ⟨j, h1, h2, h3, h4, h5⟩ := atI_get hv
  obtain ⟨w, ew, rw'⟩ := r.get h2
  have hl := r.length
  have hn := line63
  have fin : EP X pins σ Q w s := ⟨v, H, I, rw', q⟩
  by_cases h0 : 0 ≤ k
  · have hj : k.toNat = j := by
      rw [seqIndex_of h0 h5] at h1
      exact Option.some.inj h1
    exact wpAny_getItem_list pl.isList h0 (by omega) (by rw [hj]; simpa using ew) fin
  · have hj : (k + (its.toArray.size : Int)).toNat = j := by
      rw [seqIndex_neg (by omega) h4] at h1
      rw [List.size_toArray, ← hl]
      exact Option.some.inj h1
    exact wpAny_getItem_list_neg pl.isList (by omega) (by rw [List.size_toArray] <;> omega) (by omega) (by rw [hj]; simpa using ew) fin

/-! ### a heap that is kept but for some objects -/
def Kp (M : List Addr) (H H' : Hp) : Prop := ∀ b o, H b = some o → b ∉ M → H' b = some o
theorem Kp.refl (M : List Addr) (H : Hp) : Kp M H H := fun _ _ h _ => h
theorem Kp.trans {M : List Addr} {H H1 H2 : Hp} (a : Kp M H H1) (b : Kp M H1 H2) : Kp M H H2 := fun c o h n => b c o (a c o h n) n
theorem Kp.mono {M N : List Addr} {H H' : Hp} (k : Kp M H H') (h : ∀ b ∈ M, b ∈ N) : Kp N H H' := fun b o e n => k b o e fun z => n (h b z)
theorem Kp.new {M : List Addr} {p : Addr} {H : Hp} {o : HO} (h : H p = none) : Kp M H (upd H p o) := fun b u e _ => by
  rw [upd_ne (ne_of_none e h)]
  exact e
theorem Kp.at {M : List Addr} {d : Addr} {H : Hp} {o : HO} (h : d ∈ M) : Kp M H (upd H d o) := fun b u e n => by
  rw [upd_ne fun z => n (by rw [z]; exact h)]
  exact e
theorem Kp.same {M : List Addr} {H H' : Hp} (h : Same H H') : Kp M H H' := fun b o e _ => h b o e
/-- nothing tracked is lost -/
def Lv (H H' : Hp) : Prop := ∀ b, H' b = none → H b = none
theorem Kp.live {M : List Addr} {H H' : Hp} (k : Kp M H H') (h : ∀ d ∈ M, ∃ o, H' d = some o) {p : Addr} (e : H' p = none) : H p = none := by
  cases q : H p with
  | none => rfl
  | some u =>
    by_cases n : p ∈ M
    · obtain ⟨o, z⟩ := h p n
      rw [z] at e; cases e
    · rw [k p u q n] at e; cases e
/-- what was not there may be changed freely -/
theorem Kp.drop {M : List Addr} {p : Addr} {H H' : Hp} (k : Kp (p :: M) H H') (h : H p = none) : Kp M H H' := fun b o e n => k b o e fun z => by
  rcases List.mem_cons.mp z with rfl | z
  · rw [h] at e; cases e
  · exact n z

/-- the draw stands at d: the script, and how many were drawn; M: all that may be changed -/
structure Dr (K : PySem.W.Frag) (M : List Addr) (d a : Addr) (H : Hp) : Prop where
  at_ : ∃ k : Int, H d = some (.lst [.ref a, .int k])
  mem : d ∈ M
  sc : ∃ ns : List Int, ns.length ≤ 63 ∧ ∀ H', Kp M H H' → SqL K H' a (ns.map V.int)
section
variable {K : PySem.W.Frag} {M : List Addr} {d a : Addr} {H H' : Hp}
theorem Dr.keep (D : Dr K M d a H) (k : Kp M H H') (e : ∀ o, H d = some o → H' d = some o) : Dr K M d a H' := by
  obtain ⟨⟨k0, h⟩, m, ns, hl, hs⟩ := D
  exact ⟨⟨k0, e _ h⟩, m, ns, hl, fun H2 k2 => hs H2 (k.trans k2)⟩
theorem Dr.same (D : Dr K M d a H) (k : Same H H') : Dr K M d a H' := D.keep (Kp.same k) fun o h => k _ o h
theorem Dr.new {p : Addr} {o : HO} (D : Dr K M d a H) (h : H p = none) : Dr K M d a (upd H p o) := D.same fun b u e => by rw [upd_ne (ne_of_none e h)]; exact e
theorem Dr.next (D : Dr K M d a H) (k : Kp M H H') {j : Int} (h : H' d = some (.lst [.ref a, .int j])) : Dr K M d a H' := by
  obtain ⟨_, m, ns, hl, hs⟩ := D
  exact ⟨⟨j, h⟩, m, ns, hl, fun H2 k2 => hs H2 (k.trans k2)⟩
/-- one more object may be changed, that was not there -/
theorem Dr.grow {p : Addr} (D : Dr K M d a H) (h : H p = none) : Dr K (p :: M) d a H := by
  obtain ⟨k0, m, ns, hl, hs⟩ := D
  exact ⟨k0, List.mem_cons_of_mem _ m, ns, hl, fun H2 k2 => hs H2 (k2.drop h)⟩
/-- fewer may be changed -/
theorem Dr.sub {N : List Addr} (D : Dr K M d a H) (h : ∀ b ∈ N, b ∈ M) (hd : d ∈ N) : Dr K N d a H := by
  obtain ⟨k0, _, ns, hl, hs⟩ := D
  exact ⟨k0, hd, ns, hl, fun H2 k2 => hs H2 (k2.mono h)⟩
/-- a draw made of the script -/
theorem Dr.mk' {ns : List Int} {j : Int} (hs : SqL K H a (ns.map V.int)) (hl : ns.length ≤ 63) (hd : H d = none) : Dr K [d] d a (upd H d (.lst [.ref a, .int j])) := by
  refine ⟨⟨j, upd_same⟩, List.mem_singleton.mpr rfl, ns, hl, fun H' k => ?_⟩
  have ne : ∀ {o}, H a = some o → a ∉ [d] := fun h z => ne_of_none h hd (List.mem_singleton.mp z)
  rcases hs with (h | ⟨o, h⟩) | h
  · exact .inl (.inl (k a _ (by rw [upd_ne (ne_of_none h hd)]; exact h) (ne h)))
  · exact .inl (.inr ⟨o, k a _ (by rw [upd_ne (ne_of_none h hd)]; exact h) (ne h)⟩)
  · exact .inr h
end

theorem rel_int {i : Int} {t : Tok} : RelV (.int i) (.int i t) := ⟨t, rfl⟩
theorem rel_str {x : PySem.Str} {t : Tok} : RelV (.str x) (.str x t) := ⟨t, rfl⟩
/-! ### rules for a comprehension's block: K by its name -/
section
variable {X : Cx} {K : PySem.W.Frag} {e : Expr} {f : PySem.Str} {pos : Pos} {ta : TE}
theorem pe_fldK (h : X.K = K) (he : PE X e ta) (hb : attributeBase e f X.env (eval e X.env) = eval e X.env) : PE X (.Attribute e f pos) (tFld K ta f) := by
  subst h
  exact pe_fld he hb
theorem ix_listK (h : X.K = K) : IxR X (rIxL K) := by
  subst h
  exact ix_list
theorem ix_tupK (h : X.K = K) : IxR X (rIxT K) := by
  subst h
  exact ix_tup
theorem sl_listK (h : X.K = K) : SlR X (rSlL K) := by
  subst h
  exact sl_list
theorem call_len_seqK (h : X.K = K) : CallR X (.builtin "len") (fun xs H Q => ∃ p ys, xs = [.ref p] ∧ (SqL K H p ys ∨ SqT K H p ys) ∧ Q (.int ys.length) H) := by
  subst h
  exact call_len_seq
theorem op_eqDK (h : X.K = K) (hu : X.A.units + 64 < cLine) : OpR X (compareOp .Eq) (rEqD K) := by
  subst h
  exact op_eqD hu
theorem op_neDK (h : X.K = K) (hu : X.A.units + 64 < cLine) : OpR X (compareOp .NotEq) (rNeD K) := by
  subst h
  exact op_neD hu
theorem pe_tupleOfK (h : X.K = K) {a : Expr} {p pos : Pos} (hg : Gl X "tuple") (hm : X.mg "tuple" = none) (ha : PE X a ta) (na : starEach [a] X.env = (false, eval a X.env) :: starEach [] X.env := by rfl) :
    PE X (.Call (.Name "tuple" p) [a] [] pos) (tThen ta (kTup K)) := by
  subst h
  exact pe_tupleOf hg hm ha na
end
/-! ### defs, methods, classes: what a caller needs -/
/-- a def of the module keeps its promise -/
def Cal (P : Program) (w : World) (K : PySem.W.Frag) (mg : PySem.Str → Option Value) (base : Heap) (k : Nat) (x : PySem.Str) (ps : List PySem.Str) (sp : Sp) : Prop :=
  ∃ (f : Addr) (fd : FuncData), mg x = some (.ref f) ∧ PySem.W.keepIn K (.ref f) = true ∧ Binds K fd ps [] ∧ FnOk P w K mg base CX0 k f fd ps sp
/-- a method of the class at C -/
def CalM (P : Program) (w : World) (K : PySem.W.Frag) (mg : PySem.Str → Option Value) (base : Heap) (C : Addr) (k : Nat) (m : PySem.Str) (ps : List PySem.Str) (sp : Sp) : Prop :=
  ∃ (f : Addr) (fd : FuncData), Meth K C m f ∧ Binds K fd ps [] ∧ FnOk P w K mg base CX0 k f fd ps sp
/-- the class of that name, made by its __init__ -/
def CalI (P : Program) (w : World) (K : PySem.W.Frag) (mg : PySem.Str → Option Value) (base : Heap) (C : Addr) (k : Nat) (x : PySem.Str) (ps : List PySem.Str) (sp : Sp) : Prop :=
  ∃ (f : Addr) (fd : FuncData), mg x = some (.ref C) ∧ Mk K C f ∧ Binds K fd ps [] ∧ FnOk P w K mg base CX0 k f fd ps sp
section
variable {X : Cx} {k : Nat} {x m : PySem.Str} {ps : List PySem.Str} {sp : Sp} {C : Addr} {p pos apos : Pos} {e o : Expr} {es : List Expr} {t : TA} {ta : TE}
theorem pe_cal (c : Cal X.prog X.w X.K X.mg X.base k x ps sp) (hr : Room k X.A) (hg : Gl X x) (ha : PA X (e :: es) t) (hdb : (x == ("__debug__" : PySem.Str)) = false := by decide)
    (he : starEach (e :: es) X.env = (false, eval e X.env) :: starEach es X.env := by rfl) (hpl : (backTo pos (starEach es X.env)).any (·.1) = false := by rfl) : PE X (.Call (.Name x p) (e :: es) [] pos) (tCall sp [] E0 t) := by
  obtain ⟨f, fd, hm, hk, hb, F⟩ := c
  exact pe_call F hr hg hm hk hb .nil pass0 ha hdb he hpl
theorem pe_cal0 (c : Cal X.prog X.w X.K X.mg X.base k x ps sp) (hr : Room k X.A) (hg : Gl X x) (hdb : (x == ("__debug__" : PySem.Str)) = false := by decide) : PE X (.Call (.Name x p) [] [] pos) (tCall sp [] E0 tNil) := by
  obtain ⟨f, fd, hm, hk, hb, F⟩ := c
  exact pe_call0 F hr hg hm hk hb .nil pass0 hdb
theorem pe_calM {pl : Sem Bool} (he : PE X o ta) (cl : Cls X.K C) (c : CalM X.prog X.w X.K X.mg X.base C k m ps sp) (hr : Room k X.A) (ha : PA X (e :: es) t)
    (hst : starEach (e :: es) X.env = (false, eval e X.env) :: starEach es X.env := by rfl) (hpl : (backTo pos (starEach es X.env)).any (·.1) = false := by rfl)
    (ht : eval (.Call (.Attribute o m apos) (e :: es) [] pos) X.env = (do
      let ov ← eval o X.env
      standAt apos.atName
      let (f, first) ← holding [ov] (getMethod ov m pl)
      callWith pos f first (backTo pos (starEach (e :: es) X.env)) (backToKw pos (keywordEach [] X.env))) := by rfl) :
    PE X (.Call (.Attribute o m apos) (e :: es) [] pos) (tMeth C m sp [] E0 ta t) := by
  obtain ⟨f, fd, hm, hb, F⟩ := c
  exact pe_meth he cl hm F hr hb .nil pass0 ha hst hpl ht
theorem pe_calM0 {pl : Sem Bool} (he : PE X o ta) (cl : Cls X.K C) (c : CalM X.prog X.w X.K X.mg X.base C k m ps sp) (hr : Room k X.A)
    (ht : eval (.Call (.Attribute o m apos) [] [] pos) X.env = (do
      let ov ← eval o X.env
      standAt apos.atName
      let (f, first) ← holding [ov] (getMethod ov m pl)
      callWith pos f first (backTo pos (starEach [] X.env)) (backToKw pos (keywordEach [] X.env))) := by rfl) :
    PE X (.Call (.Attribute o m apos) [] [] pos) (tMeth C m sp [] E0 ta tNil) := by
  obtain ⟨f, fd, hm, hb, F⟩ := c
  exact pe_meth0 he cl hm F hr hb .nil pass0 ht
theorem pe_calI (c : CalI X.prog X.w X.K X.mg X.base C k x ps sp) (hr : Room (k + 1) X.A) (hg : Gl X x) (ha : PA X (e :: es) t) (hdb : (x == ("__debug__" : PySem.Str)) = false := by decide)
    (he : starEach (e :: es) X.env = (false, eval e X.env) :: starEach es X.env := by rfl) (hpl : (backTo pos (starEach es X.env)).any (·.1) = false := by rfl) : PE X (.Call (.Name x p) (e :: es) [] pos) (tMake C sp [] E0 t) := by
  obtain ⟨f, fd, hm, M, hb, F⟩ := c
  exact pe_make M F hr hg hm hb .nil pass0 ha hdb he hpl
theorem pe_calI0 (c : CalI X.prog X.w X.K X.mg X.base C k x ps sp) (hr : Room (k + 1) X.A) (hg : Gl X x) (hdb : (x == ("__debug__" : PySem.Str)) = false := by decide) : PE X (.Call (.Name x p) [] [] pos) (tMake C sp [] E0 tNil) := by
  obtain ⟨f, fd, hm, M, hb, F⟩ := c
  exact pe_make0 M F hr hg hm hb .nil pass0 hdb
end
/-! ### data of ints -/
def pdI (ns : List Int) : PyData := .list (ns.map PyData.int)
theorem dpAll_ints (K : PySem.W.Frag) (H : Hp) : ∀ ns : List Int, DpAll K H (ns.map V.int) (ns.map PyData.int)
  | [] => .nil
  | n :: ns => .cons (.int n) (dpAll_ints K H ns)
theorem dp_ints {K : PySem.W.Frag} {H : Hp} {a : Addr} {ns : List Int} (h : SqL K H a (ns.map V.int)) : Dp K H (.ref a) (pdI ns) := .lst h (dpAll_ints K H ns)
theorem canLay_ints : ∀ ns : List Int, PyData.canLayAll0 (ns.map PyData.int) = true
  | [] => rfl
  | n :: ns => by
    show (PyData.canLay0 (.int n) && PyData.canLayAll0 (ns.map PyData.int)) = true
    rw [canLay_ints ns]
    rfl
theorem depth_ints : ∀ ns : List Int, PyData.depthAll (ns.map PyData.int) = 0
  | [] => rfl
  | n :: ns => by
    show max (PyData.depth (.int n)) (PyData.depthAll (ns.map PyData.int)) = 0
    rw [depth_ints ns]
    rfl
theorem shaped_ints (ns : List Int) : SeqAt.shaped (pdI ns) = true := by
  have h : PyData.depth (pdI ns) = PyData.depthAll (ns.map PyData.int) + 1 := by unfold pdI; rw [PyData.depth]
  unfold SeqAt.shaped
  rw [h, depth_ints]
  have h2 : (pdI ns).canLay0 = true := by unfold pdI; rw [PyData.canLay0]; exact canLay_ints ns
  rw [h2]
  rfl
theorem eqvAll_ints : ∀ ns ms : List Int, PyData.eqvAll (ns.map PyData.int) (ms.map PyData.int) = decide (ns = ms)
  | [], [] => rfl
  | [], m :: ms => by simp [PyData.eqvAll]
  | n :: ns, [] => by simp [PyData.eqvAll]
  | n :: ns, m :: ms => by
    show (PyData.eqv (.int n) (.int m) && PyData.eqvAll (ns.map PyData.int) (ms.map PyData.int)) = _
    rw [eqvAll_ints ns ms]
    have : PyData.eqv (.int n) (.int m) = (n == m) := by rw [PyData.eqv]
    rw [this]
    by_cases h : n = m <;> simp [h]
theorem eqv_ints (ns ms : List Int) : PyData.eqv (pdI ns) (pdI ms) = decide (ns = ms) := by
  unfold pdI
  rw [PyData.eqv]
  exact eqvAll_ints ns ms
end Mc
namespace Mc
open PySem PySem.Spec PyProof.Rows SrtO
/-! ### sorted of pairs of a text and an int, out of a list or a tuple -/
def IsPairS (h : Heap) (v : Value) (x : PySem.Str) (y : Int) : Prop := ∃ a o t u n, v = .ref a ∧ h.get? a = some o ∧ o.cls = .type "tuple" ∧ o.data = .seq #[.str x t, .int y u] n
theorem IsPairS.keeps {h h' : Heap} {v : Value} {x : PySem.Str} {y : Int} (p : IsPairS h v x y) (k : ∀ b o, h.get? b = some o → o.cls = .type "tuple" → h'.get? b = some o) : IsPairS h' v x y := by
  obtain ⟨a, o, t, u, n, e, ho, hc, hd⟩ := p
  exact ⟨a, o, t, u, n, e, k _ _ ho hc, hc, hd⟩
def lexS (p q : PySem.Str × Int) : Bool := if p.1 = q.1 then decide (p.2 < q.2) else decide (p.1.cps.toList < q.1.cps.toList)
theorem str_ext {a b : PySem.Str} (h : a.cps.toList = b.cps.toList) : a = b := by
  obtain ⟨x⟩ := a
  obtain ⟨y⟩ := b
  have : x = y := by simpa using congrArg List.toArray h
  rw [this]
theorem swo_lexS {α : Type} (k : α → PySem.Str × Int) : Swo fun v u => lexS (k v) (k u) := by
  have irr : ∀ l : List Nat, ¬ l < l := fun l => List.lt_irrefl l
  refine ⟨fun x y h => ?_, fun x y z h1 h2 => ?_⟩
  · unfold lexS at h ⊢
    by_cases e : (k x).1 = (k y).1
    · rw [if_pos e, decide_eq_true_eq] at h
      rw [if_pos e.symm, decide_eq_false_iff_not]
      omega
    · rw [if_neg e, decide_eq_true_eq] at h
      rw [if_neg (Ne.symm e), decide_eq_false_iff_not]
      exact fun z => irr _ (List.lt_trans h z)
  · unfold lexS at h1 h2 ⊢
    generalize (k x).1 = a at *
    generalize (k y).1 = b at *
    generalize (k z).1 = c at *
    by_cases e1 : b = a
    · subst e1
      rw [if_pos rfl, decide_eq_false_iff_not] at h1
      by_cases e2 : c = b
      · subst e2
        rw [if_pos rfl, decide_eq_false_iff_not] at h2
        rw [if_pos rfl, decide_eq_false_iff_not]
        omega
      · rw [if_neg e2] at h2
        rw [if_neg e2]
        exact h2
    · rw [if_neg e1, decide_eq_false_iff_not] at h1
      by_cases e2 : c = b
      · subst e2
        rw [if_neg e1, decide_eq_false_iff_not]
        exact h1
      · rw [if_neg e2, decide_eq_false_iff_not] at h2
        have l1 : a.cps.toList ≤ b.cps.toList := List.not_lt.mp h1
        have l2 : b.cps.toList ≤ c.cps.toList := List.not_lt.mp h2
        by_cases e3 : c = a
        · subst e3
          exact absurd (str_ext (List.le_antisymm l2 l1)) e1
        · rw [if_neg e3, decide_eq_false_iff_not]
          exact List.not_lt.mpr (List.le_trans l1 l2)
section
variable {prog : Program} {w : World} {A : Around} {E : Value → Shared → Prop} {s : Shared}
theorem pairS_cmp {vs : List Value} {k : Value → PySem.Str × Int} (hp : ∀ v ∈ vs, IsPairS s.heap v (k v).1 (k v).2) : Cmp prog w A s (tuples' true) (fun p => p.1 ∈ vs) (lt2 fun v u => lexS (k v) (k u)) := by
  intro p q hm hm'
  have h1 := hp _ hm
  have h2 := hp _ hm'
  show wpAny (model prog w) A (keyLt' (tuples' true) p.1 q.1) (fun r s' => s' = s ∧ r = lexS (k p.1) (k q.1)) (fun _ _ => False) s
  unfold lexS
  generalize (k p.1).1 = x at h1 ⊢
  generalize (k p.1).2 = y at h1 ⊢
  generalize (k q.1).1 = x' at h2 ⊢
  generalize (k q.1).2 = y' at h2 ⊢
  obtain ⟨a, o, t, u, n, e, ho, hc, hd⟩ := h1
  obtain ⟨a', o', t', u', n', e', ho', hc', hd'⟩ := h2
  rw [e, e']
  refine PySem.W.kat_lt ho hd ho' hd' ?_
  show PySem.W.KatLex prog w A true (decide (2 < 2)) _ [(.str x t, .str x' t'), (.int y u, .int y' u')] 0 s
  refine PySem.W.kat_cons (SeqAt.EqAt.str_str x t x' t' prog w _ _ ?_)
  refine PySem.W.kat_go (fun e1 => ?_) (fun e1 => ?_)
  · have ex : x = x' := by simpa using e1
    refine PySem.W.kat_yes (PySem.W.kat_cons (SeqAt.EqAt.int_int y u y' u' prog w _ _ ?_))
    refine PySem.W.kat_go (fun e2 => ?_) (fun e2 => ?_)
    · have ey : y = y' := by simpa using e2
      have e3 : (if x = x' then decide (y < y') else decide (x.cps.toList < x'.cps.toList)) = false := by
        rw [if_pos ex, ey]
        exact decide_eq_false (Int.lt_irrefl _)
      exact PySem.W.kat_yes (PySem.W.kat_nil ⟨rfl, e3.symm⟩)
    · have e3 : (if x = x' then decide (y < y') else decide (x.cps.toList < x'.cps.toList)) = decide (y < y') := if_pos ex
      refine PySem.W.kat_no (PySem.W.kat_one _ _ (PyProof.Rows.lt_int ?_))
      exact (show s = s ∧ decide (y < y') = (if x = x' then decide (y < y') else decide (x.cps.toList < x'.cps.toList)) from ⟨rfl, e3.symm⟩)
  · have ex : ¬ x = x' := by simpa using e1
    have e3 : (if x = x' then decide (y < y') else decide (x.cps.toList < x'.cps.toList)) = decide (x.cps.toList < x'.cps.toList) := if_neg ex
    exact PySem.W.kat_no (oneLt_str ⟨rfl, e3.symm⟩)
theorem firstsS_of {h : Heap} : ∀ {vs : List Value}, (∀ v ∈ vs, ∃ x y, IsPairS h v x y) → ∃ fs : List Value, PySem.W.KatTups h vs fs ∧ fs.length = vs.length ∧ ∀ f ∈ fs, ∃ x t, f = Value.str x t
  | [], _ => ⟨[], PySem.W.KatTups.nil, rfl, fun _ hm => by simp at hm⟩
  | v :: vs, hp => by
    obtain ⟨fs, h1, h2, h3⟩ := firstsS_of (vs := vs) fun v' hm => hp v' (List.mem_cons_of_mem _ hm)
    obtain ⟨x, y, a, o, t, u, n, e, ho, hc, hd⟩ := hp v (List.mem_cons_self ..)
    subst e
    refine ⟨.str x t :: fs, PySem.W.KatTups.cons ho hc hd rfl h1, by rw [List.length_cons, List.length_cons, h2], fun f hm => ?_⟩
    rcases List.mem_cons.mp hm with rfl | hm
    · exact ⟨x, t, rfl⟩
    · exact h3 f hm
theorem pairsS_sortable {a : Addr} {vs : List Value} {k : Value → PySem.Str × Int} (h0 : 0 < vs.length) (hp : ∀ v ∈ vs, IsPairS s.heap v (k v).1 (k v).2) (ha : ∀ o, s.heap.get? a = some o → o.cls ≠ .type "tuple") : SortableO prog w A s a vs fun v u => lexS (k v) (k u) := by
  intro h' keep
  have hp' : ∀ v ∈ vs, IsPairS h' v (k v).1 (k v).2 := fun v hm => (hp v hm).keeps fun b o e c => keep b o (fun z => by subst z; exact ha o e c) e
  obtain ⟨fs, h1, h2, h3⟩ := firstsS_of fun v hm => ⟨_, _, hp' v hm⟩
  refine ⟨tuples' true, fun Q E hq => ?_, pairS_cmp hp'⟩
  refine PySem.W.kat_kind (T := .type "str") h1 (by omega) (fun f hm => ?_) (by rfl) ?_
  · obtain ⟨x, t, rfl⟩ := h3 f hm
    exact PySem.W.Looks.now
  · have e : (Value.type "str" != Value.type "tuple") = true := by first | decide +kernel | rfl | decide
    rw [e]
    exact hq
/-- what a tuple gives out, told with the heap behind -/
theorem collect_tupE {it : Addr} {o : Obj} {vs : List Value} {n : Nat} {Q : List Value → Shared → Prop} (ho : s.heap.get? it = some o) (hc : o.cls = .type "tuple") (hd : o.data = .seq vs.toArray n) (hz : vs.length ≤ sizeLine)
    (hQ : Q vs { s with heap := (s.heap.push (seqObj "list" #[] 0)).update s.heap.objs.size (Obj.mapSeq (· ++ vs.toArray)) }) : wpAny (model prog w) A (collect (.ref it)) Q E s := by
  have hz' : vs.toArray.size ≤ sizeLine := by rw [List.size_toArray]; exact hz
  have h0 : (s.heap.push (seqObj "list" #[] 0)).get? s.heap.objs.size = some { cls := .type "list", data := .seq #[] 0 } := Heap.get?_push_size _ rfl
  have h1 := Heap.get?_update_self (Obj.mapSeq (· ++ vs.toArray)) h0 rfl
  unfold collect
  refine wpAny_bind (wpAny_runValue (codeAny_builtin F.entry_proto_collect ?_))
  rw [Around.under_plainId F.plain_proto_collect _]
  refine wpAny_bind (m := newList []) (wpAny_newList ?_ (Nat.zero_le _))
  refine wpAny_pure ⟨plainId_quiet F.plain_list_iadd _, codeAny_builtin F.entry_list_iadd ?_⟩
  rw [Around.under_plainId F.plain_list_iadd _]
  have last : wpAny (model prog w) A (load s.heap.objs.size >>= fun o => match o.data with | .seq xs _ => pure xs.toList | _ => unsupported "internal:collect") Q E { s with heap := (s.heap.push (seqObj "list" #[] 0)).update s.heap.objs.size (Obj.mapSeq (· ++ vs.toArray)) } := by
    refine wpAny_bind (wpAny_load h1 (wpAny_pure ?_))
    have e : ((#[] : Array Value) ++ vs.toArray).toList = vs := by simp
    show Q ((#[] : Array Value) ++ vs.toArray).toList _
    rw [e]
    exact hQ
  refine wpAny_mono (wpAny_extend_seq (hsz := hz') (A := A) (R := fun r s' => r = .ok (.ret (.ref s.heap.objs.size)) ∧ s' = { s with heap := (s.heap.push (seqObj "list" #[] 0)).update s.heap.objs.size (Obj.mapSeq (· ++ vs.toArray)) })
    (s := { s with heap := s.heap.push (seqObj "list" #[] 0) }) _ it _ 0 (.inr rfl) h0 (Heap.get?_push_of_some _ ho) hc hd ⟨rfl, rfl⟩) (fun fin s' h => ?_) (fun e s' h => absurd h.1 (by simp))
  cases fin with
  | done f =>
    obtain ⟨e, rfl⟩ := h
    cases e
    exact last
  | again c' => exact ⟨h.1, codeAny_mono h.2 fun r s'' hr => by obtain ⟨rfl, rfl⟩ := hr; exact last⟩
/-- sorted(t), t a tuple of such pairs -/
theorem sorted_pairsS {it : Addr} {o : Obj} {vs : List Value} {n : Nat} {k : Value → PySem.Str × Int} {Q : Value → Shared → Prop} (ho : s.heap.get? it = some o) (hc : o.cls = .type "tuple") (hd : o.data = .seq vs.toArray n)
    (hz : vs.length ≤ sizeLine) (hp : ∀ v ∈ vs, IsPairS s.heap v (k v).1 (k v).2)
    (h : ∀ (h' : Heap) (d : Addr) (out : List Value), Srtd (fun v u => lexS (k v) (k u)) out → Stb (fun v u => lexS (k v) (k u)) out vs → (∀ b o, s.heap.get? b = some o → h'.get? b = some o) → s.heap.objs.size ≤ d → (∃ n, h'.get? d = some (seqObj "list" out.toArray n)) → Q (.ref d) { s with heap := h' }) :
    wpAny (model prog w) A (call (.builtin "sorted") [.ref it]) Q E s := by
  refine Calls.call_function_entry kind_sorted plain_sorted entry_sorted (args_sorted1 _) ?_
  unfold Builtin.«sorted»
  refine wpAny_bind (m := checkCount "sorted" 1 1 _) (wpAny_pure ?_)
  refine wpAny_bind (collect_tupE ho hc hd hz ?_)
  have k' : ∀ b o, s.heap.get? b = some o → ((s.heap.push (seqObj "list" #[] 0)).update s.heap.objs.size (Obj.mapSeq (· ++ vs.toArray))).get? b = some o := fun b o q => by
    rw [Heap.get?_update_ne _ _ _ _ (Nat.ne_of_lt (Heap.lt_size q))]
    exact Heap.get?_push_of_some _ q
  have hsz : ((s.heap.push (seqObj "list" #[] 0)).update s.heap.objs.size (Obj.mapSeq (· ++ vs.toArray))).objs.size = s.heap.objs.size + 1 := by rw [Heap.size_update, size_push']
  generalize (s.heap.push (seqObj "list" #[] 0)).update s.heap.objs.size (Obj.mapSeq (· ++ vs.toArray)) = h' at k' hsz ⊢
  refine wpAny_bind (wpAny_newList ?_ hz)
  have hoL : (h'.push (seqObj "list" vs.toArray 0)).get? h'.objs.size = some (seqObj "list" vs.toArray 0) := Heap.get?_push_size _ rfl
  have kp : ∀ b o, s.heap.get? b = some o → b ≠ h'.objs.size ∧ (h'.push (seqObj "list" vs.toArray 0)).get? b = some o := fun b o q => ⟨Nat.ne_of_lt (Heap.lt_size (k' b o q)), Heap.get?_push_of_some _ (k' b o q)⟩
  refine wpAny_bind (wpAny_holding (wpAny_call_entry slot_list_sort ⟨_, hoL, rfl⟩ entry_list_sort (list_sort_ord (s := { s with heap := h'.push (seqObj "list" vs.toArray 0) }) (swo_lexS k) hoL hz (fun h2 => ?_) fun out hs hb => ⟨_, rfl, ?_⟩) (args_list_sort _)))
  · refine pairsS_sortable (s := { s with heap := h'.push (seqObj "list" vs.toArray 0) }) (by omega) (fun v hm => (hp v hm).keeps fun b o e _ => (kp b o e).2) fun o e => ?_
    have e' : some o = some (seqObj "list" vs.toArray 0) := e.symm.trans hoL
    cases e'
    intro c
    exact absurd (Value.type.inj c) (by decide)
  · refine wpAny_pure ⟨_, rfl, h _ _ out hs hb (fun b o e => ?_) (by rw [hsz]; exact Nat.le_succ _) (sortedHeap_at hoL)⟩
    rw [sortedHeap_old (kp b o e).1 (Heap.lt_size (kp b o e).2)]
    exact (kp b o e).2
end
open L2
/-- x before y: by its text, then by its int -/
abbrev ltS (k : V → PySem.Str × Int) (x y : V) : Bool := lexS (k x) (k y)
/-! ### a tuple whose object is known whole -/
def TupR (h : Heap) (a : Addr) (xs : List V) : Prop := xs.length ≤ sizeLine ∧ ∃ (its : List Value) (n : Nat), Vals xs its ∧ h.get? a = some { cls := .type "tuple", data := .seq its.toArray n }
def TupO (a : Addr) (xs : List V) : HO := .ext fun h => TupR h a xs
theorem tupO_new {P : Program} {w : World} {H : Hp} {h : Heap} {a : Addr} {xs : List V} (R : TupR h a xs) : ObjOk P w H h a (TupO a xs) := by
  obtain ⟨z, its, n, r, e⟩ := id R
  exact ⟨R, ⟨_, e⟩, fun h1 h2 ⟨z1, its1, n1, r1, e1⟩ k => ⟨z1, its1, n1, r1, k _ e1⟩⟩
section
variable {X : Cx} {pins : List (Addr × Obj)} {σ : L2.St} {H : Hp} {s : Shared} {a : Addr} {xs : List V}
theorem tupO_get (I : Inv X pins σ H s) (h : H a = some (TupO a xs)) : TupR s.heap a xs := (I.hok a _ h).1
end
section
variable {X : Cx} {es : List Expr} {t : TA} {pos : Pos} {x1 : Nat}
def tTupO (t : TA) : TE := fun σ H Q => t σ H fun xs H1 => xs.length ≤ sizeLine ∧ ∀ p, H1 p = none → Q (.ref p) (upd H1 p (TupO p xs))
theorem pe_tupO (h : PA X es t) : PE X (.Tuple es x1 pos) (tTupO t) := by
  refine ⟨fun pins s σ H Q I hq => ?_⟩
  refine wpAny_Tuple_spliced (thn (h.run pos pins s σ H _ I hq) fun us s1 ⟨xs, H1, I1, r, z, q⟩ => ⟨by rw [← r.length]; exact z, ?_⟩)
  exact ⟨.ref s1.heap.objs.size, upd H1 s1.heap.objs.size (TupO s1.heap.objs.size xs), I1.laid (t' := s1.toks) (fun b u e => Heap.get?_push_of_some _ e) (Nat.le_refl _) (tupO_new ⟨z, us, _, r, Heap.get?_push_size _ rfl⟩), rfl, q _ (I1.hok.fresh (Nat.le_refl _))⟩
/-- tuple(xs), xs a list -/
def kTupO (K : PySem.W.Frag) (x : V) (H : Hp) (Q : VK) : Prop := ∃ p xs, x = .ref p ∧ SqL K H p xs ∧ ∀ q, H q = none → Q (.ref q) (upd H q (TupO q xs))
theorem rl_tupO {K : PySem.W.Frag} (hK : X.K = K) (pins : List (Addr × Obj)) (s : Shared) (σ : L2.St) (H : Hp) (x : V) (v : Value) (Q : VK) (I : Inv X pins σ H s) (r : RelV x v) (h : kTupO K x H Q) :
    wpAny (model X.prog X.w) X.A (call (.type "tuple") [v]) (EP X pins σ Q) X.xe s := by
  subst hK
  obtain ⟨p, xs, rfl, hs, q⟩ := h
  obtain rfl : v = .ref p := r
  obtain ⟨its, rv, pl, hz⟩ := I.list hs
  refine call_tuple_list pl.isList (fun h' hk => ?_) (by rw [List.size_toArray, ← rv.length]; exact hz)
  have I1 : Inv X pins σ H { s with heap := h' } := I.kept (t' := s.toks) hk
  have I2 := I1.laid (t' := s.toks) (o := TupO h'.objs.size xs) (h' := h'.push { cls := .type "tuple", data := .seq its.toArray }) (fun b o e => Heap.get?_push_of_some _ e) (Nat.le_refl _) (tupO_new ⟨hz, its, _, rv, Heap.get?_push_size _ rfl⟩)
  exact ⟨.ref h'.objs.size, _, I2, rfl, q _ (I1.hok.fresh (Nat.le_refl _))⟩
theorem pe_tupleOfO {K : PySem.W.Frag} (hK : X.K = K) {a : Expr} {ta : TE} {p pos : Pos} (hg : Gl X "tuple") (hm : X.mg "tuple" = none) (ha : PE X a ta) (na : starEach [a] X.env = (false, eval a X.env) :: starEach [] X.env := by rfl) :
    PE X (.Call (.Name "tuple" p) [a] [] pos) (tThen ta (kTupO K)) := by
  refine ⟨fun pins s σ H Q I h => ?_⟩
  exact Call_ (ld_blt I hg hm boot_tuple (PyProof.Rows.callWith_type1 (one_arg ha I h (fun v s2 x H2 I2 r q => rl_tupO hK pins s2 σ H2 x v Q I2 r q) na) na))
end
def rSortedPS : List V → Hp → VK → Prop := fun vs H Q => ∃ (a : Addr) (xs : List V) (k : V → PySem.Str × Int), vs = [V.ref a] ∧ H a = some (TupO a xs) ∧ (∀ x ∈ xs, ∃ t, x = V.ref t ∧ H t = some (.tup [.str (k x).1, .int (k x).2])) ∧
  ∀ ys p, Srtd (ltS k) ys → Stb (ltS k) ys xs → H p = none → Q (.ref p) (upd H p (.lst ys))
theorem cr_sortedPS {X : Cx} : CallR X (.builtin "sorted") rSortedPS := by
  intro pins s σ H vs us Q I r h
  obtain ⟨a, xs, k, rfl, hs, hx, q⟩ := h
  obtain ⟨hz, its, n, rv, ho⟩ := tupO_get I hs
  obtain ⟨u, rfl, ru⟩ := vals1 r
  obtain rfl : u = Value.ref a := ru
  obtain ⟨e1, e2⟩ := refs_back rv fun x m => (hx x m).imp fun t e => e.1
  refine sorted_pairsS (k := fun u => k (backV u)) ho rfl rfl (by rw [← rv.length]; exact hz) (fun v hv => ?_) fun h' d out h1 h2 kp hd hn => ?_
  · obtain ⟨t, rfl⟩ := e2 v hv
    obtain ⟨t', e, ht⟩ := hx (V.ref t) (by rw [e1]; exact List.mem_map.mpr ⟨_, hv, rfl⟩)
    cases e
    obtain ⟨_, its2, r2, o2, ho2, hc2, n2, hd2⟩ := I.hok _ _ ht
    obtain ⟨u1, u2, rfl, ri, rj⟩ := vals2 r2
    obtain ⟨t1, rfl⟩ := ri
    obtain ⟨t2, rfl⟩ := rj
    exact ⟨t, o2, t1, t2, n2, rfl, ho2, hc2, hd2⟩
  · have h3 : ∀ u ∈ out, ∃ a, u = Value.ref a := fun u hu => e2 u (h2.perm.mem_iff.mp hu)
    obtain ⟨m, hn⟩ := hn
    have hb : Stb (ltS k) (out.map backV) xs := by
      rw [e1]
      exact Stb.map (swo_lexS k) backV h2
    exact ⟨.ref d, upd H d (.lst (out.map backV)), I.laid (t' := s.toks) kp hd ⟨by rw [hb.len]; exact hz, out, m, vals_back h3, hn⟩, rfl, q _ d (srtd_map h1) hb (I.hok.fresh hd)⟩
theorem pairsV_of {X : Cx} {pins : List (Addr × Obj)} {σ : L2.St} {H : Hp} {s : Shared} (I : Inv X pins σ H s) : ∀ {ps : List Addr} {kvs : List (L2.Key × V)}, Paired (fun p kv => SqT X.K H p [kV kv.1, kv.2]) ps kvs →
    ∃ (prs : List (L2.Key × Value)) (pvs : List (Value × Value)), KV kvs prs ∧ pvs.length = ps.length ∧ prs.length = ps.length ∧
      ∀ (j : Nat) k v, pvs[j]? = some (k, v) → (∃ b, ps[j]? = some b ∧ PairAt s.heap b k v) ∧ ∃ key, prs[j]? = some (key, v) ∧ (mixKind X.prog X.w).is key k = true
  | _, _, .nil => ⟨[], [], .nil, rfl, rfl, fun j k v e => by simp at e⟩
  | _, _, .cons (a := p) (b := kv) h t => by
    obtain ⟨prs, pvs, r, l1, l2, hp⟩ := pairsV_of I t
    obtain ⟨its, rv, ht, _⟩ := I.tuple h
    obtain ⟨u, y, ei, ru, ry⟩ := vals2 rv
    subst ei
    refine ⟨(kv.1, y) :: prs, (u, y) :: pvs, .cons ⟨rfl, ry⟩ r, congrArg Nat.succ l1, congrArg Nat.succ l2, fun j k v e => ?_⟩
    cases j with
    | zero =>
      cases Option.some.inj e
      exact ⟨⟨p, rfl, .inl ht⟩, kv.1, rfl, kV_is (P := X.prog) (w := X.w) ru⟩
    | succ j => exact hp j k v e
/-- dict(t), t a tuple of pairs -/
def rDictO (K : PySem.W.Frag) : List V → Hp → VK → Prop := fun vs H Q => ∃ (a : Addr) (ps : List Addr) (kvs : List (L2.Key × V)), vs = [.ref a] ∧ H a = some (TupO a (ps.map V.ref)) ∧ Paired (fun p kv => SqT K H p [kV kv.1, kv.2]) ps kvs ∧
  ∀ p, H p = none → Q (.ref p) (upd H p (.dK (mergeK [] kvs)))
theorem call_dictO {X : Cx} (hcalm : X.calm = true) : CallR X (.type "dict") (rDictO X.K) := by
  intro pins s σ H vs us Q I r h
  obtain ⟨a, ps, kvs, rfl, hs, hp, q⟩ := h
  obtain ⟨hz, its, n, rv, ho⟩ := tupO_get I hs
  obtain ⟨u, rfl, ru⟩ := vals1 r
  obtain rfl : u = Value.ref a := ru
  have ei := refs_at rv
  subst ei
  rw [List.length_map] at hz
  obtain ⟨prs, pvs, rel, l1, l2, hpr⟩ := pairsV_of I hp
  have hq : ∀ j, j < ps.length → ∃ k v, pvs[j]? = some (k, v) := fun j hj => ⟨_, _, List.getElem?_eq_getElem (by omega)⟩
  refine PySem.call_dict_pairs (knd := mixKind X.prog X.w) (kvs := prs) (PairArg.tuple a (ps.map Value.ref).toArray (fun j => ps.getD j 0) pvs) (I.ok.hd hcalm)
    ⟨⟨_, n, ho, rfl, rfl, rfl⟩, by rw [List.size_toArray, List.length_map, l1], fun j k v e => ?_⟩ ⟨by omega, fun i key v e => ?_⟩ (by omega) fun h' tk hd' k => ?_
  · obtain ⟨⟨b, hb, hat⟩, _⟩ := hpr j k v e
    have e2 : ps.getD j 0 = b := by rw [List.getD_eq_getElem?_getD, hb]; rfl
    show (ps.map Value.ref).toArray[j]? = some (Value.ref (ps.getD j 0)) ∧ PairAt s.heap (ps.getD j 0) k v
    rw [e2]
    exact ⟨by simp [hb], hat⟩
  · obtain ⟨_, key', e1, e2⟩ := hpr i key v e
    exact ⟨key', e1, e2⟩
  · have hm : (s.heap.objs.size == sysModules) = false := beq_eq_false_iff_ne.mpr (Nat.ne_of_gt I.big)
    have hlen : (mergeK [] kvs).length ≤ sizeLine := by
      refine Nat.le_trans (length_mergeK kvs []) ?_
      rw [List.length_nil, Nat.zero_add, rel.length, l2]
      exact hz
    exact ⟨.ref s.heap.objs.size, upd H s.heap.objs.size (.dK (mergeK [] kvs)), I.laid (t' := tk) (fun b o e => k b o (by simp) e) (Nat.le_refl _) (show ObjOk X.prog X.w _ _ _ (.dK (mergeK [] kvs)) from ⟨hlen, hm, merged [] prs, KV.merge rel .nil, hd'⟩), rfl, q _ (I.hok.fresh (Nat.le_refl _))⟩
/-- what is sorted already stays as it is -/
theorem sorted_same {k : V → PySem.Str × Int} {xs ys : List V} (hx : xs.Pairwise fun x y => (k x).1.cps.toList < (k y).1.cps.toList) (hs : Srtd (ltS k) ys) (hb : Stb (ltS k) ys xs) : ys = xs := by
  refine stb_uniq (swo_lexS k) hs ?_ hb
  refine hx.imp fun {x y} h => ?_
  have ne : ¬ (k x).1 = (k y).1 := fun e => by rw [e] at h; exact List.lt_irrefl _ h
  show lexS (k y) (k x) = false
  unfold lexS
  rw [if_neg (Ne.symm ne), decide_eq_false_iff_not]
  exact fun w => List.lt_irrefl _ (List.lt_trans h w)
/-- a dict comprehension over a list that stays -/
theorem dc_list {K : PySem.W.Frag} {a : Addr} {xs : List V} {g : TG} {tt : TT} {tk tv : TE} {vs : List Nat} {σ : L2.St} {H1 : Hp} {D : Addr} {Qd : Hp → Prop} (Pv : Nat → Hp → Prop) (h0 : Pv 0 (upd H1 D (.dK []))) (hl : ∀ i H, i ≤ xs.length → Pv i H → SqL K H a xs)
    (hs : ∀ i x H, xs[i]? = some x → Pv i H → g x (wipe σ vs) H fun σ2 H2 => wipe σ2 vs = wipe σ vs ∧ tt σ2 H2 fun b H3 =>
      if b = true then tk σ2 H3 fun y H4 => tv σ2 H4 fun z H5 => ∃ kvs k, y = kV k ∧ H5 D = some (.dK kvs) ∧ kvs.length < sizeLine ∧ Pv (i + 1) (upd H5 D (.dK (putK kvs k z))) else Pv (i + 1) H3) (hd : ∀ H, Pv xs.length H → Qd H) :
    ∃ W : Nat → Nat → Hp → Prop, (∃ m, W 0 m (upd H1 D (.dK []))) ∧ ∀ i m H, W i m H →
      ((Itl K a).stop i H ∧ Qd H) ∨ ((Itl K a).go i H ∧ ∃ Nx : Hp → Prop, (∀ H', Nx H' → ∃ m', m' < m ∧ W (i + 1) m' H') ∧ ∀ x H', (Itl K a).yld i H x H' → g x (wipe σ vs) H' fun σ2 H2 => wipe σ2 vs = wipe σ vs ∧ tt σ2 H2 fun b H3 =>
        if b = true then tk σ2 H3 fun y H4 => tv σ2 H4 fun z H5 => ∃ kvs k, y = kV k ∧ H5 D = some (.dK kvs) ∧ kvs.length < sizeLine ∧ Nx (upd H5 D (.dK (putK kvs k z))) else Nx H3) := by
  refine ⟨fun i m H => m = xs.length - i ∧ i ≤ xs.length ∧ Pv i H, ⟨xs.length, by simp, Nat.zero_le _, h0⟩, ?_⟩
  rintro i m H ⟨rfl, hi, p⟩
  have q := hl i H hi p
  by_cases hlt : i < xs.length
  · refine .inr ⟨⟨xs, xs[i], q, by simp [hlt]⟩, Pv (i + 1), fun H' p' => ⟨xs.length - (i + 1), by omega, rfl, hlt, p'⟩, fun x H' y => ?_⟩
    obtain ⟨e, y⟩ := y
    subst e
    exact hs i x _ (y xs q) p
  · have e : i = xs.length := by omega
    subst e
    exact .inl ⟨⟨xs, q, Nat.le_refl _⟩, hd H p⟩
end Mc
namespace Mc
open PySem L2 PySem.Spec PyProof.Rows
theorem erase_at [DecidableEq α] {k : α} : ∀ {xs : List α}, k ∈ xs → ∃ j, xs[j]? = some k ∧ (∀ m : Nat, m < j → ∀ y, xs[m]? = some y → y ≠ k) ∧ xs.eraseIdx j = xs.erase k
  | x :: xs, h => by
    by_cases e : x = k
    · exact ⟨0, by rw [e]; rfl, fun m z => absurd z (Nat.not_lt_zero _), by rw [e]; simp⟩
    · obtain ⟨j, a, b, c⟩ := erase_at (xs := xs) ((List.mem_cons.mp h).resolve_left fun z => e z.symm)
      refine ⟨j + 1, a, fun m hm y hy => ?_, by rw [List.erase_cons_tail (by simpa using e), List.eraseIdx_cons_succ, c]⟩
      cases m with
      | zero => cases Option.some.inj hy; exact e
      | succ m => exact b m (Nat.lt_of_succ_lt_succ hm) y hy
theorem eraseIdx_map' (f : α → β) : ∀ (l : List α) (j : Nat), (l.map f).eraseIdx j = (l.eraseIdx j).map f
  | [], _ => by simp
  | _ :: _, 0 => by simp
  | _ :: r, j + 1 => by simp [eraseIdx_map' f r j]
def isS (k : PySem.Str) : Value → Bool
  | .str y _ => y.cps.toList == k.cps.toList
  | _ => false
section
variable {X : Cx}
def rRemS : V → List V → Hp → VK → Prop := fun x vs H Q => ∃ (l : Addr) (xs : List PySem.Str) (k : PySem.Str), x = .ref l ∧ vs = [.str k] ∧ H l = some (.lst (xs.map V.str)) ∧ k ∈ xs ∧ Q .non (upd H l (.lst ((xs.erase k).map V.str)))
theorem mt_removeS : MtM X "list.remove" rRemS := by
  intro pins s σ H x vs v us Q I rx rv ⟨l, xs, k, ex, ev, hl, hk, q⟩
  subst ex; subst ev; cases rx
  obtain ⟨u, eu, ⟨t, et⟩⟩ := rv.one
  subst eu; subst et
  obtain ⟨_, its, n, r, hlen, hg⟩ := I.lstM hl
  obtain ⟨j, a, b, c⟩ := erase_at hk
  have look : ∀ (i : Nat) (w : Value), its[i]? = some w → ∃ y t', xs[i]? = some y ∧ w = .str y t' := by
    intro i w hw
    cases hx : xs[i]? with
    | none => rw [r.none_of (by rw [List.getElem?_map, hx]; rfl)] at hw; cases hw
    | some y =>
      obtain ⟨w', h1, ⟨t', h2⟩⟩ := r.get (i := i) (x := .str y) (by rw [List.getElem?_map, hx]; rfl)
      rw [hw] at h1; cases h1
      exact ⟨y, t', rfl, h2⟩
  have lenx : its.length = xs.length := by rw [← r.length, List.length_map]
  have hj : j < xs.length := (List.getElem?_eq_some_iff.mp a).1
  have hj' : j < its.toArray.size := by simp; omega
  refine call_meets PySem.F.slot_list_remove ⟨_, hg, rfl⟩ PySem.F.entry_list_remove (PySem.F.args_list_remove_2 _ _)
    (MeetsSeq.list_remove l its.toArray n (.str k t) (isS k) ?g1 j hj' ?g2 ?g3 (by simp at *; omega)) ⟨hg, .non, _, I.lset (its' := its.eraseIdx j) (t' := s.toks) hl hg (by simp) (r.eraseIdx j) ?g4, rfl, ?g5⟩
  case g1 =>
    intro y hy
    obtain ⟨i, hi⟩ := List.mem_iff_getElem?.mp (show y ∈ its by simpa using hy)
    obtain ⟨z, t', _, e⟩ := look i y hi
    rw [e]
    exact SeqRoads2.EqGives.str z k t' t
  case g2 =>
    obtain ⟨z, t', hz, e⟩ := look j _ (List.getElem?_eq_getElem (by omega : j < its.length))
    rw [a] at hz; cases hz
    have e2 : its.toArray[j] = .str k t' := by simpa using e
    rw [e2]
    exact beq_self_eq_true k.cps.toList
  case g3 =>
    intro m hm hmj
    obtain ⟨z, t', hz, e⟩ := look m _ (List.getElem?_eq_getElem (by simpa using hm : m < its.length))
    have e2 : its.toArray[m] = .str z t' := by simpa using e
    rw [e2]
    have ne := b m hmj z hz
    refine beq_eq_false_iff_ne.mpr fun w => ne ?_
    obtain ⟨⟨z⟩⟩ := z
    obtain ⟨⟨k⟩⟩ := k
    exact congrArg (fun l => PySem.Str.mk (Array.mk l)) w
  case g4 =>
    have z2 := len_erase (xs.map V.str) j
    rw [List.length_map] at z2
    simp at *; omega
  case g5 =>
    have : (xs.map V.str).eraseIdx j = (xs.erase k).map V.str := by rw [← c, eraseIdx_map']
    rw [this]; exact q
end
end Mc
namespace Mc
open PySem L2 PySem.Spec PyProof.Rows
def inK (ys : List PySem.Str) (k : L2.Key) : Bool := ys.any fun y => decide (k = Sum.inr y)
/-- a set under way: it holds the first i of ys -/
structure Part (P : Program) (w : World) (ys : List PySem.Str) (a : Addr) (h : Heap) (i : Nat) (c : Nat) : Prop where
  of : h.SetOf (mixKind P w) a (inK (ys.take i)) c
  le : c ≤ i
  nd : ys.Nodup → c = i
  dn : c = i → (ys.take i).Nodup
abbrev so (b : Bool) : Obj := { cls := .type "set", dict := none, data := .set #[] 0 (.fresh 0 0 b) }
section
variable {P : Program} {w : World} {A : Around} {E : Value → Shared → Prop} {s : Shared} {ys : List PySem.Str}
theorem Part.at {a : Addr} {h h' : Heap} {i c : Nat} (p : Part P w ys a h i c) (k : ∀ o, h.get? a = some o → h'.get? a = some o) : Part P w ys a h' i c := ⟨setOf_at p.of k, p.le, p.nd, p.dn⟩
theorem Part.more {a : Addr} {h : Heap} {i c : Nat} {y : PySem.Str} (p : Part P w ys a h i c) (hy : ys[i]? = some y) {h' : Heap}
    (q : h'.SetOf (mixKind P w) a (fun k' => inK (ys.take i) k' || decide (k' = Sum.inr y)) (if inK (ys.take i) (Sum.inr y) then c else c + 1)) :
    ∃ c', Part P w ys a h' (i + 1) c' := by
  have e1 : ys.take (i + 1) = ys.take i ++ [y] := by rw [List.take_add_one, hy]; rfl
  refine ⟨if inK (ys.take i) (Sum.inr y) then c else c + 1, ⟨?_, ?_, ?_, ?_⟩⟩
  rotate_left 3
  · intro e
    have le := p.le
    cases hno : inK (ys.take i) (Sum.inr y) with
    | true => rw [hno, if_pos rfl] at e; omega
    | false =>
      rw [hno, if_neg Bool.false_ne_true] at e
      rw [e1]
      refine List.nodup_append.mpr ⟨p.dn (by omega), by simp, fun a ha b hb eab => ?_⟩
      rw [List.mem_singleton.mp hb] at eab
      have : inK (ys.take i) (Sum.inr y) = true := List.any_eq_true.mpr ⟨a, ha, decide_eq_true (by rw [eab])⟩
      rw [hno] at this; cases this
  rotate_left 2
  · intro nd
    have no : inK (ys.take i) (Sum.inr y) = false := by
      refine Bool.eq_false_iff.mpr fun z => ?_
      obtain ⟨x, hx, ex⟩ := List.any_eq_true.mp z
      cases Sum.inr.inj (of_decide_eq_true ex)
      have h2 : (ys.take (i + 1)).Nodup := nd.sublist (List.take_sublist _ _)
      rw [e1] at h2
      exact (List.nodup_append.mp h2).2.2 y hx y (by simp) rfl
    rw [no, p.nd nd]; rfl
  · have e2 : (fun k' => inK (ys.take i) k' || decide (k' = Sum.inr y)) = inK (ys.take (i + 1)) := by
      funext k'
      unfold inK
      rw [e1, List.any_append]
      simp
    rw [← e2]
    exact q
  · have := p.le
    split <;> omega
theorem fill {I : Addr} {fp wr : List Addr} {G : Array GenState → Array GenState → Prop} {n : Nat} {Pv : Nat → Value → Prop} {St : Nat → Shared → Prop} {R : Result → Shared → Prop} (W : WalksS P w A.in1 I fp wr G n Pv St)
    {a : Addr} (ha : a ∉ fp) (hn : n = ys.length) (hb : n + 1 < scanBound) (hv : ∀ i v, Pv i v → ∃ y t, ys[i]? = some y ∧ v = .str y t) (fin : ∀ s' c, Moved (a :: wr) G s s' → Part P w ys a s'.heap n c → R (.ok (.ret .none)) s') :
    ∀ (k i c : Nat) (s1 : Shared), i + k = n → St i s1 → Part P w ys a s1.heap i c → Moved (a :: wr) G s s1 → codeAny (model P w) A (.builtin "set.update.loop" ⟨[.ref a, .ref I], []⟩) R s1
  | 0, i, c, s1, e, st, p, mv => codeAny_builtin F.entry_set_update_loop <| by
    cases (Nat.add_zero i).symm.trans e
    rw [Around.under_plainId F.plain_set_update_loop _]
    refine wpAny_bind (m := pyNext (.ref I)) (W.done s1 _ _ st fun s2 hm => wpAny_pure ?_)
    exact fin s2 c (mv.trans W.gtrans (hm.mono fun b z => .tail _ z)) (p.at fun o => hm.heap a o fun z => ha (W.sub _ z))
  | k + 1, i, c, s1, e, st, p, mv => codeAny_builtin F.entry_set_update_loop <| by
    rw [Around.under_plainId F.plain_set_update_loop _]
    refine wpAny_bind (m := pyNext (.ref I)) (W.item i s1 _ _ (by omega) st fun v s2 pv st2 hm => ?_)
    obtain ⟨y, t, hy, ev⟩ := hv i v pv
    subst ev
    have p2 := p.at fun o => hm.heap a o fun z => ha (W.sub _ z)
    refine wpAny_bind (m := holding [Value.str y t] (setAdd a (.str y t))) (wpAny_holding (wpAny_holding ?_))
    refine wpAny_bind ((mixKind P w).pyHash (k := Sum.inr y) (beq_self_eq_true y) ?_)
    refine wpAny_setAddHashed_of (knd := mixKind P w) (k := Sum.inr y) (s := { s2 with toks := s2.toks + 1 }) (beq_self_eq_true y) rfl p2.of (by have := p2.le; omega) fun h' but so' => wpAny_pure ?_
    obtain ⟨c', p3⟩ := p2.more hy so'
    have far : ∀ b, b ≠ a → ∀ o, s2.heap.get? b = some o → h'.get? b = some o := fun b ne o z => (but.2 b ne).trans z
    refine ⟨plainId_quiet F.plain_set_update_loop _, fill W ha hn hb hv fin k (i + 1) c' _ (by omega) ?_ p3 ?_⟩
    · exact W.frame _ s2 _ _ st2 (Nat.le_succ _) fun b hb o z => far b (fun q => ha (by rw [← q]; exact hb)) o z
    · exact mv.trans W.gtrans (((hm.mono fun b z => .tail _ z)).then_heap (Nat.le_succ _) fun b o hb z => far b (fun q => hb (by rw [q]; exact .head _)) o z)
end
section
variable {P : Program} {w : World} {A : Around} {E : Value → Shared → Prop} {s : Shared} {ys : List PySem.Str}
theorem Part.start (led : Bool) {h : Heap} {a : Addr} (ho : h.get? a = some (so led)) : Part P w ys a h 0 0 :=
  ⟨⟨_, #[], 0, _, ho, ⟨rfl, rfl, rfl⟩, rfl, (fun e he => by simp at he), (fun k => by simp [inK]), (by decide), (by rfl), rfl⟩, Nat.le_refl _, fun _ => rfl, fun _ => by simp⟩
set_option maxHeartbeats 6400000 in
theorem call_setS {l : Addr} {its : Array Value} {Q : Value → Shared → Prop} (hh : A.handled = none) (hl : s.heap.IsList l its) (hv : ∀ (i : Nat) v, its[i]? = some v → ∃ y t, ys[i]? = some y ∧ v = .str y t) (hn : its.size = ys.length) (hb : its.size + 1 < scanBound)
    (fin : ∀ (h' : Heap) (tk c : Nat), Part P w ys s.heap.objs.size h' ys.length c → (∀ b o, s.heap.get? b = some o → h'.get? b = some o) → Q (.ref s.heap.objs.size) { s with heap := h', toks := tk }) :
    wpAny (model P w) A (call (.type "set") [.ref l]) Q E s := by
  have F0 := PySem.F.called_set
  obtain ⟨cc, tl, m1⟩ := F0.mro
  have m2 := F0.made
  have m3 := F0.sub
  have m4 := F0.notType
  have m5 := F0.canCreate
  have m6 := PySem.F.typeCall_set_1 (.ref l)
  refine wpAny_call <| codeAny_of_tree <| wpAny_pure ⟨Code.quiet_builtin _ (by decide +kernel), codeAny_builtin PySem.F.entry_type_call <| by
    rw [Around.under_plain (weight_type_call_type "set" [.ref l] []) rfl]
    repeat (any_goals (first | assumption | wp_step))
    refine codeAny_mono (code_set_new_1 (.ref l) (E := E) (Q₁ := fun v s1 => ∃ led, v = .ref s.heap.objs.size ∧ s1 = { s with heap := s.heap.push (so led) }) fun led => ⟨led, rfl, rfl⟩) ?_
    intro r s1 hr
    match r, hr with
    | .error e, hr => exact hr
    | .ok (.ret v), ⟨led, e1, e2⟩ =>
      subst e1; subst e2
      have at0 : (s.heap.push (so led)).get? s.heap.objs.size = some (so led) := Heap.get?_push_size _ rfl
      have ty : Shared.TypeIs { s with heap := s.heap.push (so led) } (.ref s.heap.objs.size) "set" := ⟨_, at0, rfl⟩
      have n1 := F0.init.lookup
      have n2 := F0.init.bind (.ref s.heap.objs.size)
      repeat (any_goals (first | assumption | wp_step))
      refine codeAny_mono (codeAny_call_builtin (R := wants (fun r s2 => r = .none ∧ ∃ h' tk c, s2 = { s with heap := h', toks := tk } ∧ Part P w ys s.heap.objs.size h' ys.length c ∧ ∀ b o, s.heap.get? b = some o → h'.get? b = some o) E) F0.init.plain PySem.F.entry_set_init (check_set_init_1 ty ?_)) ?_
      rotate_left 1
      · intro r2 s2 hr2
        match r2, hr2 with
        | .error e, hr2 => exact hr2
        | .ok (.ret r), ⟨e1, h', tk, c, e2, pt, kp⟩ =>
          subst e1; subst e2
          repeat (any_goals (first | assumption | wp_step))
          exact fin h' _ c pt kp
      · have pre : ∀ b o, s.heap.get? b = some o → (s.heap.push (so led)).get? b = some o := fun b o z => Heap.get?_push_of_some _ z
        obtain ⟨ob, hob, hc, nn, hd⟩ := hl
        obtain ⟨c0, d0, dat, sl0⟩ := ob
        cases hc; cases hd
        have hob1 := pre _ _ hob
        have il : (s.heap.push (so led)).IsList l its := ⟨_, hob1, rfl, nn, rfl⟩
        have q1 := PySem.F.sub_list_set
        have q2 := PySem.F.sub_list_frozenset
        have q3 : (Value.type "list" == Value.type "dict") = false := by decide
        unfold Builtin.«set.__init__» noKeywords Builtin.Frozenset.updateFrom
        generalize hPI : pyIter = PI
        wp_walk
        cases hPI
        refine wpAny_pyIter_list il (wpAny_bind (wpAny_runValue ?_))
        have z1 : (s.heap.push (so led)).objs.size = s.heap.objs.size + 1 := Heap.size_push ..
        have z2 : l < s.heap.objs.size := Heap.lt_size hob
        have ne : l ≠ (s.heap.push (so led)).objs.size := by rw [z1]; exact Nat.ne_of_lt (Nat.lt_succ_of_lt z2)
        have out : s.heap.objs.size ∉ [(s.heap.push (so led)).objs.size, l] := by
          rw [z1]; simp only [List.mem_cons, List.not_mem_nil, or_false, not_or]; exact ⟨Nat.ne_of_lt (Nat.lt_succ_self _), Nat.ne_of_gt z2⟩
        have hd3 : A.in1.in1.in1.handled = none := by simp [hh]
        refine fill (ys := ys) ((Walks.list hd3 _ l ne its).toS) out hn hb hv ?_ its.size 0 0 _ (Nat.zero_add _) ⟨⟨_, Heap.get?_push_size _ rfl, rfl, rfl⟩, il.push _⟩ (Part.start led (Heap.get?_push_of_some _ at0)) (Moved.refl fun _ => rfl)
        rintro ⟨h', g', d', tk', os'⟩ c mv pt
        cases show g' = s.gens from mv.gens
        cases show d' = s.drawn from mv.drawn
        cases show os' = s.os from mv.os
        refine wpAny_pure (wpAny_pure ⟨rfl, h', tk', c, rfl, hn ▸ pt, fun b o z => ?_⟩)
        have lt : b < s.heap.objs.size := Heap.lt_size z
        refine mv.heap b o ?_ (Heap.get?_push_of_some _ (pre b o z))
        rw [z1]; simp only [List.mem_cons, List.not_mem_nil, or_false, not_or]; exact ⟨Nat.ne_of_lt lt, Nat.ne_of_lt (Nat.lt_succ_of_lt lt)⟩
  ⟩
end
section
variable {X : Cx}
def rSetS (K : PySem.W.Frag) (P : Program) (w : World) : List V → Hp → VK → Prop := fun xs H Q => ∃ (l : Addr) (ys : List PySem.Str), xs = [.ref l] ∧ SqL K H l (ys.map V.str) ∧ ys.length < 64 ∧
  ∀ (p : Addr) (n : Nat), H p = none → n ≤ ys.length → (ys.Nodup → n = ys.length) → Q (.ref p) (upd H p (SetK P w p (inK ys) n))
theorem cr_setS (hc : X.calm = true) : CallR X (.type "set") (rSetS X.K X.prog X.w) := by
  intro pins s σ H xs us Q I r ⟨l, ys, e, hl, h64, q⟩
  subst e
  obtain ⟨u, eu, ru⟩ := r.one
  subst eu; cases ru
  obtain ⟨its, rv, pl, hz⟩ := I.list hl
  have hlen : its.toArray.size = ys.length := by rw [List.size_toArray, ← rv.length, List.length_map]
  refine call_setS (ys := ys) (I.ok.hd hc) pl.isList (fun i v hv => ?_) hlen (by rw [hlen]; unfold scanBound; omega) fun h' tk c pt kp => ?_
  · have hv' : its[i]? = some v := by simpa using hv
    cases hy : ys[i]? with
    | none => rw [rv.none_of (by rw [List.getElem?_map, hy]; rfl)] at hv'; cases hv'
    | some y =>
      obtain ⟨v', h1, ⟨t, h2⟩⟩ := rv.get (i := i) (x := .str y) (by rw [List.getElem?_map, hy]; rfl)
      rw [hv'] at h1; cases h1
      exact ⟨y, t, rfl, h2⟩
  · have e1 : ys.take ys.length = ys := List.take_length
    have po := pt.of
    rw [e1] at po
    exact ⟨.ref _, upd H s.heap.objs.size (SetK X.prog X.w s.heap.objs.size (inK ys) c), I.laid (t' := tk) kp (Nat.le_refl _) (setK_new po), rfl, q _ c (I.hok.fresh (Nat.le_refl _)) pt.le pt.nd⟩
/-- with the word that as many items as texts means that no text stands twice -/
def rSetSN (K : PySem.W.Frag) (P : Program) (w : World) : List V → Hp → VK → Prop := fun xs H Q => ∃ (l : Addr) (ys : List PySem.Str), xs = [.ref l] ∧ SqL K H l (ys.map V.str) ∧ ys.length < 64 ∧
  ∀ (p : Addr) (n : Nat), H p = none → n ≤ ys.length → (ys.Nodup → n = ys.length) → (n = ys.length → ys.Nodup) → Q (.ref p) (upd H p (SetK P w p (inK ys) n))
theorem cr_setSN (hc : X.calm = true) : CallR X (.type "set") (rSetSN X.K X.prog X.w) := by
  intro pins s σ H xs us Q I r ⟨l, ys, e, hl, h64, q⟩
  subst e
  obtain ⟨u, eu, ru⟩ := r.one
  subst eu; cases ru
  obtain ⟨its, rv, pl, hz⟩ := I.list hl
  have hlen : its.toArray.size = ys.length := by rw [List.size_toArray, ← rv.length, List.length_map]
  refine call_setS (ys := ys) (I.ok.hd hc) pl.isList (fun i v hv => ?_) hlen (by rw [hlen]; unfold scanBound; omega) fun h' tk c pt kp => ?_
  · have hv' : its[i]? = some v := by simpa using hv
    cases hy : ys[i]? with
    | none => rw [rv.none_of (by rw [List.getElem?_map, hy]; rfl)] at hv'; cases hv'
    | some y =>
      obtain ⟨v', h1, ⟨t, h2⟩⟩ := rv.get (i := i) (x := .str y) (by rw [List.getElem?_map, hy]; rfl)
      rw [hv'] at h1; cases h1
      exact ⟨y, t, rfl, h2⟩
  · have e1 : ys.take ys.length = ys := List.take_length
    have po := pt.of
    rw [e1] at po
    exact ⟨.ref _, upd H s.heap.objs.size (SetK X.prog X.w s.heap.objs.size (inK ys) c), I.laid (t' := tk) kp (Nat.le_refl _) (setK_new po), rfl, q _ c (I.hok.fresh (Nat.le_refl _)) pt.le pt.nd fun e => by have := pt.dn e; rwa [e1] at this⟩
theorem call_lenK : CallR X (.builtin "len") (fun xs H Q => ∃ (p : Addr) (S : L2.Key → Bool) (n : Nat), xs = [.ref p] ∧ H p = some (SetK X.prog X.w p S n) ∧ n < 64 ∧ Q (.int (n : Nat)) H) := by
  intro pins s σ H xs us Q I r ⟨p, S, n, e, hp, h64, q⟩
  subst e
  obtain ⟨u, eu, ru⟩ := r.one
  subst eu; cases ru
  obtain ⟨o, es, ep, t, h1, h2, h3, _, _, _, h5, h6⟩ := setK_get I hp
  refine call_len_set h1 h2 h3 h5 (by rw [h6]; omega) ⟨.int n, H, I.tok _, ⟨_, by rw [h6]⟩, q⟩
end
end Mc
namespace Mc
section
variable {α : Type} [DecidableEq α]
structure Sc (α : Type) where
  ms : List α
  cap : α → Nat
  heard : α → List α
structure SM (α : Type) where
  pos : α → Option α
  on : α → List α
structure SOk (X : Sc α) (S : SM α) (names : List α) : Prop where
  mem : ∀ c m, S.pos c = some m ↔ c ∈ S.on m
  nd : ∀ m, (S.on m).Nodup
  cap : ∀ m, (S.on m).length ≤ X.cap m
  hd : ∀ c m, c ∈ S.on m → m ∈ X.heard c
  dom : ∀ c, (∃ m, S.pos c = some m) ↔ c ∈ names
def SM.rm (S : SM α) (c x : α) : List α := if S.pos c = some x then (S.on x).erase c else S.on x
def SM.put (S : SM α) (c m : α) : SM α := ⟨fun x => if x = c then some m else S.pos x, fun x => if x = m then S.rm c x ++ [c] else S.rm c x⟩
theorem SM.rm_sub (S : SM α) (c x : α) : ∀ y ∈ S.rm c x, y ∈ S.on x := by
  intro y h; unfold SM.rm at h; split at h
  · exact List.mem_of_mem_erase h
  · exact h
theorem SM.rm_len (S : SM α) (c x : α) : (S.rm c x).length ≤ (S.on x).length := by
  unfold SM.rm; split
  · exact List.length_erase_le
  · exact Nat.le_refl _
theorem SOk.rm_mem {X : Sc α} {S : SM α} {names : List α} (O : SOk X S names) (c x y : α) : y ∈ S.rm c x ↔ y ≠ c ∧ y ∈ S.on x := by
  unfold SM.rm; split
  case isTrue h => rw [List.Nodup.mem_erase_iff (O.nd x)]
  case isFalse h =>
    constructor
    · intro hy; exact ⟨fun e => h (by rw [← e]; exact (O.mem y x).mpr hy), hy⟩
    · exact fun h => h.2
theorem SOk.rm_nd {X : Sc α} {S : SM α} {names : List α} (O : SOk X S names) (c x : α) : (S.rm c x).Nodup := by
  unfold SM.rm; split
  · exact (O.nd x).erase _
  · exact O.nd x
theorem SOk.put {X : Sc α} {S : SM α} {names names' : List α} (O : SOk X S names) {c m : α} (hm : m ∈ X.heard c) (hr : (S.on m).length < X.cap m) (hn : ∀ x, x ∈ names' ↔ x = c ∨ x ∈ names) :
    SOk X (S.put c m) names' := by
  have hc : ∀ x, c ∉ S.rm c x := fun x h => ((O.rm_mem c x c).mp h).1 rfl
  refine ⟨fun y x => ?_, fun x => ?_, fun x => ?_, fun y x h => ?_, fun y => ?_⟩
  · show (if y = c then some m else S.pos y) = some x ↔ y ∈ (if x = m then S.rm c x ++ [c] else S.rm c x)
    by_cases e : y = c
    · subst e; rw [if_pos rfl]
      by_cases e2 : x = m
      · subst e2; simp
      · rw [if_neg e2]; exact ⟨fun z => absurd (Option.some.inj z).symm e2, fun z => absurd z (hc x)⟩
    · rw [if_neg e]
      have := O.rm_mem c x y
      by_cases e2 : x = m
      · rw [if_pos e2]; simp [e, this, O.mem]
      · rw [if_neg e2, this, O.mem]; simp [e]
  · show (if x = m then S.rm c x ++ [c] else S.rm c x).Nodup
    split
    · exact List.nodup_append.mpr ⟨O.rm_nd c x, by simp, fun a ha b hb e => by simp at hb; subst hb; subst e; exact hc x ha⟩
    · exact O.rm_nd c x
  · show (if x = m then S.rm c x ++ [c] else S.rm c x).length ≤ _
    split
    case isTrue e => subst e; rw [List.length_append]; have := S.rm_len c x; simp; omega
    case isFalse e => exact Nat.le_trans (S.rm_len c x) (O.cap x)
  · have h : y ∈ (if x = m then S.rm c x ++ [c] else S.rm c x) := h
    split at h
    case isTrue e =>
      rcases List.mem_append.mp h with h | h
      · exact O.hd _ _ (S.rm_sub c x y h)
      · simp at h; subst h; subst e; exact hm
    case isFalse e => exact O.hd _ _ (S.rm_sub c x y h)
  · show (∃ x, (if y = c then some m else S.pos y) = some x) ↔ _
    by_cases e : y = c
    · rw [if_pos e, hn]; exact ⟨fun _ => .inl e, fun _ => ⟨m, rfl⟩⟩
    · rw [if_neg e, hn, O.dom]; simp [e]
/-- a right seating of some calls -/
def Right (X : Sc α) (names : List α) (T : α → α) : Prop := (∀ c ∈ names, T c ∈ X.heard c) ∧ ∀ m, (names.filter fun c => decide (T c = m)).length ≤ X.cap m
def Seatable (X : Sc α) (names : List α) : Prop := ∃ T, Right X names T
theorem len_sub : ∀ {a b : List α}, a.Nodup → (∀ x ∈ a, x ∈ b) → a.length ≤ b.length
  | [], _, _, _ => Nat.zero_le _
  | x :: a, b, h, s => by
    have hx := List.nodup_cons.mp h
    have h1 := len_sub (a := a) (b := b.erase x) hx.2 fun y hy => (List.mem_erase_of_ne (fun e => by subst e; exact hx.1 hy)).mpr (s y (List.mem_cons_of_mem _ hy))
    have h2 := List.length_erase_of_mem (s x (by simp))
    have h3 : 0 < b.length := List.length_pos_of_mem (s x (by simp))
    simp; omega
theorem sum_le {R : List α} {f g : α → Nat} (h : ∀ m ∈ R, f m ≤ g m) : (R.map f).sum ≤ (R.map g).sum := by
  induction R with
  | nil => exact Nat.le_refl _
  | cons x R ih => simp; have := h x (by simp); have := ih fun m hm => h m (List.mem_cons_of_mem _ hm); omega
theorem sum_cnt {R : List α} (hR : R.Nodup) (T : α → α) : ∀ (A : List α), (∀ a ∈ A, T a ∈ R) → A.length ≤ (R.map fun m => (A.filter fun c => decide (T c = m)).length).sum
  | [], _ => Nat.zero_le _
  | a :: A, h => by
    have ih := sum_cnt hR T A fun x hx => h x (List.mem_cons_of_mem _ hx)
    have key : ∀ (R : List α), T a ∈ R → (R.map fun m => (A.filter fun c => decide (T c = m)).length).sum + 1 ≤ (R.map fun m => ((a :: A).filter fun c => decide (T c = m)).length).sum := by
      intro R
      induction R with
      | nil => intro h; cases h
      | cons r R ihR =>
        intro h
        simp only [List.map_cons, List.sum_cons]
        by_cases e : T a = r
        · have h1 : ((a :: A).filter fun c => decide (T c = r)).length = (A.filter fun c => decide (T c = r)).length + 1 := by rw [List.filter_cons, if_pos (decide_eq_true e)]; rfl
          have h2 : (R.map fun m => (A.filter fun c => decide (T c = m)).length).sum ≤ (R.map fun m => ((a :: A).filter fun c => decide (T c = m)).length).sum := sum_le fun m _ => by
            rw [List.filter_cons]; split <;> simp
          omega
        · have h1 : (A.filter fun c => decide (T c = r)).length ≤ ((a :: A).filter fun c => decide (T c = r)).length := by rw [List.filter_cons]; split <;> simp
          have := ihR ((List.mem_cons.mp h).resolve_left e)
          omega
    have := key R (h a (by simp))
    simp; omega
theorem no_seat {X : Sc α} {S : SM α} {names : List α} (O : SOk X S names) {c : α} (hc : c ∉ names) {R : List α} (hR : R.Nodup) (h1 : ∀ m ∈ X.heard c, m ∈ R) (h2 : ∀ m ∈ R, ¬ (S.on m).length < X.cap m)
    (h3 : ∀ m ∈ R, ∀ y ∈ S.on m, ∀ o ∈ X.heard y, o ∈ R) {names' : List α} (hn : ∀ x, x ∈ names' ↔ x ∈ names ∨ x = c) : ¬ Seatable X names' := by
  rintro ⟨T, T1, T2⟩
  have hmem : ∀ y ∈ R.flatMap S.on, y ∈ names ∧ ∃ m ∈ R, y ∈ S.on m := fun y hy => by
    obtain ⟨m, hm, hy⟩ := List.mem_flatMap.mp hy
    exact ⟨(O.dom y).mp ⟨m, (O.mem y m).mpr hy⟩, m, hm, hy⟩
  have nd : ∀ R : List α, R.Nodup → (R.flatMap S.on).Nodup := by
    intro R hR
    induction R with
    | nil => exact List.nodup_nil
    | cons r R ih =>
      have hr := List.nodup_cons.mp hR
      rw [List.flatMap_cons]
      refine List.nodup_append.mpr ⟨O.nd r, ih hr.2, fun a ha b hb e => ?_⟩
      subst e
      obtain ⟨m, hm, hb⟩ := List.mem_flatMap.mp hb
      have e1 := (O.mem a r).mpr ha
      have e2 := (O.mem a m).mpr hb
      rw [e1] at e2
      cases Option.some.inj e2
      exact hr.1 hm
  have ndA : (c :: R.flatMap S.on).Nodup := List.nodup_cons.mpr ⟨fun h => hc (hmem c h).1, nd R hR⟩
  have hA := sum_cnt hR T (c :: R.flatMap S.on) fun a ha => by
    rcases List.mem_cons.mp ha with e | e
    · subst e; exact h1 _ (T1 _ ((hn a).mpr (.inr rfl)))
    · obtain ⟨h, m, hm, hy⟩ := hmem a e
      exact h3 m hm a hy _ (T1 _ ((hn a).mpr (.inl h)))
  have hB := sum_le (R := R) (f := fun m => ((c :: R.flatMap S.on).filter fun c => decide (T c = m)).length) (g := fun m => (S.on m).length) fun m hm => by
    refine Nat.le_trans (Nat.le_trans (len_sub (b := names'.filter fun c => decide (T c = m)) (ndA.filter _) fun x hx => ?_) (T2 m)) (Nat.le_of_not_lt (h2 m hm))
    rw [List.mem_filter] at hx ⊢
    refine ⟨(hn x).mpr ?_, hx.2⟩
    rcases List.mem_cons.mp hx.1 with e | e
    · exact .inr e
    · exact .inl (hmem x e).1
  have hl : ∀ R : List α, (R.flatMap S.on).length = (R.map fun m => (S.on m).length).sum := fun R => by rw [List.length_flatMap]
  rw [List.length_cons, hl] at hA
  omega
theorem SOk.seatable {X : Sc α} {S : SM α} {names : List α} (O : SOk X S names) (hn : names.Nodup) : Seatable X names := by
  cases names with
  | nil => exact ⟨id, ⟨fun c h => (nomatch h), fun m => Nat.zero_le _⟩⟩
  | cons n ns =>
    refine ⟨fun c => (S.pos c).getD n, fun c hc => ?_, fun m => ?_⟩
    · obtain ⟨m, hm⟩ := (O.dom c).mpr hc
      show (S.pos c).getD n ∈ _
      rw [hm]; exact O.hd c m ((O.mem c m).mp hm)
    · refine Nat.le_trans (len_sub (b := S.on m) (hn.filter _) fun x hx => ?_) (O.cap m)
      rw [List.mem_filter] at hx
      obtain ⟨m', hm⟩ := (O.dom x).mpr hx.1
      have h2 : (S.pos x).getD n = m := of_decide_eq_true hx.2
      rw [hm] at h2
      exact (O.mem x m).mp (by rw [hm]; exact congrArg some h2)
/-- the search: which masts were come to, and how -/
inductive Ch (X : Sc α) (S : SM α) (c : α) : List (α × α × Option α) → Prop
  | nil : Ch X S c []
  | snoc {L : List (α × α × Option α)} {m y : α} {l : Option α} : Ch X S c L → m ∈ X.heard y → (l = none ∧ y = c ∨ ∃ m', l = some m' ∧ m' ∈ L.map (·.1) ∧ y ∈ S.on m') → m ∉ L.map (·.1) → Ch X S c (L ++ [(m, y, l)])
theorem Ch.nodup {X : Sc α} {S : SM α} {c : α} {L : List (α × α × Option α)} (h : Ch X S c L) : (L.map (·.1)).Nodup := by
  induction h with
  | nil => exact List.nodup_nil
  | snoc _ _ _ hn ih => rw [List.map_append]; exact List.nodup_append.mpr ⟨ih, by simp, fun a ha b hb e => by simp at hb; subst hb; subst e; exact hn ha⟩
theorem Ch.at {X : Sc α} {S : SM α} {c : α} {L : List (α × α × Option α)} (h : Ch X S c L) {m : α} (hm : m ∈ L.map (·.1)) :
    ∃ L1 y l L2, L = L1 ++ (m, y, l) :: L2 ∧ Ch X S c L1 ∧ m ∈ X.heard y ∧ (l = none ∧ y = c ∨ ∃ m', l = some m' ∧ m' ∈ L1.map (·.1) ∧ y ∈ S.on m') ∧ m ∉ L1.map (·.1) := by
  induction h with
  | nil => cases hm
  | @snoc L m2 y l hL h1 h2 h3 ih =>
    rw [List.map_append, List.mem_append] at hm
    rcases hm with hm | hm
    · obtain ⟨L1, y', l', L2, e, r⟩ := ih hm
      exact ⟨L1, y', l', L2 ++ [(m2, y, l)], by rw [e]; simp, r⟩
    · simp at hm; subst hm
      exact ⟨L, y, l, [], rfl, hL, h1, h2, h3⟩
/-- the way back: what holds ahead of each move -/
structure Lead (X : Sc α) (S : SM α) (c : α) (L : List (α × α × Option α)) (S' : SM α) (names : List α) (m : α) (n : Nat) : Prop where
  ok : SOk X S' names
  c0 : c ∉ names
  ch : Ch X S c L
  room : (S'.on m).length < X.cap m
  here : m ∈ L.map (·.1)
  pre : ∀ L1 y l L2, L = L1 ++ (m, y, l) :: L2 → L1.length < n ∧ ∀ x ∈ L1.map (·.1), S'.on x = S.on x
theorem Lead.step {X : Sc α} {S : SM α} {c : α} {L : List (α × α × Option α)} {S' : SM α} {names : List α} {m : α} {n : Nat} (I : Lead X S c L S' names m n) :
    ∃ y l, (m, y, l) ∈ L ∧ m ∈ X.heard y ∧ (l = none ∧ y = c ∧ SOk X (S'.put y m) (names ++ [c]) ∨ ∃ m' k, l = some m' ∧ k < n ∧ Lead X S c L (S'.put y m) names m' k) := by
  obtain ⟨L1, y, l, L2, e, hc1, hm, hl, hn⟩ := I.ch.at I.here
  refine ⟨y, l, by rw [e]; simp, hm, ?_⟩
  obtain ⟨hk, hp⟩ := I.pre _ _ _ _ e
  rcases hl with ⟨rfl, rfl⟩ | ⟨m', rfl, hm', hy⟩
  · exact .inl ⟨rfl, rfl, I.ok.put hm I.room fun x => by simp; exact Or.comm⟩
  · right
    obtain ⟨La, ya, la, Lb, ea, ca, _⟩ := hc1.at hm'
    have hy' : y ∈ S'.on m' := by rw [hp m' hm']; exact hy
    have py : S'.pos y = some m' := (I.ok.mem y m').mpr hy'
    have yn : y ∈ names := (I.ok.dom y).mp ⟨m', py⟩
    have mne : m' ≠ m := fun z => hn (by rw [← z]; exact hm')
    refine ⟨m', L1.length, rfl, hk, I.ok.put hm I.room fun x => ⟨fun h => .inr h, fun h => h.elim (fun e => by rw [e]; exact yn) id⟩, I.c0, I.ch, ?_, ?_, ?_⟩
    · show (if m' = m then S'.rm y m' ++ [y] else S'.rm y m').length < _
      rw [if_neg mne]
      unfold SM.rm
      rw [if_pos py, List.length_erase_of_mem hy']
      have := I.ok.cap m'
      have : 0 < (S'.on m').length := List.length_pos_of_mem hy'
      omega
    · rw [e, ea]; simp
    · intro La' ya' la' Lb' e'
      have nd := I.ch.nodup
      -- the place of m' is one only
      have hLa : La' = La := by
        have e1 : L = La ++ (m', ya, la) :: (Lb ++ (m, y, some m') :: L2) := by rw [e, ea]; simp
        have nd1 := nd
        rw [e'] at nd
        rw [e1] at nd1
        have key : ∀ (A A' : List (α × α × Option α)) (z z' : α × Option α) (B B' : List (α × α × Option α)), A ++ (m', z) :: B = A' ++ (m', z') :: B' → m' ∉ A.map (·.1) → m' ∉ A'.map (·.1) → A = A' := by
          intro A
          induction A with
          | nil =>
            intro A' z z' B B' h _ h2
            cases A' with
            | nil => rfl
            | cons a A' => simp at h; exact absurd (by rw [← h.1]; simp) h2
          | cons a A ih =>
            intro A' z z' B B' h h1 h2
            cases A' with
            | nil => simp at h; exact absurd (by rw [h.1]; simp) h1
            | cons a' A' =>
              simp only [List.cons_append, List.cons.injEq] at h
              rw [h.1, ih A' z z' B B' h.2 (fun q => h1 (List.mem_cons_of_mem _ q)) (fun q => h2 (List.mem_cons_of_mem _ q))]
        have n1 : m' ∉ La.map (·.1) := by
          rw [List.map_append] at nd1
          intro q
          exact (List.nodup_append.mp nd1).2.2 m' q m' (by simp) rfl
        have n2 : m' ∉ La'.map (·.1) := by
          rw [List.map_append] at nd
          intro q
          exact (List.nodup_append.mp nd).2.2 m' q m' (by simp) rfl
        exact key La' La _ _ _ _ (e'.symm.trans e1) n2 n1
      subst hLa
      have nd1 := hc1.nodup
      rw [ea, List.map_append] at nd1
      refine ⟨by rw [ea]; simp, fun x hx => ?_⟩
      have xm' : x ≠ m' := fun z => (List.nodup_append.mp nd1).2.2 x hx m' (by simp) z
      have hxL : x ∈ L1.map (·.1) := by rw [ea, List.map_append]; exact List.mem_append_left _ hx
      have xm : x ≠ m := fun z => hn (by rw [← z]; exact hxL)
      show (if x = m then S'.rm y x ++ [y] else S'.rm y x) = S.on x
      rw [if_neg xm]
      unfold SM.rm
      rw [if_neg (fun z => xm' (by rw [py] at z; exact (Option.some.inj z).symm))]
      exact hp x hxL
end
end Mc
namespace Mc
open PySem L2 PySem.Spec PyProof.Rows
/-- a statement that is never come to -/
theorem ps_no {X : Cx} {st : Stmt} : PS X st (fun _ _ _ => False) := ⟨fun _ _ _ _ _ _ h => h.elim⟩
theorem dc_it {J : It} {n : Nat} {G : Hp → Prop} {Y : Nat → Hp → V → Hp → Prop} (w : Walk J n G Y) {g : TG} {tt : TT} {tk tv : TE} {vs : List Nat} {σ : L2.St} {H1 : Hp} {D : Addr} {Qd : Hp → Prop} (Pv : Nat → Hp → Prop) (h0 : Pv 0 (upd H1 D (.dK [])))
    (hG : ∀ i H, i ≤ n → Pv i H → G H)
    (hs : ∀ i x H H', i < n → Pv i H → Y i H x H' → g x (wipe σ vs) H' fun σ2 H2 => wipe σ2 vs = wipe σ vs ∧ tt σ2 H2 fun b H3 =>
      if b = true then tk σ2 H3 fun y H4 => tv σ2 H4 fun z H5 => ∃ kvs k, y = kV k ∧ H5 D = some (.dK kvs) ∧ kvs.length < sizeLine ∧ Pv (i + 1) (upd H5 D (.dK (putK kvs k z))) else Pv (i + 1) H3) (hd : ∀ H, Pv n H → Qd H) :
    ∃ W : Nat → Nat → Hp → Prop, (∃ m, W 0 m (upd H1 D (.dK []))) ∧ ∀ i m H, W i m H →
      (J.stop i H ∧ Qd H) ∨ (J.go i H ∧ ∃ Nx : Hp → Prop, (∀ H', Nx H' → ∃ m', m' < m ∧ W (i + 1) m' H') ∧ ∀ x H', J.yld i H x H' → g x (wipe σ vs) H' fun σ2 H2 => wipe σ2 vs = wipe σ vs ∧ tt σ2 H2 fun b H3 =>
        if b = true then tk σ2 H3 fun y H4 => tv σ2 H4 fun z H5 => ∃ kvs k, y = kV k ∧ H5 D = some (.dK kvs) ∧ kvs.length < sizeLine ∧ Nx (upd H5 D (.dK (putK kvs k z))) else Nx H3) := by
  refine ⟨fun i m H => i + m = n ∧ Pv i H, ⟨n, by omega, h0⟩, fun i m H ⟨e, p⟩ => ?_⟩
  cases m with
  | zero =>
    cases (Nat.add_zero i).symm.trans e
    exact .inl ⟨w.stops H (hG _ H (Nat.le_refl _) p), hd H p⟩
  | succ m =>
    have lt : i < n := by omega
    have q := hG i H (Nat.le_of_lt lt) p
    exact .inr ⟨w.goes i H lt q, fun H' => Pv (i + 1) H', fun H' p' => ⟨m, Nat.lt_succ_self m, by omega, p'⟩, fun x H' y => hs i x H H' lt p (w.yields i H x H' lt q y)⟩
/-! dicts whose keys are texts -/
section
variable {β : Type} {f : β → V} {l : List (PySem.Str × β)} {k : PySem.Str} {v : β}
def kvT (f : β → V) (l : List (PySem.Str × β)) : List (L2.Key × V) := l.map fun x => (Sum.inr x.1, f x.2)
def getT (l : List (PySem.Str × β)) (k : PySem.Str) : Option β := (l.find? fun x => decide (x.1 = k)).map (·.2)
def keysT (l : List (PySem.Str × β)) : List PySem.Str := l.map (·.1)
theorem kvT_app (l' : List (PySem.Str × β)) : kvT f (l ++ l') = kvT f l ++ kvT f l' := List.map_append
theorem getT_nil : getT ([] : List (PySem.Str × β)) k = none := rfl
theorem getT_cons (x : PySem.Str × β) : getT (x :: l) k = if x.1 = k then some x.2 else getT l k := by
  unfold getT
  rw [List.find?_cons]
  by_cases e : x.1 = k
  · rw [decide_eq_true e, if_pos e]; rfl
  · rw [decide_eq_false e, if_neg e]
theorem val_T : valV (kvT f l) (Sum.inr k : L2.Key) = (getT l k).map f := by
  induction l with
  | nil => rfl
  | cons x l ih =>
    rw [getT_cons]
    by_cases e : x.1 = k
    · rw [if_pos e]
      exact valV_pos (p := ((Sum.inr x.1 : L2.Key), f x.2)) (congrArg Sum.inr e)
    · rw [if_neg e, ← ih]
      exact valV_neg (p := ((Sum.inr x.1 : L2.Key), f x.2)) fun z => e (Sum.inr.inj z)
theorem getT_in (h : getT l k = some v) : (k, v) ∈ l := by
  induction l with
  | nil => cases h
  | cons x l ih =>
    rw [getT_cons] at h
    by_cases e : x.1 = k
    · rw [if_pos e] at h
      cases Option.some.inj h
      rw [← e]; exact .head _
    · rw [if_neg e] at h
      exact .tail _ (ih h)
theorem getT_mem (nd : (keysT l).Nodup) (h : (k, v) ∈ l) : getT l k = some v := by
  induction l with
  | nil => cases h
  | cons x l ih =>
    have nd' := List.nodup_cons.mp nd
    rw [getT_cons]
    rcases List.mem_cons.mp h with e | e
    · rw [← e, if_pos rfl]
    · rw [if_neg fun z => nd'.1 (by show x.1 ∈ _; rw [z]; exact List.mem_map.mpr ⟨_, e, rfl⟩)]
      exact ih nd'.2 e
theorem getT_none : getT l k = none ↔ k ∉ keysT l := by
  induction l with
  | nil => exact ⟨fun _ h => (nomatch h), fun _ => rfl⟩
  | cons x l ih =>
    rw [getT_cons]
    by_cases e : x.1 = k
    · rw [if_pos e]
      exact ⟨fun h => (nomatch h), fun h => absurd (by rw [← e]; exact .head _) h⟩
    · rw [if_neg e, ih]
      exact ⟨fun h z => (List.mem_cons.mp z).elim (fun q => e q.symm) h, fun h z => h (.tail _ z)⟩
theorem getT_key (h : k ∈ keysT l) : ∃ v, getT l k = some v := by
  cases e : getT l k with
  | none => exact absurd h (getT_none.mp e)
  | some v => exact ⟨v, rfl⟩
theorem put_new (h : k ∉ keysT l) : putK (kvT f l) (Sum.inr k : L2.Key) (f v) = kvT f (l ++ [(k, v)]) := by
  rw [putK_new _ (by rw [val_T, getT_none.mpr h]; rfl), kvT_app]; rfl
theorem put_old (h : k ∈ keysT l) : putK (kvT f l) (Sum.inr k : L2.Key) (f v) = kvT f (l.map fun x => if x.1 = k then (x.1, v) else x) := by
  unfold putK
  rw [if_pos (by
    obtain ⟨v', hv⟩ := getT_key h
    rw [valV_any, val_T, hv]; rfl)]
  unfold kvT
  rw [List.map_map, List.map_map]
  refine List.map_congr_left fun x _ => ?_
  show (if (Sum.inr x.1 : L2.Key) = Sum.inr k then _ else _) = _
  by_cases e : x.1 = k
  · rw [if_pos (congrArg Sum.inr e)]
    show _ = ((Sum.inr (if x.1 = k then (x.1, v) else x).1 : L2.Key), f (if x.1 = k then (x.1, v) else x).2)
    rw [if_pos e]
  · rw [if_neg fun z => e (Sum.inr.inj z)]
    show _ = ((Sum.inr (if x.1 = k then (x.1, v) else x).1 : L2.Key), f (if x.1 = k then (x.1, v) else x).2)
    rw [if_neg e]
theorem drop_T : dropK (kvT f l) (Sum.inr k : L2.Key) = kvT f (l.filter fun x => decide (x.1 ≠ k)) := by
  unfold dropK kvT
  rw [List.filter_map]
  congr 1
  refine List.filter_congr fun x _ => ?_
  show decide ((Sum.inr x.1 : L2.Key) ≠ Sum.inr k) = decide (x.1 ≠ k)
  simp
/-- the items in another turn of the keys -/
theorem perm_T [Inhabited β] (nd : (keysT l).Nodup) {ys : List PySem.Str} (h : ys.Perm (keysT l)) : (ys.map fun y => (y, (getT l y).getD default)).Perm l := by
  refine (h.map _).trans ?_
  have e : (keysT l).map (fun y => (y, (getT l y).getD default)) = l := by
    unfold keysT
    rw [List.map_map]
    refine (List.map_congr_left fun x hx => ?_).trans (List.map_id l)
    show (x.1, (getT l x.1).getD default) = x
    rw [getT_mem nd (v := x.2) hx]; rfl
  rw [e]
end
theorem kvT_get {β : Type} {f : β → V} {l : List (PySem.Str × β)} {i : Nat} {k : L2.Key} {v : V} (h : (kvT f l)[i]? = some (k, v)) : ∃ x, l[i]? = some x ∧ k = Sum.inr x.1 ∧ v = f x.2 := by
  unfold kvT at h
  rw [List.getElem?_map] at h
  cases e : l[i]? with
  | none => rw [e] at h; cases h
  | some x => rw [e] at h; cases Option.some.inj h; exact ⟨x, rfl, rfl, rfl⟩
theorem un_same {H H' : Hp} {d : Addr} {od : Obj} {u : HO} (s : Same (upd H d (.frz od u)) H') (h : H d = some u) : Same H (upd H' d u) := fun b o z => by
  by_cases e : b = d
  · subst e; rw [h] at z; cases z; exact upd_same
  · rw [upd_ne e]; exact s b o (by rw [upd_ne e]; exact z)
theorem keysT_kv {β : Type} {f : β → V} (l : List (PySem.Str × β)) : (kvT f l).map (·.1) = (keysT l).map Sum.inr := by
  unfold kvT keysT; rw [List.map_map, List.map_map]; rfl
theorem dgetT {β : Type} {f : β → V} {l : List (PySem.Str × β)} {k : PySem.Str} {v : β} {H : Hp} {a : Addr} (h : Rd H a (.dK (kvT f l))) (e : getT l k = some v) : DGet H a (.str k) (some (f v)) := .inl ⟨_, Sum.inr k, h, rfl, by rw [val_T, e]; rfl⟩
theorem dgetN {β : Type} {f : β → V} {l : List (PySem.Str × β)} {k : PySem.Str} {H : Hp} {a : Addr} (h : Rd H a (.dK (kvT f l))) : DGet H a (.str k) ((getT l k).map f) := .inl ⟨_, Sum.inr k, h, rfl, val_T.symm⟩
theorem nd_take {α : Type} {ys : List α} {i : Nat} {m : α} (nd : ys.Nodup) (hi : ys[i]? = some m) : m ∉ ys.take i := by
  have h2 : (ys.take (i + 1)).Nodup := nd.sublist (List.take_sublist _ _)
  rw [List.take_add_one, hi] at h2
  exact fun z => (List.nodup_append.mp h2).2.2 m z m (by simp) rfl
theorem keysT_mk {β : Type} {g : PySem.Str → β} (ys : List PySem.Str) : keysT (ys.map fun y => (y, g y)) = ys := by
  unfold keysT; rw [List.map_map]; exact List.map_id ys
theorem put_mk {β : Type} {f : β → V} {g : PySem.Str → β} {ys : List PySem.Str} {i : Nat} {m : PySem.Str} (nd : ys.Nodup) (hi : ys[i]? = some m) :
    putK (kvT f ((ys.take i).map fun y => (y, g y))) (Sum.inr m : L2.Key) (f (g m)) = kvT f ((ys.take (i + 1)).map fun y => (y, g y)) := by
  rw [put_new (by rw [keysT_mk]; exact nd_take nd hi), List.take_add_one, hi, List.map_append]; rfl
theorem len_mk {β : Type} {f : β → V} {g : PySem.Str → β} {ys : List PySem.Str} {i : Nat} (h : ys.length < 64) : (kvT f ((ys.take i).map fun y => (y, g y))).length < sizeLine := by
  unfold kvT; rw [List.length_map, List.length_map, List.length_take]
  exact Nat.lt_of_le_of_lt (Nat.min_le_right _ _) (Nat.lt_of_lt_of_le h (by decide))
theorem via {α : Type} {R G : α → Prop} {g : Prop} (h : (∀ x, R x → G x) → g) (t : ∀ x, R x → G x) : g := h t
end Mc
namespace Mc
open PySem L2 PySem.Spec PyProof.Rows
def top (i : Nat) : Stmt := PySem.Challenge.pw_mastcalls_k21_whole_scenes.main.body.getD i (.Pass ⟨0, 0, 0, 0⟩)
/-! ### the draws -/
abbrev sNum : Stmt := top 19
abbrev sTake : Stmt := top 20
def spNum (K : PySem.W.Frag) : Sp := fun vs H Q _ => ∃ (a : Addr) (ns : List Int) (k : Int), vs = [.ref a, .int k] ∧ SqL K H a (ns.map V.int) ∧ ns.length ≤ 63 ∧
  ∀ (v : Int) (H' : Hp), 0 ≤ v → Same H H' → Q (.int v) H'
def spTake (K : PySem.W.Frag) : Sp := fun vs H Q _ => ∃ (M : List Addr) (d a : Addr) (m : Int), vs = [.ref d, .int m] ∧ Dr K M d a H ∧ 0 < m ∧
  ∀ (v : Int) (H' : Hp), 0 ≤ v → v < m → Dr K M d a H' → Kp [d] H H' → Q (.int v) H'
/-- what the draws ask of the module -/
structure TxD (K : PySem.W.Frag) (mg : Str → Option Value) (fN fT : Addr) : Prop where
  len : mg "len" = none
  int : mg "int" = none
  abs : mg "abs" = none
  num : mg "_law_number" = some (.ref fN)
  take : mg "_law_take" = some (.ref fT)
section
variable {P : Program} {w : World} {K : PySem.W.Frag} {mg : Str → Option Value} {base : Heap}
theorem scNum : FnScope ["script", "index", "cell", "blend"] ["script", "index"] (defScope sNum) := ⟨rfl, rfl, rfl, by decide +kernel, rfl, by decide +kernel, by decide +kernel⟩
theorem ok_num {f fN fT : Addr} {fd : FuncData} (F : Fun K "_law_number" "_law_number" sNum f fd) (T : TxD K mg fN fT) : FnOk P w K mg base CX0 1 f fd ["script", "index"] (spNum K) := by
  refine F.ok scNum (fun vs H Q E h => ?_) (fun cdv A outer s H vs Q E hr h => ?_)
  · obtain ⟨a, ns, k, rfl, _⟩ := h
    rfl
  · obtain ⟨a, ns, k, rfl, hS, hl, q⟩ := h
    refine ⟨_, pss_cons (ps_if (pt_cmpR (op_eqD hr.units) (pv 0) (pe_lst pa_nil) (nomark _)) (pss_one (ps_ret (pe_callTy call_int1 (by rfl) T.int boot_int (pa_cons (pe_op op_mod (pe_op op_add (pe_op op_mul (pv 1) pe_int) pe_int) pe_int) pa_nil)))) pss_nil)
      (pss_cons (ps_set (i := 2) scNum.nd rfl (Or.inl rfl) (pe_ix ix_list (pv 0) (pe_op op_mod (pv 1) (pe_callB call_len_seq (by rfl) T.len PySem.boot_len (pa_cons (pv 0) pa_nil))) (fun _ _ => rfl)))
      (pss_cons (ps_if (pt_cmpR op_ge (pe_callB call_abs (by rfl) T.abs boot_abs (pa_cons (pv 2) pa_nil)) (pe_op op_pow pe_int pe_int) (nomark _)) (pss_one (ps_set (i := 2) scNum.nd rfl (Or.inl rfl) (pe_op op_mod (pv 2) (pe_op op_pow pe_int pe_int)))) pss_nil)
      (pss_cons (ps_set (i := 3) scNum.nd rfl (Or.inl rfl) (pe_op op_mod (pe_op op_add (pe_op op_mul (pe_op op_add (pv 2) (pe_op op_mul pe_int (pv 1))) pe_int) (pe_op op_mul pe_int (pe_callB call_len_seq (by rfl) T.len PySem.boot_len (pa_cons (pv 0) pa_nil)))) pe_int))
      (pss_one (ps_ret (pe_callTy call_int1 (by rfl) T.int boot_int (pa_cons (pe_op op_mod (pe_op op_add (pe_op op_mul (pe_op op_mod (pe_op op_mul (pv 3) pe_int) pe_int) pe_int) (pv 1)) pe_int) pa_nil))))))), ?_⟩
    refine ⟨_, rfl, Nat.zero_le _, fun p hp => ?_⟩
    have s1 : Same H (upd H p (.lst [])) := fun b o e => by rw [upd_ne (ne_of_none e hp)]; exact e
    have hS1 := s1.seq hS
    refine ⟨pdI ns, pdI [], dp_ints hS1, dp_ints (SqL.of upd_same), shaped_ints _, shaped_ints _, _, rfl, ?_⟩
    refine ite2 (fun _ => ?_) (fun e => ?_)
    · refine ⟨_, rfl, _, _, rfl, rfl, .inr (by decide), _, _, rfl, rfl, _, _, rfl, rfl, (by show (0 : Int) < _; decide), .inl ⟨_, rfl, ?_⟩⟩
      exact q _ _ (Int.emod_nonneg _ (by decide)) s1
    · have hn : 0 < ns.length := by
        rw [eqv_ints] at e
        cases ns with
        | nil => exact absurd (decide_eq_true rfl) e
        | cons x r => exact Nat.succ_pos _
      have hlen : ((ns.map V.int).length : Int) = (ns.length : Int) := by rw [List.length_map]
      have hlt : (k % (((ns.map V.int).length : Nat) : Int)).toNat < ns.length := by
        have h1 := Int.emod_nonneg k (b := (((ns.map V.int).length : Nat) : Int)) (by omega)
        have h2 := Int.emod_lt_of_pos k (b := (((ns.map V.int).length : Nat) : Int)) (by omega)
        omega
      refine ⟨_, rfl, _, rfl, _, rfl, a, _, rfl, .inl hS1, _, _, rfl, rfl, (by show (0 : Int) < _; omega), a, _, _, V.int ns[(k % (((ns.map V.int).length : Nat) : Int)).toNat], rfl, rfl, hS1, at_of (j := (k % (((ns.map V.int).length : Nat) : Int)).toNat) (by
        have h1 := Int.emod_nonneg k (b := (((ns.map V.int).length : Nat) : Int)) (by omega)
        omega) (by rw [List.getElem?_map, List.getElem?_eq_getElem hlt]; rfl), ?_⟩
      generalize ns[(k % (((ns.map V.int).length : Nat) : Int)).toNat] = c
      refine ⟨_, rfl, _, rfl, _, _, rfl, rfl, ⟨by decide, by decide, by decide⟩, _, _, rfl, rfl, _, rfl, ?_⟩
      refine ite2 (fun _ => ?_) (fun _ => ?_)
      refine ⟨_, rfl, _, _, rfl, rfl, ⟨by decide, by decide, by decide⟩, _, _, rfl, rfl, (by show (0 : Int) < _; decide), ?_⟩
      all_goals
        refine ⟨_, rfl, _, rfl, _, _, rfl, rfl, .inl ⟨by decide, by decide⟩, _, _, rfl, rfl, _, _, rfl, rfl, .inr (by decide), _, rfl, a, _, rfl, .inl hS1, _, _, rfl, rfl, .inl ⟨by decide, by decide⟩, _, _, rfl, rfl, _, _, rfl, rfl, (by show (0 : Int) < _; decide), ?_⟩
        refine ⟨_, rfl, _, _, rfl, rfl, .inr (by decide), _, _, rfl, rfl, (by show (0 : Int) < _; decide), _, _, rfl, rfl, .inr (by decide), _, rfl, _, _, rfl, rfl, _, _, rfl, rfl, (by show (0 : Int) < _; decide), .inl ⟨_, rfl, ?_⟩⟩
        exact q _ _ (Int.emod_nonneg _ (by decide)) s1
theorem scTake : FnScope ["draw", "many"] ["draw", "many"] (defScope sTake) := ⟨rfl, rfl, rfl, by decide +kernel, rfl, by decide +kernel, by decide +kernel⟩
theorem ok_take {f fN fT : Addr} {fd fdN : FuncData} (F : Fun K "_law_take" "_law_take" sTake f fd) (T : TxD K mg fN fT) (FN : Fun K "_law_number" "_law_number" sNum fN fdN) (bN : Binds K fdN ["script", "index"] []) :
    FnOk P w K mg base CX0 2 f fd ["draw", "many"] (spTake K) := by
  have GN : FnOk P w K mg base CX0 1 fN fdN ["script", "index"] (spNum K) := ok_num FN T
  refine F.ok scTake (fun vs H Q E h => ?_) (fun cdv A outer s H vs Q E hr h => ?_)
  · obtain ⟨M, d, a, m, rfl, _⟩ := h
    rfl
  · obtain ⟨M, d, a, m, rfl, D, hm, q⟩ := h
    obtain ⟨⟨k, hd⟩, hM, ns, hl, hs⟩ := id D
    refine ⟨_, pss_cons (ps_augS (pv 0) pe_int get_list pe_int ip_add set_list)
      (pss_one (ps_ret (pe_op op_mod (pe_callTy call_int1 (by rfl) T.int boot_int (pa_cons (pe_call GN hr rfl T.num FN.kp bN .nil pass0 (pa_cons (pe_ix ix_list (pv 0) pe_int (fun _ _ => rfl)) (pa_cons (pe_callTy call_int1 (by rfl) T.int boot_int (pa_cons (pe_ix ix_list (pv 0) pe_int (fun _ _ => rfl)) pa_nil)) pa_nil))) pa_nil)) (pv 1)))), ?_⟩
    refine ⟨_, rfl, d, _, _, .int k, rfl, rfl, SqL.of hd, rfl, _, _, rfl, rfl, d, _, _, 1, rfl, rfl, hd, rfl, ?_⟩
    have hd1 : (upd H d (HO.lst ([V.ref a, V.int k].set 1 (V.int (k + 1))))) d = some (.lst [.ref a, .int (k + 1)]) := upd_same
    have k1 : Kp [d] H (upd H d (HO.lst ([V.ref a, V.int k].set 1 (V.int (k + 1))))) := Kp.at (List.mem_singleton.mpr rfl)
    have up : ∀ b ∈ [d], b ∈ M := fun b z => by rw [List.mem_singleton.mp z]; exact hM
    refine ⟨_, rfl, d, _, _, .ref a, rfl, rfl, SqL.of hd1, rfl, _, rfl, d, _, _, .int (k + 1), rfl, rfl, SqL.of hd1, rfl, .inl ⟨_, rfl, ?_⟩⟩
    refine ⟨a, ns, k + 1, rfl, hs _ (k1.mono up), hl, fun v H' hv s1 => .inl ⟨_, rfl, ?_⟩⟩
    refine ⟨_, rfl, _, _, rfl, rfl, hm, ?_⟩
    have k2 := k1.trans (Kp.same s1)
    exact q _ H' (Int.emod_nonneg _ (by omega)) (Int.emod_lt_of_pos _ hm) (D.next (k2.mono up) (s1 _ _ hd1)) k2
end
abbrev sPick : Stmt := top 21
def spPick (K : PySem.W.Frag) : Sp := fun vs H Q _ => ∃ (M : List Addr) (d a l : Addr) (xs : List V), vs = [.ref d, .ref l] ∧ Dr K M d a H ∧ 0 < xs.length ∧ (∀ H', Kp [d] H H' → SqL K H' l xs ∨ SqT K H' l xs) ∧
  ∀ (j : Nat) (x : V) (H' : Hp), xs[j]? = some x → Dr K M d a H' → Kp [d] H H' → Q x H'
section
variable {P : Program} {w : World} {K : PySem.W.Frag} {mg : Str → Option Value} {base : Heap}
theorem scPick : FnScope ["draw", "items"] ["draw", "items"] (defScope sPick) := ⟨rfl, rfl, rfl, by decide +kernel, rfl, by decide +kernel, by decide +kernel⟩
theorem ok_pick {f fN fT : Addr} {fd fdN fdT : FuncData} (F : Fun K "_law_pick" "_law_pick" sPick f fd) (T : TxD K mg fN fT) (FN : Fun K "_law_number" "_law_number" sNum fN fdN) (bN : Binds K fdN ["script", "index"] [])
    (FT : Fun K "_law_take" "_law_take" sTake fT fdT) (bT : Binds K fdT ["draw", "many"] []) : FnOk P w K mg base CX0 3 f fd ["draw", "items"] (spPick K) := by
  have GT : FnOk P w K mg base CX0 2 fT fdT ["draw", "many"] (spTake K) := ok_take FT T FN bN
  refine F.ok scPick (fun vs H Q E h => ?_) (fun cdv A outer s H vs Q E hr h => ?_)
  · obtain ⟨M, d, a, l, xs, rfl, _⟩ := h
    rfl
  · obtain ⟨M, d, a, l, xs, rfl, D, hx, hs, q⟩ := h
    refine ⟨_, pss_one (ps_ret (pe_ix ix_seq (pv 1) (pe_call GT hr rfl T.take FT.kp bT .nil pass0 (pa_cons (pv 0) (pa_cons (pe_callB call_len_seq (by rfl) T.len PySem.boot_len (pa_cons (pv 1) pa_nil)) pa_nil))) (fun _ _ => rfl))), ?_⟩
    refine ⟨_, rfl, _, rfl, _, rfl, l, xs, rfl, hs H (Kp.refl _ H), M, d, a, _, rfl, D, (by show (0 : Int) < _; omega), fun v H' h0 h1 D1 k1 => ?_⟩
    have hj : v.toNat < xs.length := by omega
    have e : v = ((v.toNat : Nat) : Int) := by omega
    have hg : xs[v.toNat]? = some xs[v.toNat] := List.getElem?_eq_getElem hj
    have fin := q v.toNat _ H' hg D1 k1
    rcases hs H' k1 with hL | hT
    · exact .inl ⟨l, xs, v, _, rfl, rfl, hL, at_of e hg, fin⟩
    · exact .inr (.inl ⟨l, xs, v, _, rfl, rfl, hT, at_of e hg, fin⟩)
end
abbrev sIsNum : Stmt := top 4
abbrev sIsName : Stmt := top 11
def spIsNum : Sp := fun vs H Q _ => ∃ n lo hi : Int, vs = [.int n, .int lo, .int hi] ∧ Q (.bl (decide (lo ≤ n) && decide (n ≤ hi))) H
/-- names that are well made -/
def letters : PySem.Str := "abcdefghijklmnopqrstuvwxyz"
def figures : PySem.Str := "0123456789"
def okN (x : PySem.Str) : Prop := 1 ≤ x.length ∧ x.length ≤ 8 ∧ (∃ c, x.cps.toList[0]? = some c ∧ c ∈ letters.cps.toList) ∧ ∀ c ∈ x.cps.toList, c ∈ letters.cps.toList ∨ c ∈ figures.cps.toList
instance (x : PySem.Str) : Decidable (okN x) := by
  unfold okN
  have : Decidable (∃ c, x.cps.toList[0]? = some c ∧ c ∈ letters.cps.toList) := match h : x.cps.toList[0]? with
    | none => .isFalse fun ⟨c, e, _⟩ => by cases e
    | some c => if hc : c ∈ letters.cps.toList then .isTrue ⟨c, rfl, hc⟩ else .isFalse fun ⟨c', e, h⟩ => by cases e; exact hc h
  infer_instance
def spIsName : Sp := fun vs H Q _ => ∃ x : PySem.Str, vs = [.str x] ∧ okN x ∧ ∀ H', Same H H' → Q (.bl true) H'
structure TxN (mg : PySem.Str → Option Value) : Prop where
  isi : mg "isinstance" = none
  int : mg "int" = none
  bool : mg "bool" = none
  str : mg "str" = none
  len : mg "len" = none
  all : mg "all" = none
  lets : ∃ t, mg "SMALL_LETTERS" = some (.str letters t)
  figs : ∃ t, mg "FIGURES" = some (.str figures t)
  most : ∃ t, mg "LONGEST_NAME" = some (.int 8 t)
section
variable {P : Program} {w : World} {K : PySem.W.Frag} {mg : PySem.Str → Option Value} {base : Heap}
theorem scIsNum : FnScope ["thing", "low", "high"] ["thing", "low", "high"] (defScope sIsNum) := ⟨rfl, rfl, rfl, by decide +kernel, rfl, by decide +kernel, by decide +kernel⟩
theorem ok_isnum {f : Addr} {fd : FuncData} (F : Fun K "is_number" "is_number" sIsNum f fd) (T : TxN mg) : FnOk P w K mg base CX0 1 f fd ["thing", "low", "high"] spIsNum := by
  refine F.ok scIsNum (fun vs H Q E h => ?_) (fun cdv A outer s H vs Q E hr h => ?_)
  · obtain ⟨n, lo, hi, rfl, _⟩ := h
    rfl
  · obtain ⟨n, lo, hi, rfl, q⟩ := h
    refine ⟨_, (pss_one (ps_ret (pe_and (pe_callB call_isi (by rfl) T.isi boot_isinstance (pa_cons (pv 0) (pa_cons (pe_bltn (v := .ty "int") (by rfl) T.int boot_int rfl) pa_nil))) (pe_and (pe_not (pe_callB call_isi (by rfl) T.isi boot_isinstance (pa_cons (pv 0) (pa_cons (pe_bltn (v := .ty "bool") (by rfl) T.bool (by rfl) rfl) pa_nil)))) (pe_one (pe_chain op_le op_le (pv 1) (pv 0) (pv 2))))))), ?_⟩
    refine ⟨_, rfl, _, _, _, _, _, rfl, .ty "int", .base (.int _), by rfl, true, rfl, _, rfl, _, _, _, _, _, rfl, .ty "bool", .base (.int _), by rfl, false, rfl, true, rfl, ?_⟩
    refine ⟨_, rfl, _, rfl, _, _, rfl, rfl, _, rfl, ?_⟩
    refine ite2 (fun h => ?_) (fun h => ?_)
    · refine ⟨_, rfl, _, _, rfl, rfl, ?_⟩
      rw [decide_eq_true (of_decide_eq_true h)] at q
      exact q
    · rw [Bool.eq_false_iff.mpr h] at q
      exact q
theorem scIsName : FnScope ["thing", "sign"] ["thing"] (defScope sIsName) := ⟨rfl, rfl, rfl, by decide +kernel, rfl, by decide +kernel, by decide +kernel⟩
theorem at0 {α : Type} {xs : List α} {c : α} (h : xs[0]? = some c) : atI xs 0 = some c := by show atI xs ((0 : Nat) : Int) = some c; exact atI_nat h
theorem ok_isname {f : Addr} {fd : FuncData} (F : Fun K "is_name" "is_name" sIsName f fd) (T : TxN mg) : FnOk P w K mg base CX0 1 f fd ["thing"] spIsName := by
  refine F.ok scIsName (fun vs H Q E h => ?_) (fun cdv A outer s H vs Q E hr h => ?_)
  · obtain ⟨x, rfl, _⟩ := h
    rfl
  · obtain ⟨x, rfl, ⟨h1, h8, ⟨c0, hc0, hl0⟩, hall⟩, q⟩ := h
    obtain ⟨tl, gl⟩ := T.lets
    obtain ⟨tf, gf⟩ := T.figs
    obtain ⟨tm, gm⟩ := T.most
    refine ⟨_, (pss_cons (ps_if (PW.pt (pw_or (pt_not (pt_val (pe_callB call_isi (by rfl) T.isi boot_isinstance (pa_cons (pv 0) (pa_cons (pe_bltn (v := .ty "str") (by rfl) T.str boot_str rfl) pa_nil))))) (pw_or1 (pt_not (pt_chain op_le op_le pe_int (pe_callB call_len_str (by rfl) T.len PySem.boot_len (pa_cons (pv 0) pa_nil)) (pe_glob (by rfl) gm rel_int))))))
        (pss_one (ps_ret pe_bl))
        pss_nil)
      (pss_cons (ps_if (pt_cmpR op_notIn_sign (pe_ix ix_str (pv 0) pe_int (fun _ _ => rfl)) (pe_glob (by rfl) gl rel_str) (by rfl))
        (pss_one (ps_ret pe_bl))
        pss_nil)
      (pss_one (ps_ret (pe_callB (cr_all rfl) (by rfl) T.all (by rfl) (pa_cons (pe_lc (own := [("sign", 1)]) (g := gName 1) (tt := tYes) rfl scIsName.nd (pi_str (pv 0)) (blkOk_by (own := [("sign", 1)]) (N := ["thing", "sign"]) (sc := defScope sIsName) (by decide +kernel)) (fun _ _ _ _ _ => pg_name (i := 1) scIsName.nd rfl (Or.inl rfl)) (fun _ _ _ _ _ => pts_nil) (fun _ _ _ _ _ => (pe_or (pe_cmpR op_in_sign (pv 1) (pe_glob (by rfl) gl rel_str) (by rfl)) (pe_one (pe_cmpR op_in_sign (pv 1) (pe_glob (by rfl) gf rel_str) (by rfl)))))) pa_nil)))))), ?_⟩
    have hsz : x.length ≤ sizeLine := Nat.le_trans h8 (by decide)
    refine ⟨_, rfl, _, _, _, _, _, rfl, .ty "str", .base (.str _), by rfl, true, rfl, ?_⟩
    refine ⟨_, rfl, _, rfl, hsz, _, _, rfl, rfl, _, rfl, ?_⟩
    refine ite2 (fun h => ?_) (fun h => absurd (decide_eq_true (by show (1 : Int) ≤ _; omega)) h)
    refine ⟨_, _, rfl, rfl, _, rfl, ?_⟩
    refine ite2 (fun h => absurd h (by rw [decide_eq_true (by show ((x.length : Nat) : Int) ≤ 8; omega)]; decide)) (fun _ => ?_)
    refine ⟨_, rfl, _, _, _, rfl, rfl, hsz, at0 hc0, _, _, rfl, rfl, _, rfl, ?_⟩
    refine ite2 (fun h => absurd h (by rw [decide_eq_true hl0]; decide)) (fun _ => ?_)
    refine ⟨_, rfl, _, rfl, fun D hD => lc_it walk_str (fun i H' => ∃ bs : List Bool, H' = upd H D (.lst (bs.map V.bl)) ∧ bs.length = i ∧ ∀ b ∈ bs, b = true) ⟨[], rfl, rfl, fun b h => (nomatch h)⟩ (fun _ _ _ _ => trivial) ?_ ?_⟩
    · rintro i v H1 H2 hi ⟨bs, rfl, hb, hall'⟩ ⟨rfl, c, hc, rfl⟩
      refine ⟨rfl, _, rfl, _, _, rfl, rfl, _, rfl, ?_⟩
      have hm : c ∈ x.cps.toList := by rw [← Array.getElem?_toList] at hc; exact List.mem_of_getElem? hc
      have fin : ∃ acc, upd H D (.lst (bs.map V.bl)) D = some (.lst acc) ∧ acc.length < sizeLine ∧ ∃ bs' : List Bool, upd (upd H D (.lst (bs.map V.bl))) D (.lst (acc ++ [V.bl true])) = upd H D (.lst (bs'.map V.bl)) ∧ bs'.length = i + 1 ∧ ∀ b ∈ bs', b = true :=
        ⟨_, upd_same, by rw [List.length_map, hb]; exact Nat.lt_of_lt_of_le hi hsz, bs ++ [true], by rw [upd_upd, List.map_append]; rfl, by rw [List.length_append, hb]; rfl, fun b h => by
          rcases List.mem_append.mp h with h | h
          · exact hall' b h
          · simpa using h⟩
      refine ite2 (fun h => fin) (fun h => ?_)
      refine ⟨_, rfl, _, _, rfl, rfl, ?_⟩
      rw [decide_eq_true ((hall c hm).resolve_left fun z => h (decide_eq_true z))]
      exact fin
    · rintro H1 ⟨bs, rfl, hb, hall'⟩
      refine ⟨_, _, rfl, SqL.of upd_same, ?_⟩
      rw [show bs.all id = true from List.all_eq_true.mpr fun b hb => hall' b hb]
      exact q _ fun b o z => by rw [upd_ne (ne_of_none z hD)]; exact z
end
end Mc
namespace Mc
open PySem L2 PySem.Spec PyProof.Rows
abbrev sChkM : Stmt := top 14
abbrev sChkC : Stmt := top 15
abbrev sCInit : Stmt := inClass (top 12) 0
abbrev sSInit : Stmt := inClass (top 13) 0
def kvI (l : List (PySem.Str × Int)) : List (L2.Key × V) := l.map fun x => (Sum.inr x.1, .int x.2)
/-- a call at o: worth and masts -/
structure CallH (K : PySem.W.Frag) (C : Addr) (H : Hp) (o : Addr) (wt : Int) (hs : List PySem.Str) : Prop where
  here : ∃ dx h, H o = some (.ins C dx [("worth", .int wt), ("heard", .ref h)]) ∧ H h = some (.tup (hs.map V.str))
def spChkM : Sp := fun vs H Q _ => ∃ (m : PySem.Str) (n : Int), vs = [.str m, .int n] ∧ okN m ∧ 0 ≤ n ∧ n ≤ 1000 ∧ ∀ H', Same H H' → Q .non H'
def spChkC (K : PySem.W.Frag) (C : Addr) : Sp := fun vs H Q _ => ∃ (c : PySem.Str) (o ch : Addr) (wt : Int) (hs : List PySem.Str) (kvs : List (L2.Key × V)), vs = [.str c, .ref o, .ref ch] ∧ okN c ∧ CallH K C H o wt hs ∧ 0 ≤ wt ∧ wt ≤ 1000 ∧ H ch = some (.dK kvs) ∧
  hs.Nodup ∧ hs.length < 64 ∧ (∀ m ∈ hs, ∃ v, valV kvs (Sum.inr m) = some v) ∧ ∀ H', Same H H' → Q .non H'
structure TxS (K : PySem.W.Frag) (mg : PySem.Str → Option Value) (C : Addr) : Prop where
  cl : Cls K C
  nW : NoAttr K C "worth"
  nH : NoAttr K C "heard"
  lim : ∃ t, mg "LIMIT" = some (.int 1000 t)
  len : mg "len" = none
  set : mg "set" = none
  tuple : mg "tuple" = none
  sorted : mg "sorted" = none
section
variable {P : Program} {w : World} {K : PySem.W.Frag} {mg : PySem.Str → Option Value} {base : Heap}
theorem scChkM : FnScope ["mast", "many"] ["mast", "many"] (defScope sChkM) := ⟨rfl, rfl, rfl, by decide +kernel, rfl, by decide +kernel, by decide +kernel⟩
theorem ok_chkM {f C : Addr} {fd : FuncData} (F : Fun K "check_mast" "check_mast" sChkM f fd) (T : TxS K mg C) (c_is_name : Cal P w K mg base 1 "is_name" ["thing"] spIsName) (c_is_number : Cal P w K mg base 1 "is_number" ["thing", "low", "high"] spIsNum) :
    FnOk P w K mg base CX0 2 f fd ["mast", "many"] spChkM := by
  refine F.ok scChkM (fun vs H Q E h => ?_) (fun cdv A outer s H vs Q E hr h => ?_)
  · obtain ⟨m, n, rfl, _⟩ := h
    rfl
  · obtain ⟨m, n, rfl, hm, h0, h1, q⟩ := h
    obtain ⟨tl, gl⟩ := T.lim
    refine ⟨_, (pss_cons (ps_if (pt_not (pt_val (pe_cal c_is_name (hr.mono (by decide)) rfl (pa_cons (pv 0) pa_nil))))
        (pss_one ps_no)
        pss_nil)
      (pss_one (ps_if (pt_not (pt_val (pe_cal c_is_number (hr.mono (by decide)) rfl (pa_cons (pv 1) (pa_cons pe_int (pa_cons (pe_glob (by rfl) gl rel_int) pa_nil))))))
        (pss_one ps_no)
        pss_nil))), ?_⟩
    refine ⟨_, rfl, _, rfl, hm, fun H1 s1 => ⟨true, rfl, _, rfl, n, 0, 1000, rfl, _, rfl, ?_⟩⟩
    refine ite2 (fun h => absurd h (by rw [decide_eq_true h0, decide_eq_true h1]; decide)) (fun _ => ?_)
    exact q _ s1
abbrev sHasKey : Stmt := top 5
abbrev sChkH : Stmt := top 16
def spHasKey : Sp := fun vs H Q _ => ∃ (d : Addr) (x : PySem.Str) (kvs : List (L2.Key × V)), vs = [.ref d, .str x] ∧ H d = some (.dK kvs) ∧ Q (.bl (valV kvs (Sum.inr x)).isSome) H
def spChkH : Sp := fun vs H Q _ => ∃ (t ch : Addr) (hs : List PySem.Str) (kvs : List (L2.Key × V)), vs = [.ref t, .ref ch] ∧ H t = some (.tup (hs.map V.str)) ∧ H ch = some (.dK kvs) ∧
  hs.Nodup ∧ hs.length < 64 ∧ (∀ m ∈ hs, ∃ v, valV kvs (Sum.inr m) = some v) ∧ ∀ H', Same H H' → Q .non H'
theorem scHasKey : FnScope ["table", "thing"] ["table", "thing"] (defScope sHasKey) := ⟨rfl, rfl, rfl, by decide +kernel, rfl, by decide +kernel, by decide +kernel⟩
theorem ok_haskey {f : Addr} {fd : FuncData} (F : Fun K "has_key" "has_key" sHasKey f fd) (hi : mg "isinstance" = none) (hst : mg "str" = none) : FnOk P w K mg base CX0 1 f fd ["table", "thing"] spHasKey := by
  refine F.ok scHasKey (fun vs H Q E h => ?_) (fun cdv A outer s H vs Q E hr h => ?_)
  · obtain ⟨d, x, kvs, rfl, _⟩ := h
    rfl
  · obtain ⟨d, x, kvs, rfl, hd, q⟩ := h
    have hu := hu_of hr
    refine ⟨_, (pss_one (ps_ret (pe_and (pe_callB call_isi (by rfl) hi boot_isinstance (pa_cons (pv 1) (pa_cons (pe_bltn (v := .ty "str") (by rfl) hst boot_str rfl) pa_nil))) (pe_one (pe_cmp (pc_din hu (pv 1) (pv 0)) rfl))))), ?_⟩
    refine ⟨_, rfl, _, _, _, _, _, rfl, .ty "str", .base (.str _), by rfl, true, rfl, ?_⟩
    refine ite2 (fun _ => ?_) (fun h => absurd rfl h)
    exact ⟨_, rfl, _, rfl, d, _, rfl, DGet.k (k := Sum.inr x) hd, q⟩
theorem scChkH : FnScope ["heard", "channels", "known", "mast"] ["heard", "channels"] (defScope sChkH) := ⟨rfl, rfl, rfl, by decide +kernel, rfl, by decide +kernel, by decide +kernel⟩
theorem ok_chkH {f C : Addr} {fd : FuncData} (F : Fun K "check_heard" "check_heard" sChkH f fd) (T : TxS K mg C) (c_has_key : Cal P w K mg base 1 "has_key" ["table", "thing"] spHasKey) :
    FnOk P w K mg base CX0 2 f fd ["heard", "channels"] spChkH := by
  refine F.ok scChkH (fun vs H Q E h => ?_) (fun cdv A outer s H vs Q E hr h => ?_)
  · obtain ⟨t, ch, hs, kvs, rfl, _⟩ := h
    rfl
  · obtain ⟨hh, ch, hs, kvs, rfl, hq1, hch1, nd, h64, hin, q⟩ := h
    have hu := hu_of hr
    refine ⟨_, (pss_cons (ps_setLc (i := 2) (own := [("mast", 3)]) (g := gName 3) rfl scChkH.nd rfl rfl (sw_true rfl rfl rfl (by decide +kernel)) (pi_tup (pv 0)) (blkOk_by (own := [("mast", 3)]) (N := ["heard", "channels", "known", "mast"]) (sc := defScope sChkH) (by decide +kernel)) (fun _ _ _ _ _ => pg_name (i := 3) scChkH.nd rfl (Or.inl rfl)) (fun _ _ _ _ _ => pts_one (pt_val (pe_cal c_has_key (hr.mono (by decide)) rfl (pa_cons (pv 1) (pa_cons (pv 3) pa_nil))))) (fun _ _ _ _ _ => (pv 3)))
      (pss_one (ps_if (PW.pt (pw_or (pt_cmpR op_lt (pe_callB call_len_seq (by rfl) T.len PySem.boot_len (pa_cons (pv 2) pa_nil)) (pe_callB call_len_seq (by rfl) T.len PySem.boot_len (pa_cons (pv 0) pa_nil)) (nomark _)) (pw_or1 (pt_cmpR op_lt (pe_callB call_lenK (by rfl) T.len PySem.boot_len (pa_cons (pe_callTy (cr_setS rfl) (by rfl) T.set boot_set (pa_cons (pv 2) pa_nil)) pa_nil)) (pe_callB call_len_seq (by rfl) T.len PySem.boot_len (pa_cons (pv 2) pa_nil)) (nomark _)))))
        (pss_one ps_no)
        pss_nil))), ?_⟩
    refine ⟨_, rfl, hh, rfl, ⟨_, SqT.of hq1⟩, fun D hD => lc_tup (K := K) (xs := hs.map V.str) (fun i H' => H' = upd H D (.lst ((hs.take i).map V.str))) (by simp) (fun i H' _ e => by subst e; exact SqT.of (by rw [upd_ne (ne_of_none hq1 hD)]; exact hq1)) ?_ ?_⟩
    · rintro i x H' hx rfl
      rw [List.getElem?_map] at hx
      cases hi : hs[i]? with
      | none => rw [hi] at hx; cases hx
      | some m =>
        rw [hi] at hx
        cases Option.some.inj hx
        have hm : m ∈ hs := List.mem_of_getElem? hi
        obtain ⟨v, hv⟩ := hin m hm
        refine ⟨rfl, _, rfl, _, rfl, ch, m, kvs, rfl, by rw [upd_ne (ne_of_none hch1 hD)]; exact hch1, ?_⟩
        rw [hv]
        refine ⟨true, rfl, ?_⟩
        refine ite2 (fun _ => ?_) (fun h => absurd rfl h)
        refine ⟨_, rfl, _, upd_same, ?_, ?_⟩
        · rw [List.length_map, List.length_take]
          exact Nat.lt_of_le_of_lt (Nat.min_le_right _ _) (Nat.lt_of_lt_of_le h64 (by decide))
        · rw [upd_upd, List.take_add_one, hi, List.map_append]
          rfl
    · rintro H' rfl
      rw [List.length_map, List.take_length]
      have s2 : Same H (upd H D (.lst (hs.map V.str))) := fun b o z => by rw [upd_ne (ne_of_none z hD)]; exact z
      have hD2 : (upd H D (.lst (hs.map V.str))) D = some (.lst (hs.map V.str)) := upd_same
      have hq2 := s2 _ _ hq1
      generalize upd H D (.lst (hs.map V.str)) = H2 at s2 hD2 hq2 ⊢
      refine ⟨_, rfl, D, hs.map V.str, rfl, .inl (SqL.of hD2), _, rfl, hh, hs.map V.str, rfl, .inr (SqT.of hq2), _, _, rfl, rfl, _, rfl, ?_⟩
      refine ite2 (fun h => absurd (of_decide_eq_true h) (Int.lt_irrefl _)) (fun _ => ?_)
      refine ⟨_, rfl, D, hs, rfl, SqL.of hD2, h64, fun p n hp hle hn => ?_⟩
      have hpD : D ≠ p := ne_of_none hD2 hp
      refine ⟨p, _, n, rfl, upd_same, by omega, _, rfl, D, hs.map V.str, rfl, .inl (SqL.of (by rw [upd_ne hpD]; exact hD2)), _, _, rfl, rfl, _, rfl, ?_⟩
      refine ite2 (fun h => absurd (of_decide_eq_true h) (by rw [hn nd, List.length_map]; exact Int.lt_irrefl _)) (fun _ => ?_)
      exact q _ fun b o z => by
        have z2 := s2 _ _ z
        rw [upd_ne (ne_of_none z2 hp)]; exact z2
theorem scChkC : FnScope ["name", "call", "channels"] ["name", "call", "channels"] (defScope sChkC) := ⟨rfl, rfl, rfl, by decide +kernel, rfl, by decide +kernel, by decide +kernel⟩
theorem ok_chkC {f C : Addr} {fd : FuncData} (F : Fun K "check_call" "check_call" sChkC f fd) (T : TxS K mg C) (c_is_name : Cal P w K mg base 1 "is_name" ["thing"] spIsName) (c_is_number : Cal P w K mg base 1 "is_number" ["thing", "low", "high"] spIsNum) (c_chkH : Cal P w K mg base 2 "check_heard" ["heard", "channels"] spChkH) :
    FnOk P w K mg base CX0 3 f fd ["name", "call", "channels"] (spChkC K C) := by
  refine F.ok scChkC (fun vs H Q E h => ?_) (fun cdv A outer s H vs Q E hr h => ?_)
  · obtain ⟨c, o, ch, wt, hs, kvs, rfl, _⟩ := h
    rfl
  · obtain ⟨c, o, ch, wt, hs, kvs, rfl, hc, ⟨⟨dx, hh, ho, hq⟩⟩, h0, h1, hch, nd, h64, hin, q⟩ := h
    obtain ⟨tl, gl⟩ := T.lim
    have hu := hu_of hr
    refine ⟨_, (pss_cons (ps_if (pt_not (pt_val (pe_cal c_is_name (hr.mono (by decide)) rfl (pa_cons (pv 0) pa_nil))))
        (pss_one ps_no)
        pss_nil)
      (pss_cons (ps_if (pt_not (pt_val (pe_cal c_is_number (hr.mono (by decide)) rfl (pa_cons (pe_fld (pv 1) rfl) (pa_cons pe_int (pa_cons (pe_glob (by rfl) gl rel_int) pa_nil))))))
        (pss_one ps_no)
        pss_nil)
      (pss_one (ps_expr (pe_cal c_chkH (hr.mono (by decide)) rfl (pa_cons (pe_fld (pv 1) rfl) (pa_cons (pv 2) pa_nil))))))), ?_⟩
    refine ⟨_, rfl, _, rfl, hc, fun H1 s1 => ⟨true, rfl, _, rfl, _, _, _, _, _, rfl, s1 _ _ ho, T.cl, T.nW, rfl, wt, 0, 1000, rfl, _, rfl, ?_⟩⟩
    refine ite2 (fun h => absurd h (by rw [decide_eq_true h0, decide_eq_true h1]; decide)) (fun _ => ?_)
    have hq1 := s1 _ _ hq
    have hch1 := s1 _ _ hch
    have ho1 := s1 _ _ ho
    exact ⟨_, rfl, _, _, _, _, _, rfl, ho1, T.cl, T.nH, rfl, _, rfl, hh, ch, hs, kvs, rfl, hq1, hch1, nd, h64, hin, fun H2 s2 => q H2 (s1.trans s2)⟩
def spCInit (K : PySem.W.Frag) (C : Addr) : Sp := fun vs H Q _ => ∃ (p dx l : Addr) (wt : Int) (hs : List PySem.Str), vs = [.ref p, .int wt, .ref l] ∧ H p = some (.ins C dx []) ∧ H l = some (.lst (hs.map V.str)) ∧ hs.length < 64 ∧
  ∀ (ys : List PySem.Str) (H' : Hp), ys.Perm hs → sortedS ys = true → CallH K C H' p wt ys → Kp [p] H H' → Q .non H'
theorem scCI : FnScope ["self", "worth", "heard"] ["self", "worth", "heard"] (defScope sCInit) := ⟨rfl, rfl, rfl, by decide +kernel, rfl, by decide +kernel, by decide +kernel⟩
theorem ok_cinit {f C : Addr} {fd : FuncData} (F : Fun K "__init__" "Call.__init__" sCInit f fd) (T : TxS K mg C) : FnOk P w K mg base CX0 1 f fd ["self", "worth", "heard"] (spCInit K C) := by
  refine F.ok scCI (fun vs H Q E h => ?_) (fun cdv A outer s H vs Q E hr h => ?_)
  · obtain ⟨p, dx, l, wt, hs, rfl, _⟩ := h
    rfl
  · obtain ⟨p, dx, l, wt, hs, rfl, hp, hl, h64, k⟩ := h
    refine ⟨_, (pss_cons (ps_fld (pv 0) (pv 1) rfl)
      (pss_one (ps_fld (pv 0) (pe_tupleOf (by rfl) T.tuple (pe_callB cr_sortedS (by rfl) T.sorted boot_sorted (pa_cons (pv 2) pa_nil))) rfl))), ?_⟩
    refine ⟨_, rfl, _, rfl, p, C, dx, [], rfl, hp, T.cl, T.nW, (by show 0 < 1000; decide), ?_⟩
    have lp : l ≠ p := fun e => by rw [e, hp] at hl; cases hl
    have hl1 : (upd H p (.ins C dx [("worth", .int wt)])) l = some (.lst (hs.map V.str)) := by rw [upd_ne lp]; exact hl
    refine ⟨_, rfl, l, hs, rfl, SqL.of hl1, h64, fun ys q hy hs' hq => ?_⟩
    have hqp : q ≠ p := fun e => by rw [e, upd_same] at hq; cases hq
    refine .inl ⟨q, ys.map V.str, rfl, SqL.of upd_same, fun t ht => ?_⟩
    have htq : q ≠ t := ne_of_none upd_same ht
    have htp : p ≠ t := ne_of_none (show (upd (upd H p (.ins C dx [("worth", .int wt)])) q (.lst (ys.map V.str))) p = some _ by rw [upd_ne hqp.symm]; exact upd_same) ht
    refine ⟨_, rfl, p, C, dx, [("worth", .int wt)], rfl, by rw [upd_ne htp, upd_ne hqp.symm]; exact upd_same, T.cl, T.nH, (by show 1 < 1000; decide), ?_⟩
    refine k ys _ hy hs' ⟨⟨dx, t, upd_same, by rw [upd_ne htp.symm]; exact upd_same⟩⟩ fun b o e n => ?_
    have nb : b ≠ p := fun z => n (List.mem_singleton.mpr z)
    have q0 : H q = none := by rw [upd_ne hqp] at hq; exact hq
    have t0 : H t = none := by rw [upd_ne htq.symm, upd_ne htp.symm] at ht; exact ht
    rw [upd_ne nb, upd_ne (ne_of_none e t0), upd_ne (ne_of_none e q0), upd_ne nb]
    exact e
end
abbrev CD := Addr × Int × List PySem.Str
abbrev Chs := List (PySem.Str × Int)
abbrev Cls' := List (PySem.Str × CD)
abbrev vI : Int → V := V.int
abbrev vO : CD → V := fun x => V.ref x.1
/-- what may stand in a scene -/
structure OkC (chs : Chs) (cls : Cls') : Prop where
  nd : (keysT chs).Nodup
  ndc : (keysT cls).Nodup
  len : chs.length < 64
  lenc : cls.length < 64
  ch : ∀ x ∈ chs, okN x.1 ∧ 0 ≤ x.2 ∧ x.2 ≤ 1000
  cl : ∀ x ∈ cls, okN x.1 ∧ 0 ≤ x.2.2.1 ∧ x.2.2.1 ≤ 1000 ∧ x.2.2.2.Nodup ∧ x.2.2.2.length < 64 ∧ ∀ m ∈ x.2.2.2, m ∈ keysT chs
def CallsH (K : PySem.W.Frag) (CC : Addr) (H : Hp) (cls : Cls') : Prop := ∀ x ∈ cls, CallH K CC H x.2.1 x.2.2.1 x.2.2.2
theorem rd_same {H H' : Hp} {a : Addr} {u : HO} (h : Rd H a u) (s : Same H H') : Rd H' a u := h.elim (fun z => .inl (s _ _ z)) fun ⟨o, z⟩ => .inr ⟨o, s _ _ z⟩
theorem rd_kp {F : List Addr} {H H' : Hp} {a : Addr} {u : HO} (h : Rd H a u) (k : Kp F H H') (n : a ∉ F) : Rd H' a u := h.elim (fun z => .inl (k _ _ z n)) fun ⟨o, z⟩ => .inr ⟨o, k _ _ z n⟩
theorem rd_is {H : Hp} {a : Addr} {u : HO} (h : Rd H a u) : ∃ o, H a = some o := h.elim (fun z => ⟨_, z⟩) fun ⟨o, z⟩ => ⟨_, z⟩
structure SceneH (K : PySem.W.Frag) (CS CC : Addr) (H : Hp) (p : Addr) (chs : Chs) (cls : Cls') : Prop where
  here : ∃ dx a b, H p = some (.ins CS dx [("channels", .ref a), ("calls", .ref b)]) ∧ Rd H a (.dK (kvT vI chs)) ∧ Rd H b (.dK (kvT vO cls))
  calls : CallsH K CC H cls
theorem CallH.same {K : PySem.W.Frag} {C : Addr} {H H' : Hp} {o : Addr} {wt : Int} {hs : List PySem.Str} (h : CallH K C H o wt hs) (s : Same H H') : CallH K C H' o wt hs := by
  obtain ⟨dx, q, a, b⟩ := h.here
  exact ⟨dx, q, s _ _ a, s _ _ b⟩
theorem CallsH.same {K : PySem.W.Frag} {C : Addr} {H H' : Hp} {cls : Cls'} (h : CallsH K C H cls) (s : Same H H') : CallsH K C H' cls := fun x hx => (h x hx).same s
theorem SceneH.same {K : PySem.W.Frag} {CS CC : Addr} {H H' : Hp} {p : Addr} {chs : Chs} {cls : Cls'} (h : SceneH K CS CC H p chs cls) (s : Same H H') : SceneH K CS CC H' p chs cls := by
  obtain ⟨dx, a, b, h1, h2, h3⟩ := h.here
  exact ⟨⟨dx, a, b, s _ _ h1, rd_same h2 s, rd_same h3 s⟩, h.calls.same s⟩
/-- its dicts lie open, their keys ascend -/
structure ScnX (CS : Addr) (H : Hp) (p : Addr) (chs : Chs) (cls : Cls') : Prop where
  here : ∃ dx a b, H p = some (.ins CS dx [("channels", .ref a), ("calls", .ref b)]) ∧ H a = some (.dK (kvT vI chs)) ∧ H b = some (.dK (kvT vO cls))
  sch : sortedS (keysT chs) = true
  scl : sortedS (keysT cls) = true
theorem ScnX.same {CS : Addr} {H H' : Hp} {p : Addr} {chs : Chs} {cls : Cls'} (h : ScnX CS H p chs cls) (s : Same H H') : ScnX CS H' p chs cls := by
  obtain ⟨dx, a, b, h1, h2, h3⟩ := h.here
  exact ⟨⟨dx, a, b, s _ _ h1, s _ _ h2, s _ _ h3⟩, h.sch, h.scl⟩
def spSInit (K : PySem.W.Frag) (CS CC : Addr) : Sp := fun vs H Q _ => ∃ (p dx ch cl : Addr) (chs : Chs) (cls : Cls'), vs = [.ref p, .ref ch, .ref cl] ∧ ch ≠ cl ∧ H p = some (.ins CS dx []) ∧ H ch = some (.dK (kvT vI chs)) ∧ H cl = some (.dK (kvT vO cls)) ∧ OkC chs cls ∧ CallsH K CC H cls ∧
  ∀ (chs' : Chs) (cls' : Cls') (H' : Hp), chs'.Perm chs → cls'.Perm cls → SceneH K CS CC H' p chs' cls' → ScnX CS H' p chs' cls' → Kp [p] H H' → Q .non H'
structure TxC (K : PySem.W.Frag) (mg : PySem.Str → Option Value) (C : Addr) : Prop where
  cl : Cls K C
  nCh : NoAttr K C "channels"
  nCa : NoAttr K C "calls"
  sorted : mg "sorted" = none
section
variable {P : Program} {w : World} {K : PySem.W.Frag} {mg : PySem.Str → Option Value} {base : Heap}
theorem scSI : FnScope ["self", "channels", "calls", "mast", "name"] ["self", "channels", "calls"] (defScope sSInit) := ⟨rfl, rfl, rfl, by decide +kernel, rfl, by decide +kernel, by decide +kernel⟩
theorem ok_sinit {f CS CC : Addr} {fd : FuncData} (F : Fun K "__init__" "Scene.__init__" sSInit f fd) (T : TxC K mg CS) (c_check_mast : Cal P w K mg base 2 "check_mast" ["mast", "many"] spChkM) (c_check_call : Cal P w K mg base 3 "check_call" ["name", "call", "channels"] (spChkC K CC)) :
    FnOk P w K mg base CX0 4 f fd ["self", "channels", "calls"] (spSInit K CS CC) := by
  refine F.ok scSI (fun vs H Q E h => ?_) (fun cdv A outer s H vs Q E hr h => ?_)
  · obtain ⟨p, dx, ch, cl, chs, cls, rfl, _⟩ := h
    rfl
  · obtain ⟨p, dx, ch, cl, chs, cls, rfl, hne, hp, hch, hcl, ok, hC, k⟩ := h
    have hu := hu_of hr
    refine ⟨_, (pss_cons (ps_lock (ps_for PassesOwn.never rfl (pi_keys (pv 1)) (pg_name (i := 3) scSI.nd rfl (Or.inl rfl))
        (pss_one (ps_expr (pe_cal c_check_mast (hr.mono (by decide)) rfl (pa_cons (pv 3) (pa_cons (pe_dget hu (pv 1) (pv 3) (fun _ _ => rfl)) pa_nil)))))))
      (pss_cons (ps_lock (ps_for PassesOwn.never rfl (pi_keys (pv 2)) (pg_name (i := 4) scSI.nd rfl (Or.inl rfl))
        (pss_one (ps_expr (pe_cal c_check_call (hr.mono (by decide)) rfl (pa_cons (pv 4) (pa_cons (pe_dget hu (pv 2) (pv 4) (fun _ _ => rfl)) (pa_cons (pv 1) pa_nil))))))))
      (pss_cons (ps_fld (pv 0) (pe_dc (own := [("mast", 3)]) (g := gName 3) (tt := tYes) rfl scSI.nd (pi_list (pe_callB (call_sortedD rfl) (by rfl) T.sorted boot_sorted (pa_cons (pv 1) pa_nil))) (blkOk_by (own := [("mast", 3)]) (N := ["self", "channels", "calls", "mast", "name"]) (sc := defScope sSInit) (by decide +kernel)) (fun _ _ _ _ _ => pg_name (i := 3) scSI.nd rfl (Or.inl rfl)) (fun _ _ _ _ _ => pts_nil) (fun _ _ _ _ _ => (pv 3)) (fun _ _ _ _ _ => (pe_dget hu (pv 1) (pv 3) (fun _ _ => rfl)))) rfl)
      (pss_one (ps_fld (pv 0) (pe_dc (own := [("name", 4)]) (g := gName 4) (tt := tYes) rfl scSI.nd (pi_list (pe_callB (call_sortedD rfl) (by rfl) T.sorted boot_sorted (pa_cons (pv 2) pa_nil))) (blkOk_by (own := [("name", 4)]) (N := ["self", "channels", "calls", "mast", "name"]) (sc := defScope sSInit) (by decide +kernel)) (fun _ _ _ _ _ => pg_name (i := 4) scSI.nd rfl (Or.inl rfl)) (fun _ _ _ _ _ => pts_nil) (fun _ _ _ _ _ => (pv 4)) (fun _ _ _ _ _ => (pe_dget hu (pv 2) (pv 4) (fun _ _ => rfl)))) rfl))))), ?_⟩
    have kvg : ∀ {kvs : List (L2.Key × V)}, kvs = kvs := rfl
    -- the masts
    refine ⟨ch, _, hch, trivial, fun od => ⟨_, rfl, ch, od, rfl, .inl ⟨_, upd_same, for_it walk_keys (fun _ σ H' => (∃ v3 v4, σ = [some (.ref p), some (.ref ch), some (.ref cl), v3, v4]) ∧ Same (upd H ch (.frz od (.dK (kvT vI chs)))) H') ⟨⟨_, _, rfl⟩, Same.refl _⟩ (fun i σ H' _ pv => pv.2 _ _ upd_same) ?_ ?_⟩⟩⟩
    · rintro i x σ _ H1 hi ⟨⟨v3, v4, rfl⟩, s1⟩ ⟨rfl, kk, v, hk, rfl⟩
      obtain ⟨y, hy, rfl, rfl⟩ := kvT_get hk
      have hm : y ∈ chs := List.mem_of_getElem? hy
      obtain ⟨o1, o2, o3⟩ := ok.ch y hm
      refine ⟨_, rfl, _, rfl, _, rfl, ch, _, rfl, dgetT (.inr ⟨od, s1 _ _ upd_same⟩) (getT_mem ok.nd hm), y.1, y.2, rfl, o1, o2, o3, fun H2 s2 => ⟨⟨_, _, rfl⟩, s1.trans s2⟩⟩
    · rintro σ H1 ⟨⟨v3, v4, rfl⟩, s1⟩
      refine ⟨s1 _ _ upd_same, ?_⟩
      have s2 := un_same s1 hch
      generalize upd H1 ch (.dK (kvT vI chs)) = H2 at s2
      have hch2 := s2 _ _ hch
      have hcl2 := s2 _ _ hcl
      have hC2 := hC.same s2
      clear s1
      -- the calls
      refine ⟨cl, _, hcl2, trivial, fun od => ⟨_, rfl, cl, od, rfl, .inl ⟨_, upd_same, for_it walk_keys (fun _ σ H' => (∃ v3 v4, σ = [some (.ref p), some (.ref ch), some (.ref cl), v3, v4]) ∧ Same (upd H2 cl (.frz od (.dK (kvT vO cls)))) H') ⟨⟨_, _, rfl⟩, Same.refl _⟩ (fun i σ H' _ pv => pv.2 _ _ upd_same) ?_ ?_⟩⟩⟩
      · rintro i x σ _ H1 hi ⟨⟨v3, v4, rfl⟩, s1⟩ ⟨rfl, kk, v, hk, rfl⟩
        obtain ⟨y, hy, rfl, rfl⟩ := kvT_get hk
        have hm : y ∈ cls := List.mem_of_getElem? hy
        obtain ⟨o1, o2, o3, o4, o5, o6⟩ := ok.cl y hm
        have s3 : ∀ b, b ≠ cl → ∀ o, H2 b = some o → H1 b = some o := fun b n o z => s1 _ _ (by rw [upd_ne n]; exact z)
        obtain ⟨dx', h', c1, c2⟩ := (hC2 y hm).here
        have n1 : y.2.1 ≠ cl := fun e => by rw [e, hcl2] at c1; cases c1
        have n2 : h' ≠ cl := fun e => by rw [e, hcl2] at c2; cases c2
        refine ⟨_, rfl, _, rfl, _, rfl, cl, _, rfl, dgetT (.inr ⟨od, s1 _ _ upd_same⟩) (getT_mem ok.ndc hm), _, rfl, y.1, y.2.1, ch, y.2.2.1, y.2.2.2, kvT vI chs, rfl, o1, ⟨dx', h', s3 _ n1 _ c1, s3 _ n2 _ c2⟩, o2, o3, s3 _ hne _ hch2, o4, o5, fun m hm => ?_, fun H2 s2 => ⟨⟨_, _, rfl⟩, s1.trans s2⟩⟩
        obtain ⟨n, hn⟩ := getT_key (o6 m hm)
        exact ⟨V.int n, by rw [val_T, hn]; rfl⟩
      · rintro σ H1 ⟨⟨v3, v4, rfl⟩, s1⟩
        refine ⟨s1 _ _ upd_same, ?_⟩
        have s3 := s2.trans (un_same s1 hcl2)
        generalize upd H1 cl (.dK (kvT vO cls)) = H3 at s3
        clear s1 s2 hch2 hcl2 hC2
        have hp3 := s3 _ _ hp
        have hch3 := s3 _ _ hch
        have hcl3 := s3 _ _ hcl
        refine ⟨_, rfl, ch, kvT vI chs, keysT chs, rfl, .inl hch3, keysT_kv chs, by unfold keysT; rw [List.length_map]; exact ok.len, fun ys q hy hys hq => ?_⟩
        have ndy : ys.Nodup := (hy.nodup_iff).mpr ok.nd
        have leny : ys.length = chs.length := by rw [hy.length_eq]; unfold keysT; rw [List.length_map]
        have s4 : Same H3 (upd H3 q (.lst (ys.map V.str))) := fun b o z => by rw [upd_ne (ne_of_none z hq)]; exact z
        have hq4 : (upd H3 q (.lst (ys.map V.str))) q = some (.lst (ys.map V.str)) := upd_same
        generalize upd H3 q (.lst (ys.map V.str)) = H4 at s4 hq4 ⊢
        refine ⟨q, rfl, ⟨_, SqL.of hq4⟩, fun D hD => dc_list (K := K) (xs := ys.map V.str) (fun i H' => H' = upd H4 D (.dK (kvT vI ((ys.take i).map fun y => (y, (getT chs y).getD default))))) rfl (fun i H' _ e => by subst e; exact SqL.of (by rw [upd_ne (ne_of_none hq4 hD)]; exact hq4)) ?_ ?_⟩
        · rintro i x H' hx rfl
          rw [List.getElem?_map] at hx
          cases hi : ys[i]? with
          | none => rw [hi] at hx; cases hx
          | some m =>
            rw [hi] at hx
            cases Option.some.inj hx
            obtain ⟨v, hv⟩ := getT_key (hy.mem_iff.mp (List.mem_of_getElem? hi))
            refine ⟨rfl, _, rfl, _, rfl, _, rfl, ch, _, rfl, dgetT (.inl (by rw [upd_ne (ne_of_none (s4 _ _ hch3) hD)]; exact s4 _ _ hch3)) hv, _, Sum.inr m, rfl, upd_same, ?_, ?_⟩
            · exact len_mk (by rw [leny]; exact ok.len)
            · rw [upd_upd]
              have e : vI v = vI ((getT chs m).getD default) := by rw [hv]; rfl
              rw [e, put_mk ndy hi]
        · rintro H' rfl
          rw [List.length_map, List.take_length]
          have pm := perm_T ok.nd hy
          have kz1 : keysT (ys.map fun y => (y, (getT chs y).getD default)) = ys := by unfold keysT; rw [List.map_map]; exact List.map_id _
          generalize (ys.map fun y => (y, (getT chs y).getD default)) = chs' at pm kz1 ⊢
          have s5 : Same H3 (upd H4 D (.dK (kvT vI chs'))) := fun b o z => by rw [upd_ne (ne_of_none (s4 _ _ z) hD)]; exact s4 _ _ z
          have hD5 : (upd H4 D (.dK (kvT vI chs'))) D = some (.dK (kvT vI chs')) := upd_same
          generalize upd H4 D (.dK (kvT vI chs')) = H5 at s5 hD5
          have hp5 := s5 _ _ hp3
          refine ⟨_, rfl, p, CS, dx, [], rfl, hp5, T.cl, T.nCh, (by show 0 < 1000; decide), ?_⟩
          rw [show putF "channels" (V.ref D) [] = ([("channels", V.ref D)] : List (PySem.Str × V)) from rfl]
          have far : ∀ b, b ≠ p → ∀ o, H b = some o → (upd H5 p (.ins CS dx [("channels", V.ref D)])) b = some o := fun b n o z => by rw [upd_ne n]; exact s5 _ _ (s3 _ _ z)
          have hDp : D ≠ p := fun e => by rw [e, hp5] at hD5; cases hD5
          have hD6 : (upd H5 p (.ins CS dx [("channels", V.ref D)])) D = some (.dK (kvT vI chs')) := by rw [upd_ne hDp]; exact hD5
          have hp6 : (upd H5 p (.ins CS dx [("channels", V.ref D)])) p = some (.ins CS dx [("channels", V.ref D)]) := upd_same
          generalize upd H5 p (.ins CS dx [("channels", V.ref D)]) = H6 at far hD6 hp6
          clear s5 hD5 hp5 s4 hq4 hD hq hch3 hp3
          have hcp : cl ≠ p := fun e => by rw [e, hp] at hcl; cases hcl
          have hcl6 := far _ hcp _ hcl
          refine ⟨_, rfl, cl, kvT vO cls, keysT cls, rfl, .inl hcl6, keysT_kv cls, by unfold keysT; rw [List.length_map]; exact ok.lenc, fun zs q2 hz hzs hq2 => ?_⟩
          have ndz : zs.Nodup := (hz.nodup_iff).mpr ok.ndc
          have lenz : zs.length = cls.length := by rw [hz.length_eq]; unfold keysT; rw [List.length_map]
          have s7 : Same H6 (upd H6 q2 (.lst (zs.map V.str))) := fun b o z => by rw [upd_ne (ne_of_none z hq2)]; exact z
          have hq7 : (upd H6 q2 (.lst (zs.map V.str))) q2 = some (.lst (zs.map V.str)) := upd_same
          generalize upd H6 q2 (.lst (zs.map V.str)) = H7 at s7 hq7 ⊢
          refine ⟨q2, rfl, ⟨_, SqL.of hq7⟩, fun E2 hE => dc_list (K := K) (xs := zs.map V.str) (fun i H' => H' = upd H7 E2 (.dK (kvT vO ((zs.take i).map fun y => (y, (getT cls y).getD default))))) rfl (fun i H' _ e => by subst e; exact SqL.of (by rw [upd_ne (ne_of_none hq7 hE)]; exact hq7)) ?_ ?_⟩
          · rintro i x H' hx rfl
            rw [List.getElem?_map] at hx
            cases hi : zs[i]? with
            | none => rw [hi] at hx; cases hx
            | some m =>
              rw [hi] at hx
              cases Option.some.inj hx
              obtain ⟨v, hv⟩ := getT_key (hz.mem_iff.mp (List.mem_of_getElem? hi))
              refine ⟨rfl, _, rfl, _, rfl, _, rfl, cl, _, rfl, dgetT (.inl (by rw [upd_ne (ne_of_none (s7 _ _ hcl6) hE)]; exact s7 _ _ hcl6)) hv, _, Sum.inr m, rfl, upd_same, ?_, ?_⟩
              · exact len_mk (by rw [lenz]; exact ok.lenc)
              · rw [upd_upd]
                have e : vO v = vO ((getT cls m).getD default) := by rw [hv]; rfl
                rw [e, put_mk ndz hi]
          · rintro H' rfl
            rw [List.length_map, List.take_length]
            have pm2 := perm_T ok.ndc hz
            have kz2 : keysT (zs.map fun y => (y, (getT cls y).getD default)) = zs := by unfold keysT; rw [List.map_map]; exact List.map_id _
            generalize (zs.map fun y => (y, (getT cls y).getD default)) = cls' at pm2 kz2 ⊢
            have s8 : Same H6 (upd H7 E2 (.dK (kvT vO cls'))) := fun b o z => by rw [upd_ne (ne_of_none (s7 _ _ z) hE)]; exact s7 _ _ z
            have hE8 : (upd H7 E2 (.dK (kvT vO cls'))) E2 = some (.dK (kvT vO cls')) := upd_same
            generalize upd H7 E2 (.dK (kvT vO cls')) = H8 at s8 hE8
            refine ⟨_, rfl, p, CS, dx, _, rfl, s8 _ _ hp6, T.cl, T.nCa, (by show 1 < 1000; decide), ?_⟩
            rw [show putF "calls" (V.ref E2) [("channels", V.ref D)] = ([("channels", V.ref D), ("calls", V.ref E2)] : List (PySem.Str × V)) from rfl]
            have hEp : E2 ≠ p := fun e => by rw [e, s8 _ _ hp6] at hE8; cases hE8
            refine k chs' cls' _ pm pm2 ⟨⟨dx, D, E2, upd_same, .inl (by rw [upd_ne hDp]; exact s8 _ _ hD6), .inl (by rw [upd_ne hEp]; exact hE8)⟩, fun x hx => ?_⟩ ⟨⟨dx, D, E2, upd_same, by rw [upd_ne hDp]; exact s8 _ _ hD6, by rw [upd_ne hEp]; exact hE8⟩, by rw [kz1]; exact hys, by rw [kz2]; exact hzs⟩ fun b o z n => by
              have nb : b ≠ p := fun z => n (List.mem_singleton.mpr z)
              rw [upd_ne nb]; exact s8 _ _ (far b nb o z)
            obtain ⟨dx', h', c1, c2⟩ := (hC x (pm2.mem_iff.mp hx)).here
            have n1 : x.2.1 ≠ p := fun e => by rw [e, hp] at c1; cases c1
            have n2 : h' ≠ p := fun e => by rw [e, hp] at c2; cases c2
            exact ⟨dx', h', by rw [upd_ne n1]; exact s8 _ _ (far _ n1 _ c1), by rw [upd_ne n2]; exact s8 _ _ (far _ n2 _ c2)⟩
end
end Mc
namespace Mc
open PySem L2 PySem.Spec PyProof.Rows
/-! ### own classes of error over Exception, with an __init__ that stores its arguments -/
def exT : List Value := [.type "Exception", .type "BaseException", .type "object"]
structure OexB (K : PySem.W.Frag) (C : Addr) : Prop where
  ini : PySem.W.excInitIn K C exT "Exception.__new__" = true
  ovr : PySem.W.excOver K C exT = true
  hd : PySem.W.hasDictIn K C = true
  sa : PySem.W.findIn K (.ref C) "__setattr__" = some (some (.builtin "object.__setattr__"))
  exC : PySem.W.subIn K (.ref C) (.type "BaseException") = some true
  tyC : PySem.W.typeIn K (.ref C) = some (.type "type")
  kC : PySem.W.keepIn K (.ref C) = true
theorem OexB.cd {K : PySem.W.Frag} {C : Addr} (T : OexB K C) : ∃ c, PySem.W.clsIn K C = some c ∧ c.hasDict = true := by
  have h := T.hd
  unfold PySem.W.hasDictIn at h
  cases e : PySem.W.clsIn K C with
  | none => rw [e] at h; cases h
  | some c => rw [e] at h; exact ⟨c, rfl, h⟩
section
open Builtin Builtin.ObjectAttr
variable {prog : Program} {w : World} {A : Around} {R : Result → Shared → Prop} {hp : Heap} {g : Array GenState} {dr : Drawn} {t : Nat} {os : OsState} {K : PySem.W.Frag} {C x : Addr} {y : PySem.Str} {tk : Tok} {u : Value} {fv : Array Value}
theorem taker_none (h : PySem.W.findIn K (.ref C) y = some none) : PySem.W.takerIn K C y = some none := by
  unfold PySem.W.takerIn
  rw [h]
  rfl
theorem sto_first (T : OexB K C) (hK : K.In hp) (ho : hp.get? x = some { cls := .ref C, data := .fields fv }) (hno : PySem.W.findIn K (.ref C) y = some none)
    (q : ∀ h' tk' dx, (∀ b o, b ≠ x → hp.get? b = some o → h'.get? b = some o) → hp.objs.size ≤ dx → dx ≠ x → h'.get? x = some { cls := .ref C, dict := some dx, data := .fields fv } → h'.Ns1 dx (fun z => if z = y then some u else none) →
      R (.ok (.ret .none)) ⟨h', g, dr, tk', os⟩) : codeAny (model prog w) A (.call (.builtin "object.__setattr__") ⟨[.ref x, .str y tk, u], []⟩) R ⟨hp, g, dr, t, os⟩ := by
  obtain ⟨c, hc, hh⟩ := T.cd
  refine PySem.W.osa_openX (od := none) (r := none) PySem.F.store_Exception hK ⟨ho, rfl, rfl, trivial⟩ T.ovr (taker_none hno) fun b => ?_
  have hcl : PySem.W.Looks (model prog w) hp (classData C) c := PySem.W.looks_clsIn hK hc
  have ne : x ≠ hp.objs.size := Nat.ne_of_lt (Heap.lt_size ho)
  obtain ⟨c1, c2, c3, c4, c5, c6, c7, c8, c9, c10, c11⟩ := c
  dsimp only at hh
  subst hh
  show wpAny _ _ (storeInOwnDict (.ref x) (.ref C) (.str y tk) y u b) _ _ _
  unfold storeInOwnDict ownDictForStores
  repeat (first | with_reducible refine PySem.PX.store_in_new ?_ ?_ | with_reducible refine wpAny_loadPart_at ho ?_ | with_reducible refine hcl.at ?_ | wp_step)
  · exact ⟨_, #[], _, (Heap.get?_update_ne _ _ _ _ ne.symm).trans (Heap.get?_push_at rfl rfl), rfl, fun e he => absurd he (by simp), fun _ => rfl⟩
  · intro h' tk' hn' hs
    exact q h' tk' hp.objs.size (fun b o hb hbo => (hs.2 b (Nat.ne_of_lt (Heap.lt_size hbo))).trans ((Heap.get?_update_ne _ _ _ _ hb).trans (Heap.get?_push_of_some _ hbo))) (Nat.le_refl _) ne.symm
      ((hs.2 x ne).trans (Heap.get?_update_self _ (Heap.get?_push_of_some _ ho) rfl)) hn'
theorem sto_more {dx : Addr} {m0 : PySem.Str → Option Value} {nl : List PySem.Str} (T : OexB K C) (hK : K.In hp) (ho : hp.get? x = some { cls := .ref C, dict := some dx, data := .fields fv }) (hno : PySem.W.findIn K (.ref C) y = some none)
    (hns : hp.Ns1 dx m0) (hw : Within m0 nl) (hz : nl.length ≤ 1000)
    (q : ∀ h' tk', (∀ b o, b ≠ dx → hp.get? b = some o → h'.get? b = some o) → h'.Ns1 dx (fun z => if z = y then some u else m0 z) → R (.ok (.ret .none)) ⟨h', g, dr, tk', os⟩) :
    codeAny (model prog w) A (.call (.builtin "object.__setattr__") ⟨[.ref x, .str y tk, u], []⟩) R ⟨hp, g, dr, t, os⟩ := by
  obtain ⟨c, hc, hh⟩ := T.cd
  obtain ⟨oD, _, _, hoD, _, _⟩ := hns.count hw
  refine PySem.W.osa_openX (od := some oD) (r := none) PySem.F.store_Exception hK ⟨ho, rfl, rfl, hoD⟩ T.ovr (taker_none hno) fun b => ?_
  have hcl : PySem.W.Looks (model prog w) hp (classData C) c := PySem.W.looks_clsIn hK hc
  obtain ⟨c1, c2, c3, c4, c5, c6, c7, c8, c9, c10, c11⟩ := c
  dsimp only at hh
  subst hh
  show wpAny _ _ (storeInOwnDict (.ref x) (.ref C) (.str y tk) y u b) _ _ _
  unfold storeInOwnDict ownDictForStores
  repeat (first | with_reducible refine PySem.OEX.store_in_old hns hw hz ?_ | with_reducible refine wpAny_loadPart_at ho ?_ | with_reducible refine hcl.at ?_ | wp_step)
  intro h' tk' hn' hs
  exact q h' tk' (fun b o hb hbo => (hs.2 b hb).trans hbo) hn'
end
section
variable {X : Cx} {pins : List (Addr × Obj)} {σ : L2.St} {H : Hp} {s : Shared} {a C dx : Addr} {f : PySem.Str} {y : V} {u : Value} {fs : List (PySem.Str × V)} {Q : Unit → Shared → Prop} {E : Value → Shared → Prop} {A : Around}
theorem fld_first (T : OexB X.K C) (I : Inv X pins σ H s) (e : H a = some (exo a C none)) (hno : PySem.W.findIn X.K (.ref C) f = some none) (ry : RelV y u)
    (q : ∀ dx s', H dx = none → dx ≠ a → Inv X pins σ (upd (upd H dx (exd dx [(f, y)])) a (exo a C (some dx))) s' → Q () s') : wpAny (model X.prog X.w) A (setAttr (.ref a) f u) Q E s := by
  obtain ⟨t1, ho⟩ := exo_at I.hok e
  obtain ⟨hp, g, d, t, os⟩ := s
  refine PySem.W.set_plain I.kIn (od := none) ⟨ho, rfl, rfl, trivial⟩ T.sa (sto_first T I.kIn ho hno fun h' tk' dx k dn dne hx hn => ?_)
  have hnd : H dx = none := I.hok.fresh dn
  have hb' : ∀ b, b ≠ a → (h'.update a fun _ => { cls := .ref C, data := .fields #[.ref t1, .none, .none, .none, .bool false, .none] }).get? b = h'.get? b := fun b hb => Heap.get?_update_ne _ _ _ _ hb
  have I1 : Inv X pins σ (upd H dx (exd dx [(f, y)])) ⟨h'.update a fun _ => { cls := .ref C, data := .fields #[.ref t1, .none, .none, .none, .bool false, .none] }, g, d, tk', os⟩ :=
    I.laid (t' := tk') (fun b o z => by
      by_cases hb : b = a
      · subst hb
        rw [show hp.get? b = _ from ho] at z
        cases z
        exact Heap.get?_update_self _ hx rfl
      · rw [hb' b hb]
        exact k b o hb z) dn (exd_ok (hn.at fun o z => (hb' dx dne).trans z) (relO_put (fs := []) ry fun g => True.intro))
  have ea : upd H dx (exd dx [(f, y)]) a = some (exo a C none) := by rw [upd_ne (Ne.symm dne)]; exact e
  exact q dx _ hnd dne (I1.write (t' := tk') (x := a) (e := a) (o := exo a C (some dx)) (by rw [ea]; exact True.intro) (.inl rfl) (fun b o hb z => (hb' b hb).symm.trans z) ⟨_, hx⟩ (exo_ok hx))
theorem fld_more (T : OexB X.K C) (I : Inv X pins σ H s) (e : H a = some (exo a C (some dx))) (ed : H dx = some (exd dx fs)) (hl : fs.length ≤ 900) (hno : PySem.W.findIn X.K (.ref C) f = some none) (ry : RelV y u)
    (q : ∀ s', Inv X pins σ (upd H dx (exd dx ((f, y) :: fs))) s' → Q () s') : wpAny (model X.prog X.w) A (setAttr (.ref a) f u) Q E s := by
  obtain ⟨t1, ho⟩ := exo_at I.hok e
  obtain ⟨mA, hns, rel⟩ := exd_at I.hok ed
  have hw := within_of rel
  obtain ⟨hp, g, d, t, os⟩ := s
  obtain ⟨oD, _, _, hoD, _, _⟩ := hns.count hw
  refine PySem.W.set_plain I.kIn (od := some oD) ⟨ho, rfl, rfl, hoD⟩ T.sa (sto_more T I.kIn ho hno hns hw (by rw [List.length_map]; omega) fun h' tk' k hn => ?_)
  obtain ⟨o, _, _, e', _⟩ := id hn
  exact q _ (I.write (t' := tk') (x := dx) (e := dx) (o := exd dx ((f, y) :: fs)) (by rw [ed]; exact True.intro) (.inl rfl) k ⟨o, e'⟩ (exd_ok hn (relO_put ry rel)))
end
section
variable {X : Cx} {o e : Expr} {es : List Expr} {to te : TE} {ta : TA} {p' p pos : Pos} {f x : PySem.Str}
def tOstB (K : PySem.W.Frag) (f : PySem.Str) (to te : TE) : TS := fun D σ H => te σ H fun y H1 => to σ H1 fun x H2 => ∃ a C : Addr, x = .ref a ∧ OexB K C ∧ PySem.W.findIn K (.ref C) f = some none ∧
  ((H2 a = some (exo a C none) ∧ ∀ dx, H2 dx = none → dx ≠ a → D.nx σ (upd (upd H2 dx (exd dx [(f, y)])) a (exo a C (some dx)))) ∨
    ∃ (dx : Addr) (fs : List (PySem.Str × V)), H2 a = some (exo a C (some dx)) ∧ H2 dx = some (exd dx fs) ∧ fs.length ≤ 900 ∧ D.nx σ (upd H2 dx (exd dx ((f, y) :: fs))))
theorem ps_ostB (ho : PE X o to) (he : PE X e te) (hs : swapsWith e (some (.Attribute o f p')) pos.line X.env = pure false := by rfl) : PS X (.Assign [.Attribute o f p'] e pos) (tOstB X.K f to te) := by
  constructor
  intro pins s σ H D I h
  refine plainObj_wpAny_Assign_Attribute (thn (he.run pins s σ H _ I h) fun v s1 hv => ?_) hs
  obtain ⟨y, H1, I1, r1, q1⟩ := hv
  refine thn (ho.run pins s1 σ H1 _ I1 q1) fun u s2 hu => ?_
  obtain ⟨x, H2, I2, r2, a, C, rfl, T, hno, q⟩ := hu
  cases r2
  rcases q with ⟨ea, q⟩ | ⟨dx, fs, ea, ed, hl, q⟩
  · exact fld_first T I2 ea hno r1 fun dx s' n1 n2 J => ⟨σ, _, J, q dx n1 n2⟩
  · exact fld_more T I2 ea ed hl hno r1 fun s' J => ⟨σ, _, J, q⟩
/-- C(e, ..) -/
def tMkB (C : Addr) (sp : Sp) (ta : TA) : L2.St → Hp → XK → Prop := fun σ H Q => ta σ H fun vs H1 => vs.length ≤ 1000 ∧ ∀ a, H1 a = none → sp (.ref a :: vs) (upd H1 a (exo a C none)) (fun v H2 => v = .non ∧
  ∃ (d : Addr) (fs : List (PySem.Str × V)), H2 a = some (exo a C (some d)) ∧ H2 d = some (exd d fs) ∧ H1 d = none ∧ Q (.ref C) (some d) (upd (del H2 a) d (.xd fs))) E0
theorem pmk_B {C fI : Addr} {k : Nat} {fd : FuncData} {ps : List PySem.Str} {sp : Sp} (T : OexB X.K C) (iC : PySem.W.findIn X.K (.ref C) "__init__" = some (some (.ref fI))) (tI : PySem.W.isFn X.K (.ref fI) = true)
    (F1 : FnOk X.prog X.w X.K X.mg X.base CX0 k fI fd ps sp) (hr : Room (k + 1) X.A) (hb : Binds X.K fd ps []) (hg : Gl X x) (hm : X.mg x = some (.ref C)) (ha : PA X (e :: es) ta)
    (hdb : (x == ("__debug__" : PySem.Str)) = false := by decide) (he : starEach (e :: es) X.env = (false, eval e X.env) :: starEach es X.env := by rfl) (hpl : (backTo pos (starEach es X.env)).any (·.1) = false := by rfl) :
    PMk X (.Call (.Name x p) (e :: es) [] pos) (tMkB C sp ta) := by
  intro pins s σ H Q I h
  refine wpAny_Call_Name_kw (ld_glob I hg hm ?_ hdb)
  refine PySem.W.callWith_K (h₀ := X.base) I.ok.mod.kin T.kC (thn (ha.run pos pins s σ H _ I h) fun us s1 hu => ?_) he hpl
  obtain ⟨vs, H1, I1, r1, hz, q1⟩ := hu
  refine ⟨I1.kIn, ?_⟩
  show wpAny _ _ (call (.ref C) us) _ _ _
  obtain ⟨nm, N, qn, bs, bm, hdct, sn, sub, ab, col, dd, k0, k1, k2, k3, k5, hC, hT⟩ := PySem.W.excInit_of I1.kIn T.ini
  obtain ⟨oI, hoI, hcI⟩ : ∃ oI, s1.heap.get? fI = some oI ∧ oI.cls = .type "function" := by
    obtain ⟨o, z1, z2⟩ := Option.map_eq_some_iff.mp (show (X.K.lookup fI).map (·.cls) = some (.type "function") from beq_iff_eq.mp tI)
    exact ⟨o, I1.kIn _ _ z1, z2⟩
  obtain ⟨hp, g, dr, tk, os⟩ := s1
  have le1 : hp.objs.size ≤ hp.objs.size + 1 := Nat.le_succ _
  have q2 := q1 (hp.objs.size + 1) (I1.hok.fresh le1)
  have grow : ∀ b o, hp.get? b = some o → ((hp.push (PySem.W.kdv_tup us)).push (PySem.PX.excO C hp.objs.size)).get? b = some o := fun b o z => Heap.get?_push_of_some _ (Heap.get?_push_of_some _ z)
  have here : ((hp.push (PySem.W.kdv_tup us)).push (PySem.PX.excO C hp.objs.size)).get? (hp.objs.size + 1) = some (PySem.PX.excO C hp.objs.size) := by heap_get
  have I2 : Inv X pins σ (upd H1 (hp.objs.size + 1) (exo (hp.objs.size + 1) C none)) ⟨(hp.push (PySem.W.kdv_tup us)).push (PySem.PX.excO C hp.objs.size), g, dr, tk, os⟩ := I1.laid (t' := tk) grow le1 (exo_ok here)
  have hv : Vals (V.ref (hp.objs.size + 1) :: vs) (Value.ref (hp.objs.size + 1) :: us) := .cons rfl r1
  have hln : (Value.ref (hp.objs.size + 1) :: us ++ []).length = ps.length := by
    rw [List.append_nil, ← hv.length]
    exact F1.len _ _ _ _ q2
  have hus : us.length ≤ sizeLine := by
    rw [← Paired.length r1, sizeLine_eq]
    omega
  have bt := hb ⟨(hp.push (PySem.W.kdv_tup us)).push (PySem.PX.excO C hp.objs.size), g, dr, tk, os⟩ (Value.ref (hp.objs.size + 1) :: us) I2.kIn hln
  rw [List.append_nil] at bt
  refine wpAny_call (PySem.PX.call_own PySem.F.excBase_Exception hT hC (PySem.W.looks_findIn I1.kIn iC) (fun self => PySem.W.exc_bind hoI hcI self) hus
    (codeAny_mono (F1.run _ X.stack _ _ ⟨Value.ref (hp.objs.size + 1) :: us, []⟩ _ _ _ E0 (hr.make C us []) (I2.env0.make C us []) bt hv q2) fun r s' z => ?_))
  cases r with
  | error er => exact pass0 pins σ _ _ er s' I2 z
  | ok fl =>
    cases fl with
    | ret u =>
      obtain ⟨v, H2, z1, z2, z3, z4, rv, rfl, d, fs, ea, ed, hd1, q3⟩ := z
      obtain ⟨h2, g2, d2, t2, os'⟩ := s'
      exact ⟨rv, mk_end (raises_own T.exC T.tyC) I1 le1 grow z3 z4 z1 z2 ea ed hd1 q3⟩
    | next => exact False.elim z
    | brk => exact False.elim z
    | cont => exact False.elim z
end
end Mc
namespace Mc
open PySem L2 PySem.Spec PyProof.Rows
/-! ### calls that may raise -/
def CalX (P : Program) (w : World) (K : PySem.W.Frag) (mg : PySem.Str → Option Value) (base : Heap) (k : Nat) (x : PySem.Str) (ps : List PySem.Str) (sp : Sp) : Prop :=
  ∃ (f : Addr) (fd : FuncData), mg x = some (.ref f) ∧ PySem.W.keepIn K (.ref f) = true ∧ Binds K fd ps [] ∧ FnOk P w K mg base (L2.CX P w) k f fd ps sp
def CalMX (P : Program) (w : World) (K : PySem.W.Frag) (mg : PySem.Str → Option Value) (base : Heap) (C : Addr) (k : Nat) (m : PySem.Str) (ps : List PySem.Str) (sp : Sp) : Prop :=
  ∃ (f : Addr) (fd : FuncData), Meth K C m f ∧ Binds K fd ps [] ∧ FnOk P w K mg base (L2.CX P w) k f fd ps sp
def CalIX (P : Program) (w : World) (K : PySem.W.Frag) (mg : PySem.Str → Option Value) (base : Heap) (C : Addr) (k : Nat) (x : PySem.Str) (ps : List PySem.Str) (sp : Sp) : Prop :=
  ∃ (f : Addr) (fd : FuncData), mg x = some (.ref C) ∧ Mk K C f ∧ Binds K fd ps [] ∧ FnOk P w K mg base (L2.CX P w) k f fd ps sp
/-- o.m(..) where E σ is wished of what it raises -/
def tMethE (C : Addr) (m : PySem.Str) (sp : Sp) (E : L2.St → XK) (ta : TE) (t : TA) : TE := fun σ H Q => ta σ H fun x H1 => ∃ a dx fs, x = .ref a ∧ H1 a = some (.ins C dx fs) ∧ fs.lookup m = none ∧ t σ H1 fun vs H2 => sp (x :: vs) H2 Q (E σ)
section
variable {X : Cx} {k : Nat} {x m : PySem.Str} {ps : List PySem.Str} {sp : Sp} {C : Addr} {p pos apos : Pos} {e o : Expr} {es : List Expr} {t : TA} {ta : TE} {E : L2.St → XK}
theorem pe_calX (c : CalX X.prog X.w X.K X.mg X.base k x ps sp) (hr : Room k X.A) (hg : Gl X x) (hx : ∀ σ, PassesAt (L2.CX X.prog X.w) X σ (E σ)) (ha : PA X (e :: es) t) (hdb : (x == ("__debug__" : PySem.Str)) = false := by decide)
    (he : starEach (e :: es) X.env = (false, eval e X.env) :: starEach es X.env := by rfl) (hpl : (backTo pos (starEach es X.env)).any (·.1) = false := by rfl) : PE X (.Call (.Name x p) (e :: es) [] pos) (tCallS sp E t) := by
  obtain ⟨f, fd, hm, hk, hb, F⟩ := c
  exact pe_callS F hr hg hm hk hb hx ha hdb he hpl
theorem pe_calMX {pl : Sem Bool} (ho : PE X o ta) (cl : Cls X.K C) (c : CalMX X.prog X.w X.K X.mg X.base C k m ps sp) (hr : Room k X.A) (hx : ∀ σ, PassesAt (L2.CX X.prog X.w) X σ (E σ)) (ha : PA X (e :: es) t)
    (hst : starEach (e :: es) X.env = (false, eval e X.env) :: starEach es X.env := by rfl) (hpl : (backTo pos (starEach es X.env)).any (·.1) = false := by rfl)
    (ht : eval (.Call (.Attribute o m apos) (e :: es) [] pos) X.env = (do
      let ov ← eval o X.env
      standAt apos.atName
      let (f, first) ← holding [ov] (getMethod ov m pl)
      callWith pos f first (backTo pos (starEach (e :: es) X.env)) (backToKw pos (keywordEach [] X.env))) := by rfl) :
    PE X (.Call (.Attribute o m apos) (e :: es) [] pos) (tMethE C m sp E ta t) := by
  obtain ⟨f, fd, hm, hb, F⟩ := c
  constructor
  intro pins s σ H Q I h
  refine PySem.W.methodCall_KW (pl := pl) (thn (ho.run pins s σ H _ I h) fun u s1 z1 => ?_) ht
  obtain ⟨x, H1, I1, rx, a, dx, fs, rfl, ea, l, q⟩ := z1
  cases rx
  refine getmeth_ok I1 ea cl hm l (PySem.W.callWith_K (first := [.ref a]) (h₀ := X.base) I.ok.mod.kin hm.kp (thn (ha.run pos pins s1 σ H1 _ I1 q) fun us s2 z2 => ?_) hst hpl)
  obtain ⟨vs, H2, I2, r, q2⟩ := z2
  exact ⟨I2.kIn, run_fnS (us := .ref a :: us) (vs := .ref a :: vs) F hr hb (hx σ) I2 (.cons rfl r) q2⟩
/-- nothing is raised at this call -/
theorem noE {X : Cx} : ∀ σ : L2.St, PassesAt (L2.CX X.prog X.w) X σ ((fun _ => E0) σ) := fun σ pins H s e s' I h => passL pins σ H s e s' I h
end
/-! ### C(..) whose __init__ may raise -/
def tMakeE (C : Addr) (sp : Sp) (E : L2.St → XK) (t : TA) : TE := fun σ H Q => t σ H fun vs H1 => ∀ x dx, H1 x = none → H1 dx = none → dx ≠ x → sp (.ref x :: vs) (upd (upd H1 dx (.own x)) x (.ins C dx [])) (fun v H2 => v = .non ∧ Q (.ref x) H2) (E σ)
theorem run_makeE {X : Cx} {k : Nat} {f C : Addr} {fd : FuncData} {ps : List PySem.Str} {sp : Sp} {E : XK} {pins : List (Addr × Obj)} {σ : L2.St} {H : Hp} {s : Shared} {Q : VK} {us : List Value} {vs : List V} (M : Mk X.K C f) (F : FnOk X.prog X.w X.K X.mg X.base (L2.CX X.prog X.w) k f fd ps sp) (hr : Room (k + 1) X.A) (hb : Binds X.K fd ps [])
    (hx : PassesAt (L2.CX X.prog X.w) X σ E) (I : Inv X pins σ H s) (r : Vals vs us)
    (h : ∀ x dx, H x = none → H dx = none → dx ≠ x → sp (.ref x :: vs) (upd (upd H dx (.own x)) x (.ins C dx [])) (fun v H2 => v = .non ∧ Q (.ref x) H2) E) :
    wpAny (model X.prog X.w) X.A (call (.ref C) us) (EP X pins σ Q) X.xe s := by
  have hq := h (s.heap.objs.size + 1) s.heap.objs.size (I.hok.fresh (Nat.le_succ _)) (I.hok.fresh (Nat.le_refl _)) (Nat.ne_of_lt (Nat.lt_succ_self _))
  have I2 := Inv.made (C := C) I
  have r2 : Vals (V.ref (s.heap.objs.size + 1) :: vs) (Value.ref (s.heap.objs.size + 1) :: us) := .cons rfl r
  have hl : (Value.ref (s.heap.objs.size + 1) :: us ++ []).length = ps.length := by
    have e := r2.length
    rw [F.len _ _ _ _ hq] at e
    rw [List.append_nil]
    exact e.symm
  have bt := hb _ (Value.ref (s.heap.objs.size + 1) :: us) I2.kIn hl
  rw [List.append_nil] at bt
  refine wpAny_call (make_map (f := f) I.kIn M.makes M.init (beq_iff_eq.mp M.fn) (codeAny_mono (F.run _ X.stack _ _ ⟨Value.ref (s.heap.objs.size + 1) :: us, []⟩ (Value.ref (s.heap.objs.size + 1) :: us) _ _ E (hr.make C us [])
    (I2.env0.make C us []) bt r2 hq) fun r s' hq' => ?_))
  cases r with
  | error e => exact hx pins _ _ e s' I2 hq'
  | ok fl =>
    cases fl with
    | ret u =>
      obtain ⟨v, H', I3, rv, ev, q3⟩ := I2.after hq'
      subst ev
      exact ⟨rv, ⟨V.ref (s.heap.objs.size + 1), H', I3, rfl, q3⟩⟩
    | next => exact False.elim hq'
    | brk => exact False.elim hq'
    | cont => exact False.elim hq'
section
variable {X : Cx} {k : Nat} {x : PySem.Str} {ps : List PySem.Str} {sp : Sp} {C : Addr} {p pos : Pos} {e : Expr} {es : List Expr} {t : TA} {E : L2.St → XK}
theorem pe_calIX (c : CalIX X.prog X.w X.K X.mg X.base C k x ps sp) (hr : Room (k + 1) X.A) (hg : Gl X x) (hx : ∀ σ, PassesAt (L2.CX X.prog X.w) X σ (E σ)) (ha : PA X (e :: es) t) (hdb : (x == ("__debug__" : PySem.Str)) = false := by decide)
    (he : starEach (e :: es) X.env = (false, eval e X.env) :: starEach es X.env := by rfl) (hpl : (backTo pos (starEach es X.env)).any (·.1) = false := by rfl) : PE X (.Call (.Name x p) (e :: es) [] pos) (tMakeE C sp E t) := by
  obtain ⟨f, fd, hm, M, hb, F⟩ := c
  refine ⟨fun pins s σ H Q I h => ?_⟩
  refine wpAny_Call_Name_kw (ld_glob I hg hm ?_ hdb)
  refine PySem.W.callWith_K (h₀ := X.base) I.ok.mod.kin M.kp (thn (ha.run pos pins s σ H _ I h) fun us s1 ⟨vs, H1, I1, r, q⟩ => ⟨I1.kIn, ?_⟩) he hpl
  exact run_makeE M F hr hb (hx σ) I1 r q
end
/-! ### an own error of one field -/
def spBadI (C : Addr) (f : PySem.Str) : Sp := fun vs H Q _ => ∃ (a : Addr) (v : V), vs = [.ref a, v] ∧ H a = some (exo a C none) ∧ ∀ d, H d = none → d ≠ a → Q .non (upd (upd H d (exd d [(f, v)])) a (exo a C (some d)))
theorem ok_badI {P : Program} {w : World} {K : PySem.W.Frag} {mg : PySem.Str → Option Value} {base : Heap} {st : Stmt} {f C : Addr} {fd : FuncData} {n q : PySem.Str} (F : Fun K "__init__" q st f fd) (T : OexB K C) (hno : PySem.W.findIn K (.ref C) n = some none)
    (sc : FnScope ["self", n] ["self", n] (defScope st))
    (bd : ∀ (cdv : Value) (A : Around) (outer : List Env) (s : Shared) (H : Hp) (Q : VK) (E : XK), PSs (cxOf CX0 P w K mg base ["self", n] q (defScope st) f cdv A outer s H E).nox (defBody st) (tOstB K n (tVar 0) (tVar 1))) : FnOk P w K mg base CX0 1 f fd ["self", n] (spBadI C n) := by
  refine F.ok sc (fun vs H Q E h => ?_) (fun cdv A outer s H vs Q E hr h => ?_)
  · obtain ⟨a, v, rfl, _⟩ := h
    rfl
  · obtain ⟨a, v, rfl, ha, k⟩ := h
    refine ⟨_, bd cdv A outer s H Q E, ?_⟩
    exact ⟨_, rfl, _, rfl, a, C, rfl, T, hno, .inl ⟨ha, k⟩⟩
theorem bad_heap {H : Hp} {a d : Addr} {o1 o2 o3 x : HO} (ha : H a = none) (ne : d ≠ a) : upd (del (upd (upd (upd H a o1) d o2) a o3) a) d x = upd H d x := by
  funext b
  by_cases h1 : b = d
  · rw [h1, upd_same, upd_same]
  · rw [upd_ne h1, upd_ne h1]
    by_cases h2 : b = a
    · rw [h2, del_same, ha]
    · rw [del_ne h2, upd_ne h2, upd_ne h1, upd_ne h2]
/-- C(v) -/
theorem mkB_one {C : Addr} {f : PySem.Str} {v : V} {H : Hp} {Q : XK} (q : ∀ d, H d = none → Q (.ref C) (some d) (upd H d (.xd [(f, v)]))) : [v].length ≤ 1000 ∧ ∀ a, H a = none → spBadI C f (.ref a :: [v]) (upd H a (exo a C none)) (fun v' H2 => v' = .non ∧
    ∃ (d : Addr) (fs : List (PySem.Str × V)), H2 a = some (exo a C (some d)) ∧ H2 d = some (exd d fs) ∧ H d = none ∧ Q (.ref C) (some d) (upd (del H2 a) d (.xd fs))) E0 := by
  refine ⟨by show 1 ≤ 1000; decide, fun a ha => ⟨a, v, rfl, upd_same, fun d hd ne => ⟨rfl, d, [(f, v)], upd_same, by rw [upd_ne ne, upd_same], by rw [upd_ne ne] at hd; exact hd, ?_⟩⟩⟩
  have hd0 : H d = none := by rw [upd_ne ne] at hd; exact hd
  rw [bad_heap ha ne]
  exact q d hd0
end Mc
namespace Mc
open PySem L2 PySem.Spec PyProof.Rows
/-! a list comprehension with two fors, by two walks -/
theorem yes_ite {σ : L2.St} {H : Hp} {A B : Hp → Prop} (h : A H) : tYes σ H (fun b H3 => if b = true then A H3 else B H3) := by
  show (if true = true then A H else B H)
  rw [if_pos rfl]
  exact h
theorem pi_listK {X : Cx} {K : PySem.W.Frag} {tg l : Expr} {tl : TE} (h : X.K = K) (hl : PE X l tl) : PI X tg l (iList K tl) := by
  subst h
  exact pi_list hl
section
variable {J J1 : It} {n n1 : Nat} {G G1 : Hp → Prop} {Y Y1 : Nat → Hp → V → Hp → Prop} {g g1 : TG} {tt tt1 : TT} {te : TE} {wi1 : TI} {vs vs1 : List Nat} {σ σ2 : L2.St} {H1 H4 : Hp} {D : Addr} {Qd Nx : Hp → Prop}
theorem lc2_out (w : Walk J n G Y) (Pv : Nat → Hp → Prop) (h0 : Pv 0 (upd H1 D (.lst []))) (hG : ∀ i H, i ≤ n → Pv i H → G H)
    (hs : ∀ i x H H', i < n → Pv i H → Y i H x H' → g x (wipe σ vs) H' fun σ2 H2 => wipe σ2 vs = wipe σ vs ∧ tt σ2 H2 fun b H3 => if b = true then wi1 σ2 H3 fun J1 H4 => ∃ W1 : Nat → Nat → Hp → Prop, (∃ m, W1 0 m H4) ∧ ∀ j k H, W1 j k H →
      (J1.stop j H ∧ Pv (i + 1) H) ∨ (J1.go j H ∧ ∃ Nx1 : Hp → Prop, (∀ H', Nx1 H' → ∃ k', k' < k ∧ W1 (j + 1) k' H') ∧ ∀ x H', J1.yld j H x H' → g1 x (wipe σ2 vs1) H' fun σ3 H5 => wipe σ3 vs1 = wipe σ2 vs1 ∧ tt1 σ3 H5 fun b H6 =>
        if b = true then te σ3 H6 fun y H7 => ∃ acc, H7 D = some (.lst acc) ∧ acc.length < sizeLine ∧ Nx1 (upd H7 D (.lst (acc ++ [y]))) else Nx1 H6) else Pv (i + 1) H3) (hd : ∀ H, Pv n H → Qd H) :
    ∃ W : Nat → Nat → Hp → Prop, (∃ m, W 0 m (upd H1 D (.lst []))) ∧ ∀ i m H, W i m H →
  (J.stop i H ∧ Qd H) ∨ (J.go i H ∧ ∃ Nx : Hp → Prop, (∀ H', Nx H' → ∃ m', m' < m ∧ W (i + 1) m' H') ∧ ∀ x H', J.yld i H x H' → g x (wipe σ vs) H' fun σ2 H2 => wipe σ2 vs = wipe σ vs ∧ tt σ2 H2 fun b H3 =>
    if b = true then wi1 σ2 H3 fun J1 H4 => ∃ W1 : Nat → Nat → Hp → Prop, (∃ m, W1 0 m H4) ∧ ∀ j k H, W1 j k H →
      (J1.stop j H ∧ Nx H) ∨ (J1.go j H ∧ ∃ Nx1 : Hp → Prop, (∀ H', Nx1 H' → ∃ k', k' < k ∧ W1 (j + 1) k' H') ∧ ∀ x H', J1.yld j H x H' → g1 x (wipe σ2 vs1) H' fun σ3 H5 => wipe σ3 vs1 = wipe σ2 vs1 ∧ tt1 σ3 H5 fun b H6 =>
        if b = true then te σ3 H6 fun y H7 => ∃ acc, H7 D = some (.lst acc) ∧ acc.length < sizeLine ∧ Nx1 (upd H7 D (.lst (acc ++ [y]))) else Nx1 H6)
    else Nx H3) := by
  refine ⟨fun i m H => m = n - i ∧ i ≤ n ∧ Pv i H, ⟨n, by simp, Nat.zero_le _, h0⟩, ?_⟩
  rintro i m H ⟨rfl, hi, p⟩
  by_cases hlt : i < n
  · exact .inr ⟨w.goes i H hlt (hG i H hi p), Pv (i + 1), fun H' p' => ⟨n - (i + 1), by omega, rfl, hlt, p'⟩, fun x H' y => hs i x H H' hlt p (w.yields i H x H' hlt (hG i H hi p) y)⟩
  · obtain rfl : i = n := by omega
    exact .inl ⟨w.stops H (hG _ H hi p), hd H p⟩
theorem lc2_in (w : Walk J1 n1 G1 Y1) (Pj : Nat → Hp → Prop) (h0 : Pj 0 H4) (hG : ∀ i H, i ≤ n1 → Pj i H → G1 H)
    (hs : ∀ j x H H', j < n1 → Pj j H → Y1 j H x H' → g1 x (wipe σ2 vs1) H' fun σ3 H5 => wipe σ3 vs1 = wipe σ2 vs1 ∧ tt1 σ3 H5 fun b H6 => if b = true then te σ3 H6 fun y H7 => ∃ acc, H7 D = some (.lst acc) ∧ acc.length < sizeLine ∧ Pj (j + 1) (upd H7 D (.lst (acc ++ [y]))) else Pj (j + 1) H6)
    (hd : ∀ H, Pj n1 H → Nx H) :
    ∃ W1 : Nat → Nat → Hp → Prop, (∃ m, W1 0 m H4) ∧ ∀ j k H, W1 j k H →
      (J1.stop j H ∧ Nx H) ∨ (J1.go j H ∧ ∃ Nx1 : Hp → Prop, (∀ H', Nx1 H' → ∃ k', k' < k ∧ W1 (j + 1) k' H') ∧ ∀ x H', J1.yld j H x H' → g1 x (wipe σ2 vs1) H' fun σ3 H5 => wipe σ3 vs1 = wipe σ2 vs1 ∧ tt1 σ3 H5 fun b H6 =>
        if b = true then te σ3 H6 fun y H7 => ∃ acc, H7 D = some (.lst acc) ∧ acc.length < sizeLine ∧ Nx1 (upd H7 D (.lst (acc ++ [y]))) else Nx1 H6) := by
  refine ⟨fun i m H => m = n1 - i ∧ i ≤ n1 ∧ Pj i H, ⟨n1, by simp, Nat.zero_le _, h0⟩, ?_⟩
  rintro i m H ⟨rfl, hi, p⟩
  by_cases hlt : i < n1
  · exact .inr ⟨w.goes i H hlt (hG i H hi p), Pj (i + 1), fun H' p' => ⟨n1 - (i + 1), by omega, rfl, hlt, p'⟩, fun x H' y => hs i x H H' hlt p (w.yields i H x H' hlt (hG i H hi p) y)⟩
  · obtain rfl : i = n1 := by omega
    exact .inl ⟨w.stops H (hG _ H hi p), hd H p⟩
end
end Mc
namespace Mc
open PySem L2 PySem.Spec PyProof.Rows
theorem lt_tri : ∀ a b : List Nat, ¬ a < b → a ≠ b → b < a
  | [], [], _, h => absurd rfl h
  | [], y :: b, h, _ => absurd (List.nil_lt_cons y b) h
  | x :: a, [], _, _ => List.nil_lt_cons x a
  | x :: a, y :: b, h, n => by
    rw [List.cons_lt_cons_iff] at h ⊢
    by_cases e : x = y
    · subst e
      exact .inr ⟨rfl, lt_tri a b (fun z => h (.inr ⟨rfl, z⟩)) fun z => n (by rw [z])⟩
    · exact .inl (by
        have : ¬ x < y := fun z => h (.inl z)
        omega)
def ltN (a b : PySem.Str) : Prop := a.cps.toList < b.cps.toList
instance (a b : PySem.Str) : Decidable (ltN a b) := inferInstanceAs (Decidable (_ < _))
theorem ltN_irr (a : PySem.Str) : ¬ ltN a a := List.lt_irrefl _
theorem ltN_trans {a b c : PySem.Str} (h : ltN a b) (k : ltN b c) : ltN a c := List.lt_trans h k
theorem ltN_tri {a b : PySem.Str} (h : ¬ ltN a b) (n : a ≠ b) : ltN b a := lt_tri _ _ h fun z => n (str_ext z)
section
variable {β : Type} {l : List (PySem.Str × β)} {k : PySem.Str} {v : β}
def AscT (l : List (PySem.Str × β)) : Prop := l.Pairwise fun x y => ltN x.1 y.1
def hiT (l : List (PySem.Str × β)) (k : PySem.Str) : List (PySem.Str × β) := l.filter fun x => decide (ltN k x.1)
def loT (l : List (PySem.Str × β)) (k : PySem.Str) : List (PySem.Str × β) := l.filter fun x => !decide (ltN k x.1)
theorem AscT.nodup (h : AscT l) : (keysT l).Nodup := by
  unfold keysT
  rw [List.Nodup, List.pairwise_map]
  exact List.Pairwise.imp (fun {a b} z e => by rw [e] at z; exact ltN_irr _ z) h
theorem AscT.split (h : AscT l) (k : PySem.Str) : l = loT l k ++ hiT l k := by
  induction l with
  | nil => rfl
  | cons x l ih =>
    have h' := List.pairwise_cons.mp h
    unfold loT hiT
    rw [List.filter_cons, List.filter_cons]
    by_cases e : ltN k x.1
    · have all : ∀ y ∈ l, ltN k y.1 := fun y hy => ltN_trans e (h'.1 y hy)
      rw [decide_eq_true e]
      have e1 : l.filter (fun x => !decide (ltN k x.1)) = [] := List.filter_eq_nil_iff.mpr fun y hy => by simp [all y hy]
      have e2 : l.filter (fun x => decide (ltN k x.1)) = l := List.filter_eq_self.mpr fun y hy => decide_eq_true (all y hy)
      simp [e1, e2]
    · rw [decide_eq_false e]
      have := ih h'.2
      unfold loT hiT at this
      simp only [Bool.not_false, if_true, Bool.false_eq_true, if_false, List.cons_append]
      rw [← this]
open Classical in
noncomputable def insT (l : List (PySem.Str × β)) (k : PySem.Str) (v : β) : List (PySem.Str × β) := if k ∈ keysT l then l.map (fun x => if x.1 = k then (x.1, v) else x) else loT l k ++ [(k, v)] ++ hiT l k
theorem getT_app (l' : List (PySem.Str × β)) : getT (l ++ l') k = (getT l k).or (getT l' k) := by
  induction l with
  | nil => rfl
  | cons x l ih =>
    rw [List.cons_append, getT_cons, getT_cons, ih]
    split <;> rfl
theorem getT_rep (c : PySem.Str) : getT (l.map fun x => if x.1 = k then (x.1, v) else x) c = if c = k then (getT l c).map (fun _ => v) else getT l c := by
  induction l with
  | nil => split <;> rfl
  | cons x l ih =>
    rw [List.map_cons, getT_cons, getT_cons, ih]
    by_cases e : x.1 = k
    · rw [if_pos e]
      show (if x.1 = c then some v else _) = _
      by_cases e2 : x.1 = c
      · rw [if_pos e2, if_pos e2, if_pos (e2.symm.trans e)]; rfl
      · rw [if_neg e2, if_neg e2]
    · rw [if_neg e]
      by_cases e2 : x.1 = c
      · rw [if_pos e2, if_pos e2, if_neg fun z => e (e2.trans z)]
      · rw [if_neg e2, if_neg e2]
theorem getT_ins (h : AscT l) (c : PySem.Str) : getT (insT l k v) c = if c = k then some v else getT l c := by
  unfold insT
  split
  case isTrue hk =>
    rw [getT_rep]
    split
    case isTrue e => subst e; obtain ⟨w, hw⟩ := getT_key hk; rw [hw]; rfl
    case isFalse e => rfl
  case isFalse hk =>
    have n : getT l k = none := getT_none.mpr hk
    rw [h.split k, getT_app] at n
    have n1 : getT (loT l k) k = none := by cases e : getT (loT l k) k with
      | none => rfl
      | some v => rw [e] at n; cases n
    rw [getT_app, getT_app, getT_cons]
    by_cases e : c = k
    · subst e; rw [if_pos rfl, if_pos rfl, n1]; rfl
    · rw [if_neg fun z => e z.symm, if_neg e]
      conv => rhs; rw [h.split k, getT_app]
      cases getT (loT l k) c <;> rfl
theorem AscT.ins (h : AscT l) : AscT (insT l k v) := by
  unfold insT
  split
  case isTrue hk =>
    unfold AscT
    rw [List.pairwise_map]
    refine List.Pairwise.imp (fun {a b} z => ?_) h
    have e : ∀ x : PySem.Str × β, (if x.1 = k then (x.1, v) else x).1 = x.1 := fun x => by split <;> rfl
    rw [e, e]; exact z
  case isFalse hk =>
    have hi : ∀ x ∈ hiT l k, ltN k x.1 := fun x hx => of_decide_eq_true (List.mem_filter.mp hx).2
    have lo : ∀ x ∈ loT l k, ltN x.1 k := fun x hx => by
      have h2 := List.mem_filter.mp hx
      refine ltN_tri (fun z => by simp [z] at h2) fun z => hk ?_
      rw [z]; exact List.mem_map.mpr ⟨x, h2.1, rfl⟩
    refine List.pairwise_append.mpr ⟨List.pairwise_append.mpr ⟨h.filter _, List.pairwise_singleton _ _, fun x hx y hy => ?_⟩, h.filter _, fun x hx y hy => ?_⟩
    · cases List.mem_singleton.mp hy; exact lo x hx
    · rcases List.mem_append.mp hx with hx | hx
      · exact ltN_trans (lo x hx) (hi y hy)
      · cases List.mem_singleton.mp hx; exact hi y hy
theorem ins_len : (insT l k v).length ≤ l.length + 1 := by
  unfold insT
  split
  · rw [List.length_map]; exact Nat.le_succ _
  · have h1 : (loT l k).length + (hiT l k).length ≤ l.length := by
      unfold loT hiT
      have : ∀ l : List (PySem.Str × β), (l.filter fun x => !decide (ltN k x.1)).length + (l.filter fun x => decide (ltN k x.1)).length = l.length := by
        intro l
        induction l with
        | nil => rfl
        | cons x l ih =>
          rw [List.filter_cons, List.filter_cons]
          cases decide (ltN k x.1) <;> simp <;> omega
      exact Nat.le_of_eq (this l)
    simp; omega
theorem keys_ins (h : AscT l) (c : PySem.Str) : c ∈ keysT (insT l k v) ↔ c = k ∨ c ∈ keysT l := by
  have key : ∀ l : List (PySem.Str × β), c ∈ keysT l ↔ getT l c ≠ none := fun l => by
    rw [Ne, getT_none]; exact ⟨fun h z => z h, fun h => Classical.byContradiction h⟩
  rw [key, key, getT_ins h]
  by_cases e : c = k
  · simp [e]
  · simp [e]
end
section
variable {β : Type} {l : List (PySem.Str × β)} {k : PySem.Str} {v : β}
theorem getT_not {A : List (PySem.Str × β)} {c : PySem.Str} (h : ∀ x ∈ A, x.1 ≠ c) : getT A c = none := getT_none.mpr fun z => by
  obtain ⟨x, hx, e⟩ := List.mem_map.mp z
  exact h x hx e
theorem keep_T {A : List (PySem.Str × β)} {c : PySem.Str} (h : ∀ x ∈ A, x.1 ≠ c) : A.filter (fun x => decide (x.1 ≠ c)) = A := List.filter_eq_self.mpr fun x hx => decide_eq_true (h x hx)
/-- one turn: y is taken out and put at the end -/
theorem turn_T {lo A B : List (PySem.Str × β)} {y z : PySem.Str × β} (h1 : ∀ x ∈ lo, x.1 ≠ y.1) (h2 : ∀ x ∈ A, x.1 ≠ y.1) (h3 : ∀ x ∈ B, x.1 ≠ y.1) (h4 : z.1 ≠ y.1) :
    getT (lo ++ (y :: B) ++ [z] ++ A) y.1 = some y.2 ∧ (lo ++ (y :: B) ++ [z] ++ A).filter (fun x => decide (x.1 ≠ y.1)) = lo ++ B ++ [z] ++ A ∧ y.1 ∉ keysT (lo ++ B ++ [z] ++ A) := by
  refine ⟨?_, ?_, ?_⟩
  · rw [getT_app, getT_app, getT_app, getT_not h1, getT_cons, if_pos rfl]; rfl
  · rw [List.filter_append, List.filter_append, List.filter_append, keep_T h1, keep_T h2, List.filter_cons, if_neg (by simp), keep_T h3, keep_T (A := [z]) (by intro x hx; cases List.mem_singleton.mp hx; exact h4)]
  · refine getT_none.mp (getT_not fun x hx => ?_)
    simp only [List.mem_append, List.mem_singleton] at hx
    rcases hx with ((hx | hx) | hx) | hx
    · exact h1 x hx
    · exact h3 x hx
    · rw [hx]; exact h4
    · exact h2 x hx
theorem hi_turn (h : AscT l) {i : Nat} {y : PySem.Str × β} (hy : (hiT l k)[i]? = some y) : (hiT l k).drop i = y :: (hiT l k).drop (i + 1) ∧ (hiT l k).take (i + 1) = (hiT l k).take i ++ [y] ∧
    (∀ x ∈ loT l k, x.1 ≠ y.1) ∧ (∀ x ∈ (hiT l k).take i, x.1 ≠ y.1) ∧ (∀ x ∈ (hiT l k).drop (i + 1), x.1 ≠ y.1) ∧ k ≠ y.1 := by
  obtain ⟨hl, e⟩ := List.getElem?_eq_some_iff.mp hy
  have ky : ltN k y.1 := of_decide_eq_true (List.mem_filter.mp (List.mem_of_getElem? hy)).2
  have d : (hiT l k).drop i = y :: (hiT l k).drop (i + 1) := by rw [List.drop_eq_getElem_cons hl, e]
  have asc : AscT (hiT l k) := h.filter _
  refine ⟨d, by rw [List.take_add_one, hy]; rfl, fun x hx z => ?_, fun x hx z => ?_, fun x hx z => ?_, fun z => ltN_irr _ (z ▸ ky)⟩
  · have := (List.mem_filter.mp hx).2
    rw [z] at this
    simp [ky] at this
  · have a := asc
    rw [← List.take_append_drop i (hiT l k), d] at a
    exact ltN_irr _ (z ▸ (List.pairwise_append.mp a).2.2 x hx y (by simp))
  · have a := asc
    rw [← List.take_append_drop i (hiT l k), d] at a
    exact ltN_irr _ (z ▸ (List.pairwise_cons.mp (List.pairwise_append.mp a).2.1).1 x hx)
end
theorem ins_map {β γ : Type} (g : β → γ) (l : List (PySem.Str × β)) (k : PySem.Str) (v : β) : insT (l.map fun x => (x.1, g x.2)) k (g v) = (insT l k v).map fun x => (x.1, g x.2) := by
  have ek : keysT (l.map fun x => (x.1, g x.2)) = keysT l := by unfold keysT; rw [List.map_map]; rfl
  unfold insT
  rw [ek]
  split
  · rw [List.map_map, List.map_map]
    refine List.map_congr_left fun x _ => ?_
    show (if x.1 = k then (x.1, g v) else (x.1, g x.2)) = _
    by_cases e : x.1 = k
    · rw [if_pos e]; show _ = ((if x.1 = k then (x.1, v) else x).1, g (if x.1 = k then (x.1, v) else x).2); rw [if_pos e]
    · rw [if_neg e]; show _ = ((if x.1 = k then (x.1, v) else x).1, g (if x.1 = k then (x.1, v) else x).2); rw [if_neg e]
  · rw [List.map_append, List.map_append]
    unfold loT hiT
    rw [List.filter_map, List.filter_map]
    rfl
end Mc
namespace Mc
open PySem L2 PySem.Spec PyProof.Rows
/-! ### comprehensions whose turns change nothing that stood -/
theorem itP {c A B : Prop} [Decidable c] (h : c) (a : A) : if c then A else B := by rw [if_pos h]; exact a
theorem itN {c A B : Prop} [Decidable c] (h : ¬ c) (b : B) : if c then A else B := by rw [if_neg h]; exact b
theorem Same.new {p : Addr} {H : Hp} {o : HO} (h : H p = none) : Same H (upd H p o) := fun b u z => by rw [upd_ne (ne_of_none z h)]; exact z
theorem Same.rfl' {H : Hp} : Same H H := fun _ _ z => z
theorem Same.two {p q : Addr} {H : Hp} {o u : HO} (h : H p = none) (k : upd H p o q = none) : Same H (upd (upd H p o) q u) := (Same.new h).trans (Same.new k)
section
variable {α : Type} {c f : α → V} {ys : List α} {J : It} {n : Nat} {G : Hp → Prop} {te : TE} {vs : List Nat} {σ : L2.St} {H1 : Hp} {D : Addr} {Qd : Hp → Prop} {j : Nat}
/-- [e for x in xs], as a map -/
theorem lc_m (w : Walk J n G (YAt (ys.map c))) (f : α → V) (hn : n = ys.length) (hD : H1 D = none) (hG : ∀ H', Same H1 H' → G H') (hz : ys.length ≤ sizeLine)
    (turn : ∀ (i : Nat) (y : α) (H' : Hp) (k : VK), ys[i]? = some y → Same H1 H' → (∀ H4, Same H' H4 → k (f y) H4) → te ((wipe σ vs).set j (some (c y))) H' k)
    (hd : ∀ H', Same H1 H' → H' D = some (.lst (ys.map f)) → Qd H') (hw : ∀ v, wipe ((wipe σ vs).set j (some v)) vs = wipe σ vs := by intro _; rfl) :
    ∃ W : Nat → Nat → Hp → Prop, (∃ m, W 0 m (upd H1 D (.lst []))) ∧ ∀ i m H, W i m H →
      (J.stop i H ∧ Qd H) ∨ (J.go i H ∧ ∃ Nx : Hp → Prop, (∀ H', Nx H' → ∃ m', m' < m ∧ W (i + 1) m' H') ∧ ∀ x H', J.yld i H x H' → gName j x (wipe σ vs) H' fun σ2 H2 => wipe σ2 vs = wipe σ vs ∧ tYes σ2 H2 fun b H3 =>
        if b = true then te σ2 H3 fun y H4 => ∃ acc, H4 D = some (.lst acc) ∧ acc.length < sizeLine ∧ Nx (upd H4 D (.lst (acc ++ [y]))) else Nx H3) := by
  refine lc_it w (fun i H' => Same H1 H' ∧ H' D = some (.lst ((ys.take i).map f))) ⟨Same.new hD, upd_same⟩ (fun i H' _ z => hG H' z.1) ?_ ?_
  · rintro i x H H' hi ⟨s1, d1⟩ ⟨rfl, hx⟩
    rw [List.getElem?_map] at hx
    cases e : ys[i]? with
    | none => rw [e] at hx; cases hx
    | some y =>
      rw [e] at hx
      obtain rfl := Option.some.inj hx
      refine ⟨hw _, yes_ite (turn i y _ _ e s1 fun H4 s4 => ⟨_, s4 _ _ d1, ?_, ?_, ?_⟩)⟩
      · rw [List.length_map, List.length_take]; omega
      · exact fun b o z => by
          have nb : b ≠ D := ne_of_none z hD
          rw [upd_ne nb]
          exact s4 _ _ (s1 _ _ z)
      · rw [upd_same, List.take_add_one, e, List.map_append]
        rfl
  · rintro H ⟨s1, d1⟩
    subst hn
    rw [List.take_length] at d1
    exact hd H s1 d1
/-- [x for x in xs if t] and the like, as a filter and a map -/
theorem lc_f {tt : TT} (w : Walk J n G (YAt (ys.map c))) (p : α → Bool) (f : α → V) (hn : n = ys.length) (hD : H1 D = none) (hG : ∀ H', Same H1 H' → G H') (hz : ys.length ≤ sizeLine)
    (test : ∀ (i : Nat) (y : α) (H' : Hp) (k : Bool → Hp → Prop), ys[i]? = some y → Same H1 H' → (∀ H4, Same H' H4 → k (p y) H4) → tt ((wipe σ vs).set j (some (c y))) H' k)
    (turn : ∀ (i : Nat) (y : α) (H' : Hp) (k : VK), ys[i]? = some y → p y = true → Same H1 H' → (∀ H4, Same H' H4 → k (f y) H4) → te ((wipe σ vs).set j (some (c y))) H' k)
    (hd : ∀ H', Same H1 H' → H' D = some (.lst ((ys.filter p).map f)) → Qd H') (hw : ∀ v, wipe ((wipe σ vs).set j (some v)) vs = wipe σ vs := by intro _; rfl) :
    ∃ W : Nat → Nat → Hp → Prop, (∃ m, W 0 m (upd H1 D (.lst []))) ∧ ∀ i m H, W i m H →
      (J.stop i H ∧ Qd H) ∨ (J.go i H ∧ ∃ Nx : Hp → Prop, (∀ H', Nx H' → ∃ m', m' < m ∧ W (i + 1) m' H') ∧ ∀ x H', J.yld i H x H' → gName j x (wipe σ vs) H' fun σ2 H2 => wipe σ2 vs = wipe σ vs ∧ tt σ2 H2 fun b H3 =>
        if b = true then te σ2 H3 fun y H4 => ∃ acc, H4 D = some (.lst acc) ∧ acc.length < sizeLine ∧ Nx (upd H4 D (.lst (acc ++ [y]))) else Nx H3) := by
  refine lc_it w (fun i H' => Same H1 H' ∧ H' D = some (.lst (((ys.take i).filter p).map f))) ⟨Same.new hD, upd_same⟩ (fun i H' _ z => hG H' z.1) ?_ ?_
  · rintro i x H H' hi ⟨s1, d1⟩ ⟨rfl, hx⟩
    rw [List.getElem?_map] at hx
    cases e : ys[i]? with
    | none => rw [e] at hx; cases hx
    | some y =>
      rw [e] at hx
      obtain rfl := Option.some.inj hx
      have et : (ys.take (i + 1)).filter p = (ys.take i).filter p ++ (if p y = true then [y] else []) := by
        rw [List.take_add_one, e, List.filter_append]
        show _ ++ [y].filter p = _
        rw [List.filter_cons]
        split <;> rfl
      refine ⟨hw _, test i y _ _ e s1 fun H3 s3 => ?_⟩
      by_cases hp : p y = true
      · rw [if_pos hp]
        refine turn i y _ _ e hp (s1.trans s3) fun H4 s4 => ⟨_, s4 _ _ (s3 _ _ d1), ?_, ?_, ?_⟩
        · have h1 := List.length_filter_le p (ys.take i)
          have h2 := List.length_take_le i ys
          rw [List.length_map]
          have h3 : (ys.take i).length < ys.length := by
            have := (List.getElem?_eq_some_iff.mp e).1
            rw [List.length_take]; omega
          omega
        · exact fun b o z => by
            have nb : b ≠ D := ne_of_none z hD
            rw [upd_ne nb]
            exact s4 _ _ (s3 _ _ (s1 _ _ z))
        · rw [upd_same, et, if_pos hp, List.map_append]
          rfl
      · rw [if_neg hp]
        refine ⟨s1.trans s3, ?_⟩
        rw [et, if_neg hp, List.append_nil]
        exact s3 _ _ d1
  · rintro H ⟨s1, d1⟩
    subst hn
    rw [List.take_length] at d1
    exact hd H s1 d1
/-- [e for x in xs], each item a new object -/
theorem lc_n {R : Hp → α → Addr → Prop} (w : Walk J n G (YAt (ys.map c))) (hn : n = ys.length) (hD : H1 D = none) (hG : ∀ H', Same H1 H' → G H') (hz : ys.length ≤ sizeLine)
    (hR : ∀ H H' y a, R H y a → a ≠ D → (∀ b o, b ≠ D → H b = some o → H' b = some o) → R H' y a)
    (turn : ∀ (i : Nat) (y : α) (H' : Hp) (k : VK), ys[i]? = some y → Same H1 H' → (∀ H4 a, Same H' H4 → H' a = none → R H4 y a → k (.ref a) H4) → te ((wipe σ vs).set j (some (c y))) H' k)
    (hd : ∀ (H' : Hp) (as : List Addr), Same H1 H' → H' D = some (.lst (as.map V.ref)) → as.length = ys.length → (∀ (i : Nat) a y, as[i]? = some a → ys[i]? = some y → R H' y a ∧ a ≠ D ∧ H1 a = none) → Qd H') (hw : ∀ v, wipe ((wipe σ vs).set j (some v)) vs = wipe σ vs := by intro _; rfl) :
    ∃ W : Nat → Nat → Hp → Prop, (∃ m, W 0 m (upd H1 D (.lst []))) ∧ ∀ i m H, W i m H →
      (J.stop i H ∧ Qd H) ∨ (J.go i H ∧ ∃ Nx : Hp → Prop, (∀ H', Nx H' → ∃ m', m' < m ∧ W (i + 1) m' H') ∧ ∀ x H', J.yld i H x H' → gName j x (wipe σ vs) H' fun σ2 H2 => wipe σ2 vs = wipe σ vs ∧ tYes σ2 H2 fun b H3 =>
        if b = true then te σ2 H3 fun y H4 => ∃ acc, H4 D = some (.lst acc) ∧ acc.length < sizeLine ∧ Nx (upd H4 D (.lst (acc ++ [y]))) else Nx H3) := by
  refine lc_it w (fun i H' => ∃ as : List Addr, Same H1 H' ∧ H' D = some (.lst (as.map V.ref)) ∧ as.length = (ys.take i).length ∧ ∀ (l : Nat) a y, as[l]? = some a → (ys.take i)[l]? = some y → R H' y a ∧ a ≠ D ∧ H1 a = none) ⟨[], Same.new hD, upd_same, rfl, fun l a y z => (nomatch z)⟩ (fun i H' _ ⟨_, z, _⟩ => hG H' z) ?_ ?_
  · rintro i x H H' hi ⟨as, s1, d1, l1, r1⟩ ⟨rfl, hx⟩
    rw [List.getElem?_map] at hx
    cases e : ys[i]? with
    | none => rw [e] at hx; cases hx
    | some y =>
      rw [e] at hx
      obtain rfl := Option.some.inj hx
      have hil := (List.getElem?_eq_some_iff.mp e).1
      have ti : (ys.take i).length = i := by rw [List.length_take]; omega
      refine ⟨hw _, yes_ite (turn i y _ _ e s1 fun H4 a s4 na ra => ⟨_, s4 _ _ d1, ?_, as ++ [a], ?_, ?_, ?_, ?_⟩)⟩
      · rw [List.length_map, l1, ti]; omega
      · exact fun b o z => by
          have nb : b ≠ D := ne_of_none z hD
          rw [upd_ne nb]
          exact s4 _ _ (s1 _ _ z)
      · rw [upd_same, List.map_append]
        rfl
      · rw [List.length_append, l1, ti, List.length_take]; simp; omega
      · have naD : a ≠ D := fun e => by rw [e, d1] at na; cases na
        have k4 : ∀ b o, b ≠ D → H4 b = some o → upd H4 D (.lst (as.map V.ref ++ [V.ref a])) b = some o := fun b o nb z => by rw [upd_ne nb]; exact z
        intro l b z hb hz
        have et : ys.take (i + 1) = ys.take i ++ [y] := by rw [List.take_add_one, e]; rfl
        rw [et] at hz
        rcases Nat.lt_trichotomy l i with hl | hl | hl
        · rw [List.getElem?_append_left (by omega)] at hb hz
          obtain ⟨q1, q2, q3⟩ := r1 l b z hb hz
          refine ⟨hR _ _ _ _ q1 q2 fun c o nc h => k4 _ _ nc (s4 _ _ h), q2, q3⟩
        · subst hl
          rw [List.getElem?_append_right (by omega), l1, ti, Nat.sub_self] at hb
          rw [List.getElem?_append_right (by omega), ti, Nat.sub_self] at hz
          cases Option.some.inj hb
          cases Option.some.inj hz
          refine ⟨hR _ _ _ _ ra naD k4, naD, ?_⟩
          cases e1 : H1 a with
          | none => rfl
          | some o => rw [s1 _ _ e1] at na; cases na
        · rw [List.getElem?_eq_none (by rw [List.length_append, l1, ti]; simp; omega)] at hb
          cases hb
  · rintro H ⟨as, s1, d1, l1, r1⟩
    subst hn
    rw [List.take_length] at l1 r1
    exact hd H as s1 d1 l1 r1
end
/-- over a dict's keys, by their texts -/
theorem walk_kT {β : Type} {g : β → V} {l : List (PySem.Str × β)} {d : Addr} {o : Obj} : Walk (Itk d o (kvT g l)) (keysT l).length (fun H => H d = some (.frz o (.dK (kvT g l)))) (YAt ((keysT l).map V.str)) := by
  have e : (kvT g l).length = (keysT l).length := by unfold kvT keysT; rw [List.length_map, List.length_map]
  rw [← e]
  refine walk_keys.mono (fun _ h => h) ?_
  rintro i H x H' hi _ ⟨rfl, k, v, hk, rfl⟩
  refine ⟨rfl, ?_⟩
  unfold kvT at hk
  rw [List.getElem?_map] at hk
  unfold keysT
  rw [List.getElem?_map, List.getElem?_map]
  cases e2 : l[i]? with
  | none => rw [e2] at hk; cases hk
  | some z =>
    rw [e2] at hk
    cases Option.some.inj hk
    rfl
theorem walk_rng {lo : Int} {n : Nat} : Walk (Itr lo n) n (fun _ => True) (YAt ((List.range n).map fun i => V.int (lo + (i : Nat)))) := by
  refine walk_range.mono (fun _ h => h) ?_
  rintro i H x H' hi _ ⟨rfl, rfl⟩
  refine ⟨rfl, ?_⟩
  rw [List.getElem?_map, List.getElem?_range hi]
  rfl
theorem map_bl (p : α → Bool) (l : List α) : l.map (fun x => V.bl (p x)) = (l.map p).map V.bl := by rw [List.map_map]; rfl
theorem all_map_id {α : Type} (p : α → Bool) (l : List α) : (l.map p).all id = l.all p := by rw [List.all_map]; rfl
theorem any_map_id {α : Type} (p : α → Bool) (l : List α) : (l.map p).any id = l.any p := by rw [List.any_map]; rfl
end Mc
namespace Mc
open PySem L2 PySem.Spec PyProof.Rows FbM
/-! ### sorted(d, key=o.m), d a dict with text keys, m a method that gives an int and the key -/
/-- a method that is taken as a value -/
def CalB (P : Program) (w : World) (K : PySem.W.Frag) (mg : PySem.Str → Option Value) (base : Heap) (C : Addr) (k : Nat) (m : PySem.Str) (ps : List PySem.Str) (sp : Sp) : Prop :=
  ∃ (f : Addr) (fd : FuncData), BMeth K C m f ∧ Binds K fd ps [] ∧ FnOk P w K mg base CX0 k f fd ps sp
def kdM (kf : PySem.Str → Int) (x : PySem.Str) : PyData := .tuple [.int (kf x), .str x]
/-- what is asked of the method at each key -/
def RankOk (sp : Sp) (o : Addr) (kf : PySem.Str → Int) (ks : List PySem.Str) (H : Hp) : Prop :=
  ∀ x ∈ ks, ∀ H', Same H H' → sp [.ref o, .str x] H' (fun v H2 => ∃ p, v = .ref p ∧ H' p = none ∧ H2 = upd H' p (.tup [.int (kf x), .str x])) E0
/-- the heap with the object at k thrown away: the records behind a call of ours -/
def rid (h : Heap) (k : Addr) : Heap := h.update k fun _ => { cls := .none, data := .freed }
theorem rid_none {h : Heap} {k : Addr} : (rid h k).get? k = none := by
  by_cases hk : k < h.objs.size
  · unfold rid Heap.get?
    rw [Heap.objs_update_self, Array.getElem?_eq_getElem hk]
    rfl
  · refine Heap.get?_none_of_le ?_
    unfold rid
    rw [Heap.size_update]
    exact Nat.le_of_not_lt hk
theorem rid_ne {h : Heap} {k b : Addr} (n : b ≠ k) : (rid h k).get? b = h.get? b := Heap.get?_update_ne _ _ _ _ n
section
variable {X : Cx} {pins : List (Addr × Obj)} {σ : L2.St} {H : Hp} {s : Shared} {k : Nat} {g o q a kS : Addr} {fd : FuncData} {ps : List PySem.Str} {sp : Sp} {kf : PySem.Str → Int} {ks : List PySem.Str} {vs : List Value} {A : Around} {E : Value → Shared → Prop} {e1 : Nat} {P : PySem.Fin → Shared → Prop}
theorem tup_reads {h : Heap} {p : Addr} {H : Hp} {n : Int} {x : PySem.Str} (hok : HOk X.prog X.w H h) (e : H p = some (.tup [.int n, .str x])) : Reads h (.ref p) (.tuple [.int n, .str x]) [] := by
  obtain ⟨_, its, rv, ob, ho, hc, nn, hd⟩ := hok p _ e
  obtain ⟨v1, v2, rfl, r1, r2⟩ := vals2 rv
  obtain ⟨t1, rfl⟩ := r1
  obtain ⟨t2, rfl⟩ := r2
  exact .tuple ho hc hd (.cons (.int _ _) (.cons (.str _ _) .nil))
theorem km_rest (hr : Room k A) (hA : A.frames = some X.stack) (hb : Binds X.K fd ps []) (F : FnOk X.prog X.w X.K X.mg X.base CX0 k g fd ps sp) (I : Inv X pins σ H s) (hq : H q = some (.met g o)) (ra : Rec X pins a) (rk : Rec X pins kS) (na : H a = none) (nk : H kS = none)
    (hka : kS ≠ a) (ek : s.heap.get? kS = some (seqObj "list" #[] 0)) (ea : s.heap.get? a = some (seqObj "list" #[] e1)) (hv : StrsAre vs ks) (h64 : ks.length < 64) (turn : RankOk sp o kf ks H)
    (done : ∀ s' H' out c, Inv X pins σ H' s' → Same H H' → H' a = none → s'.heap.get? a = some (seqObj "list" (List.toArray out) c) → PySem.W.KeyedOut false (ks.map (kdM kf)) vs out → P (.done (.ret .none)) s') :
    wpAny (model X.prog X.w) A (ksk_rest a (.ref q) false vs.toArray e1 (.ref kS)) P E s := by
  have hlen : vs.length = ks.length := hv.len_eq
  have h16 : vs.length ≤ sizeLine := by rw [hlen, sizeLine_eq]; omega
  unfold ksk_rest
  refine wpAny_bind (wpAny_rule ?_)
  rw [List.forIn_toArray]
  refine wpAny_bind (ksk_fold (fun i s' => ∃ H' kA e, Inv X pins σ H' s' ∧ Same H H' ∧ H' a = none ∧ H' kS = none ∧ s'.heap.get? kS = some (seqObj "list" kA e) ∧ s'.heap.get? a = some (seqObj "list" #[] e1) ∧
    PySem.W.EachIs (fun v x => ∃ p, v = Value.ref p ∧ H' p = some (.tup [.int (kf x), .str x])) kA.toList (ks.take i)) vs 0 s ⟨H, #[], 0, I, fun _ _ h => h, na, nk, ek, ea, by rw [List.take_zero]; exact PySem.W.EachIs.nil⟩ ?step ?done)
  case step =>
    rintro j x s' hx ⟨H', kA, e, I', sm, na', nk', ek', ea', hk⟩
    rw [Nat.zero_add] at hk ⊢
    obtain ⟨y, t, rfl, hy⟩ := hv.item j x hx
    have hz : kA.size ≤ ks.length := by
      have h1 := hk.length
      rw [Array.length_toList, List.length_take] at h1
      omega
    have h64' : kA.size < 64 := by omega
    have em := sm q _ hq
    have e0 := I'.env0
    have e1' : Env0 X.prog X.w X.K X.mg X.base A X.stack s' H' := ⟨hA, e0.mod, e0.bs, e0.bsz, e0.funs, e0.frf, e0.hok, e0.bare⟩
    have D := turn y (List.mem_of_getElem? hy) H' sm
    have hl2 : ([Value.ref o, .str y t] ++ []).length = ps.length := F.len _ _ _ _ D
    have bt := hb s' [Value.ref o, .str y t] I'.kIn hl2
    rw [List.append_nil] at bt
    refine wpAny_bind (wpAny_attempt ?_)
    refine wpAny_call (PySem.W.method_call (I'.hok q _ em) (codeAny_mono (F.run A X.stack s' H' ⟨[.ref o, .str y t], []⟩ _ [.ref o, .str y] _ E0 hr e1' bt (.cons rfl (.cons ⟨t, rfl⟩ .nil)) D) fun rr s2 hrr => ?_))
    cases rr with
    | error er => exact False.elim hrr
    | ok fl =>
      cases fl with
      | next => exact False.elim hrr
      | brk => exact False.elim hrr
      | cont => exact False.elim hrr
      | ret v =>
        obtain ⟨v', H2, os, bare, un, hok, rv', p, ev, hp, eH⟩ := (show CE X.stack X.prog X.w H' s' _ v s2 from hrr)
        subst ev
        cases rv'
        have I2 : Inv X pins σ H2 s2 := I'.call' os un hok bare (fun b z => absurd z List.not_mem_nil)
        have sm2 : Same H' H2 := fun b u e => by
          rw [eH, upd_ne (ne_of_none e hp)]
          exact e
        have keep : ∀ {b : Addr} {ob : Obj}, Rec X pins b → H' b = none → s'.heap.get? b = some ob → s2.heap.get? b = some ob := fun rb ub eb => un.keep _ _ eb ub rb.fr List.not_mem_nil
        have fr2 : ∀ {b : Addr} {ob : Obj}, H' b = none → s'.heap.get? b = some ob → H2 b = none := fun ub eb => un.free _ _ eb ub List.not_mem_nil
        have nk2 := keep rk nk' ek'
        have na2 := keep ra na' ea'
        have uk2 := fr2 nk' ek'
        have ua2 := fr2 na' ea'
        try dsimp only
        obtain ⟨h2, g2, d2, t2, o2⟩ := s2
        obtain ⟨c2, hc2⟩ : ∃ c2, (h2.update kS (Obj.mapSeq (·.push (.ref p)))).get? kS = some (seqObj "list" (kA.push (.ref p)) c2) := ⟨_, get?_update_seq nk2 (·.push (.ref p))⟩
        have sb : Heap.SameBut kS h2 (h2.update kS (Obj.mapSeq (·.push (.ref p)))) := Heap.SameBut.update ..
        refine wpAny_bind (listUpdate_at nk2 rfl ?_ (by rw [sizeLine_eq]; omega) (by rw [Array.size_push, sizeLine_eq]; omega))
        refine wpAny_pure ⟨rfl, H2, kA.push (.ref p), c2, rk.turn (t' := t2) I2 uk2 fun c ob hc e => sb.extBut c ob hc e, fun b u e => sm2 b u (sm b u e), ua2, uk2, hc2, sb.extBut _ _ hka.symm na2, ?_⟩
        have ek3 : ks.take (j + 1) = ks.take j ++ [y] := by rw [List.take_add_one, hy]; rfl
        have ea3 : (kA.push (Value.ref p)).toList = kA.toList ++ [.ref p] := by simp
        rw [ek3, ea3]
        refine PySem.W.each_snoc ⟨p, rfl, by rw [eH, upd_same]⟩ (hk.mono fun u d z => ?_)
        obtain ⟨p', ep, z⟩ := z
        exact ⟨p', ep, sm2 _ _ z⟩
  case done =>
    rintro s' ⟨H', kA, e, I', sm, na', nk', ek', ea', hk⟩
    have hk' : PySem.W.EachIs (fun v k => ∃ as, Reads s'.heap v k as) kA.toList (ks.map (kdM kf)) := by
      have e3 : ks.take (0 + vs.length) = ks := List.take_of_length_le (by omega)
      rw [e3] at hk
      refine PySem.W.each_map (kdM kf) (hk.mono fun v x z => ?_)
      obtain ⟨p, rfl, z⟩ := z
      exact ⟨[], tup_reads I'.hok z⟩
    have hsz : kA.size = vs.length := by
      have h1 := hk'.length
      rw [Array.length_toList, List.length_map] at h1
      omega
    refine wpAny_bind (listItems_at ek' rfl ?_)
    have hal : PySem.W.AllAlike (ks.map (kdM kf)) := PySem.W.AllAlike.of fun _ _ => by simp [kdM, PySem.W.alike, PySem.W.alikeAll]
    refine PySem.W.keyH_end (κ := PySem.W.dataKind s'.heap (ks.map (kdM kf))) (h₁ := rid s'.heap kS) (b := false) (fun b ob hb z => ?_) rid_none ek' ea' hka (PySem.W.SortsAt.data hk' hal (PySem.W.Sortable.tuples fun _ => ⟨_, _, rfl⟩) ?_) hsz h16 fun h' tk c kp hD => ?_
    · by_cases hbk : b = kS
      · subst hbk
        rw [rid_none] at z
        cases z
      · exact (rid_ne hbk).symm.trans z
    · intro d hd
      obtain ⟨x, _, rfl⟩ := List.mem_map.mp hd
      have h2 : (kdM kf x).depth = 1 := by simp [kdM, PyData.depth, PyData.depthAll]
      have := hr.units
      omega
    · have keep : ∀ b ob, b ≠ a → b ≠ kS → s'.heap.get? b = some ob → h'.get? b = some ob := fun b ob ha hk z => kp b ob ha ((rid_ne hk).trans z)
      have nb : ∀ {b u}, H' b = some u → b ≠ a ∧ b ≠ kS := fun {b u} z => ⟨fun e => (by rw [e, na'] at z; cases z), fun e => (by rw [e, nk'] at z; cases z)⟩
      refine done _ H' (PySem.W.sortVals (PySem.W.dataKind s'.heap (ks.map (kdM kf))) false kA.toList vs) c ?_ sm na' hD ⟨s'.heap, kA.toList, hal, rfl, hk'⟩
      obtain ⟨h1, g1, d1, t1, o1⟩ := s'
      refine I'.call' (ch := [a, kS]) rfl ⟨fun b ob z n _ hx => ?_, fun b ob z n _ hx => ⟨ob.slots, ?_⟩, fun b ob z n hx => n, fun b ob z hx => ⟨ob, ?_⟩, fun b xs z => z, fun b ob u z => z, fun b pz z => ⟨#[], by rw [z]; simp⟩⟩ (fun b u z => ?_) I'.bare fun b hb => ?_
      · exact keep b ob (fun e => hx (by simp [e])) (fun e => hx (by simp [e])) z
      · exact keep b ob (fun e => hx (by simp [e])) (fun e => hx (by simp [e])) z
      · exact keep b ob (fun e => hx (by simp [e])) (fun e => hx (by simp [e])) z
      · refine (I'.hok b u z).stay (fun cc v hc q => ?_) (fun _ q => q) fun _ _ q => q
        rcases hc with e | e
        · rw [e] at q ⊢
          exact keep b v (nb z).1 (nb z).2 q
        · exact keep cc v (nb e).1 (nb e).2 q
      · rcases List.mem_cons.mp hb with e | e
        · subst e
          exact ⟨.inr ra.ge, ra.nl, ra.ce, ra.pn⟩
        · obtain rfl := List.mem_singleton.mp e
          exact ⟨.inr rk.ge, rk.nl, rk.ce, rk.pn⟩
/-- what lies raw is named -/
theorem adopt {ob : HO} (I : Inv X pins σ H s) (ra : Rec X pins a) (na : H a = none) (new : ObjOk X.prog X.w (upd H a ob) s.heap a ob) : Inv X pins σ (upd H a ob) s := by
  have ne : ∀ {b u}, H b = some u → b ≠ a := fun {b u} z e => by rw [e, na] at z; cases z
  refine I.call' (ch := [a]) rfl ⟨fun b u z _ _ _ => z, fun b u z _ _ _ => ⟨u.slots, z⟩, fun b u z n hx => ?_, fun b u z _ => ⟨u, z⟩, fun b xs z => ?_, fun b u v z => ?_, fun b pz z => ⟨#[], ?_⟩⟩ (fun b u z => ?_) I.bare fun b hb => ?_
  · rw [upd_ne fun e => hx (by simp [e])]
    exact n
  · rw [upd_ne (ne z)]
    exact z
  · rw [upd_ne (ne z)]
    exact z
  · rw [upd_ne (ne z), z]
    simp
  · by_cases e : b = a
    · subst e
      rw [upd_same] at z
      cases z
      exact new
    · rw [upd_ne e] at z
      exact (I.hok b u z).stay (fun _ _ _ q => q) (fun c q => by rw [upd_ne (ne q)]; exact q) fun c xs q => by rw [upd_ne (ne q)]; exact q
  · obtain rfl := List.mem_singleton.mp hb
    exact ⟨.inr ra.ge, ra.nl, ra.ce, ra.pn⟩
theorem each_vals : ∀ {vs : List Value} {ys : List PySem.Str}, PySem.W.EachIs (fun v x => ∃ t, v = Value.str x t) vs ys → Vals (ys.map V.str) vs
  | _, _, .nil => .nil
  | _, _, .cons ⟨t, e⟩ r => .cons ⟨t, e⟩ (each_vals r)
theorem each_strs : ∀ {vs : List Value} {ys : List PySem.Str}, StrsAre vs ys → PySem.W.EachIs (fun v x => ∃ t, v = Value.str x t) vs ys
  | _, _, .nil => .nil
  | _, _, .cons y t r => .cons ⟨t, rfl⟩ (each_strs r)
/-- the order of the keys: the less number first, of one number by name -/
def rkLe (kf : PySem.Str → Int) (x y : PySem.Str) : Prop := kf x < kf y ∨ (kf x = kf y ∧ ¬ ltN y x)
theorem kdM_le {x y : PySem.Str} : PySem.W.dataLe false (kdM kf) x y = true ↔ rkLe kf x y := by
  show (!PySem.W.dataLt (kdM kf y) (kdM kf x)) = true ↔ _
  unfold kdM
  rw [PySem.W.dataLt_pair (by simp [PySem.W.alike]) (by simp [PySem.W.alike]), PySem.W.dataLt_int, PySem.W.dataLt_str]
  unfold rkLe ltN
  simp only [PyData.eqv, beq_iff_eq]
  by_cases h1 : kf y = kf x
  · rw [if_pos h1]
    by_cases h2 : y = x
    · subst h2
      simp
    · simp [h2, h1]
  · rw [if_neg h1]
    have : ¬ kf x = kf y := fun z => h1 z.symm
    simp only [Bool.not_eq_true', decide_eq_false_iff_not, this, false_and, or_false]
    omega
theorem kdM_sorted (ks : List PySem.Str) : (ks.mergeSort (PySem.W.dataLe false (kdM kf))).Pairwise (rkLe kf) := by
  refine List.Pairwise.imp (fun {a b} z => kdM_le.mp z) (List.pairwise_mergeSort (fun a b c h1 h2 => ?_) (fun a b => ?_) ks)
  · rw [kdM_le] at *
    unfold rkLe ltN at *
    rcases h1 with h1 | ⟨h1, h1'⟩ <;> rcases h2 with h2 | ⟨h2, h2'⟩
    · exact .inl (by omega)
    · exact .inl (by omega)
    · exact .inl (by omega)
    · exact .inr ⟨by omega, List.not_lt.mpr (List.le_trans (List.not_lt.mp h1') (List.not_lt.mp h2'))⟩
  · rw [Bool.or_eq_true, kdM_le, kdM_le]
    unfold rkLe ltN
    by_cases e : kf a = kf b
    · rcases List.le_total a.cps.toList b.cps.toList with h | h
      · exact .inl (.inr ⟨e, List.not_lt.mpr h⟩)
      · exact .inr (.inr ⟨e.symm, List.not_lt.mpr h⟩)
    · omega
theorem sortedKM (hcalm : X.calm = true) (hr : Room k X.A.in1.in1) (hb : Binds X.K fd ps []) (F : FnOk X.prog X.w X.K X.mg X.base CX0 k g fd ps sp) {d : Addr} {kvs : List (Key × V)} {Q : VK} (I : Inv X pins σ H s) (hd : Rd H d (.dK kvs)) (hks : kvs.map (·.1) = ks.map Sum.inr) (h64 : ks.length < 64)
    (hq : H q = some (.met g o)) (turn : RankOk sp o kf ks H) (fin : ∀ (ys : List PySem.Str) p H', Same H H' → ys.Perm ks → ys.Pairwise (rkLe kf) → H' p = none → Q (.ref p) (upd H' p (.lst (ys.map V.str)))) :
    wpAny (model X.prog X.w) X.A (call (.builtin "sorted") [.ref d] [(PySem.Str.ofString "key", .ref q)]) (EP X pins σ Q) X.xe s := by
  obtain ⟨z, lo, vs, rel, dd⟩ := dk_rd I.hok hd
  obtain ⟨ep, hat⟩ := dd.dictAt
  have hkeys : vs.map (·.1) = ks.map Sum.inr := rel.keys.symm.trans hks
  have hl : vs.length = ks.length := by
    have e := congrArg List.length hkeys
    rw [List.length_map, List.length_map] at e
    exact e
  have h16 : vs.length ≤ sizeLine := by rw [hl, sizeLine_eq]; omega
  refine call_function_entry_kw kind_sorted plain_sorted entry_sorted (ksk_s1 _ _) ?_
  unfold Builtin.«sorted»
  refine wpAny_bind (m := checkCount "sorted" 1 1 _) (wpAny_pure ?_)
  refine wpAny_bind (PySem.W.kdu_collect (A := X.A.in1) (PySem.W.kdl_dict (knd := mixKind X.prog X.w) (kvs := vs) (ep := ep) lo) (I.ok.hd hcalm) hat h16 fun h1 tk acc hk hacc => ?_)
  have hal : acc.toList.length = ks.length := by rw [Array.length_toList, hacc.1, hl]
  have hS : StrsAre acc.toList ks := strs_at hal fun j v e => by
    obtain ⟨kx, x, w1, w2⟩ := hacc.2 j v (by rw [← Array.getElem?_toList]; exact e)
    have w3 : (vs.map (·.1))[j]? = some kx := by rw [List.getElem?_map, w1]; all_goals rfl
    rw [hkeys, List.getElem?_map] at w3
    cases w4 : ks[j]? with
    | none => rw [w4] at w3; cases w3
    | some y =>
      rw [w4] at w3
      obtain rfl : Sum.inr y = kx := Option.some.inj w3
      obtain ⟨t, ev⟩ := Value.isStrOf_shape (x := y) (v := v) w2
      exact ⟨y, t, rfl, ev⟩
  have I1 : Inv X pins σ H { s with heap := h1, toks := tk } := I.kept hk
  refine wpAny_bind (wpAny_newList ?_ (by rw [hal, sizeLine_eq]; omega))
  have hoL : (h1.push (seqObj "list" acc.toList.toArray 0)).get? h1.objs.size = some (seqObj "list" acc.toList.toArray 0) := Heap.get?_push_size _ rfl
  have I2 : Inv X pins σ H { s with heap := h1.push (seqObj "list" acc.toList.toArray 0), toks := tk } := I1.kept (t' := tk) fun b u e => Heap.get?_push_of_some _ e
  have ra : Rec X pins h1.objs.size := rec_new I1 (Nat.le_refl _)
  have na : H h1.objs.size = none := I1.hok.fresh (Nat.le_refl _)
  show wpAny _ _ _ _ _ { s with heap := h1.push (seqObj "list" acc.toList.toArray 0), toks := tk }
  refine wpAny_bind (wpAny_holding (wpAny_call_entry_kw slot_list_sort ⟨_, hoL, rfl⟩ entry_list_sort ?body (ksk_l1 _ _)))
  case body =>
    rw [ksk_t1]
    unfold ksk_tree
    refine wpAny_bind (listItems_at hoL rfl ?_)
    have hz : acc.toList.toArray.size ≤ sizeLine := by rw [List.size_toArray, hal, sizeLine_eq]; omega
    refine wpAny_bind (listUpdate_at hoL rfl ?_ hz (Nat.zero_le _))
    obtain ⟨e1, ho1⟩ : ∃ e1, ((h1.push (seqObj "list" acc.toList.toArray 0)).update h1.objs.size (Obj.mapSeq fun _ => (#[] : Array Value))).get? h1.objs.size = some (seqObj "list" #[] e1) := ⟨_, get?_update_seq hoL fun _ => #[]⟩
    refine wpAny_bind (seqEpoch_at ho1 rfl ?_)
    refine wpAny_bind (wpAny_newTuple ?_ (by show acc.toList.length ≤ _; rw [hal, sizeLine_eq]; omega))
    refine wpAny_bind (wpAny_newList ?_ (Nat.zero_le _))
    refine wpAny_holding ?_
    have sb : Heap.SameBut h1.objs.size (h1.push (seqObj "list" acc.toList.toArray 0)) ((h1.push (seqObj "list" acc.toList.toArray 0)).update h1.objs.size (Obj.mapSeq fun _ => (#[] : Array Value))) := Heap.SameBut.update ..
    have I3 := ra.turn (t' := tk) I2 na fun c ob hc e => sb.extBut c ob hc e
    have I4 := I3.kept (t' := tk) fun b u e => Heap.get?_push_of_some (seqObj "tuple" acc.toList.toArray 0) e
    have I5 := I4.kept (t' := tk) fun b u e => Heap.get?_push_of_some (seqObj "list" #[] 0) e
    have lt1 : h1.objs.size < (((h1.push (seqObj "list" acc.toList.toArray 0)).update h1.objs.size (Obj.mapSeq fun _ => (#[] : Array Value))).push (seqObj "tuple" acc.toList.toArray 0)).objs.size := by
      rw [size_push', Heap.size_update, size_push']
      omega
    refine km_rest (fd := fd) (ps := ps) (sp := sp) (k := k) (g := g) (o := o) (kf := kf) (ks := ks) hr I.ok.frames hb F I5 hq ra (rec_new I4 (Nat.le_refl _)) na (I4.hok.fresh (Nat.le_refl _)) (Nat.ne_of_gt lt1) (Heap.get?_push_size _ rfl)
      (Heap.get?_push_of_some _ (Heap.get?_push_of_some _ ho1)) hS h64 turn fun s' H' out c J sm na' hD ko => ?_
    have eo := PySem.W.keyedOut_each (kdM kf) ko (each_strs hS)
    have pm := List.mergeSort_perm ks (PySem.W.dataLe false (kdM kf))
    have hlo : (ks.mergeSort (PySem.W.dataLe false (kdM kf))).length ≤ sizeLine := by rw [pm.length_eq, sizeLine_eq]; omega
    refine ⟨_, rfl, wpAny_pure ⟨_, rfl, .ref h1.objs.size, upd H' h1.objs.size (.lst ((ks.mergeSort (PySem.W.dataLe false (kdM kf))).map V.str)), adopt J ra na' ⟨?_, out, c, each_vals eo, hD⟩, rfl, fin _ _ H' sm pm (kdM_sorted ks) na'⟩⟩
    rw [List.length_map]
    exact hlo
end
/-- sorted(e, key=o.m) -/
def tSrtM (C : Addr) (m : PySem.Str) (sp : Sp) (ta to : TE) : TE := fun σ H Q => ta σ H fun x H1 => to σ H1 fun y H2 => ∃ (d a dx : Addr) (kvs : List (Key × V)) (fs : List (PySem.Str × V)) (ks : List PySem.Str) (kf : PySem.Str → Int), x = .ref d ∧ y = .ref a ∧ H2 a = some (.ins C dx fs) ∧ fs.lookup m = none ∧
  Rd H2 d (.dK kvs) ∧ kvs.map (·.1) = ks.map Sum.inr ∧ ks.length < 64 ∧ RankOk sp a kf ks H2 ∧ ∀ (ys : List PySem.Str) p H', Same H2 H' → ys.Perm ks → ys.Pairwise (rkLe kf) → H' p = none → Q (.ref p) (upd H' p (.lst (ys.map V.str)))
section
variable {X : Cx} {k : Nat} {C : Addr} {m : PySem.Str} {ps : List PySem.Str} {sp : Sp} {e o : Expr} {ta to : TE} {p pos apos kpos : Pos}
theorem pe_srtM (hcalm : X.calm = true) (cl : Cls X.K C) (c : CalB X.prog X.w X.K X.mg X.base C k m ps sp) (hr : Room (k + 2) X.A) (hg : Gl X "sorted") (hm : X.mg "sorted" = none) (he : PE X e ta) (ho : PE X o to)
    (hs1 : starEach [e] X.env = (false, eval e X.env) :: starEach [] X.env := by rfl) (hb : attributeBase o m X.env (eval o X.env) = eval o X.env := by rfl)
    (hst : backTo pos (starEach [e] X.env) = (false, eval e X.env) :: backTo pos (starEach [] X.env) := by rfl) (hpl : (backTo pos (starEach [e] X.env)).any (·.1) = false := by rfl)
    (hall : (backToKw pos (keywordEach [⟨some "key", .Attribute o m apos, kpos⟩] X.env)).all (·.1.isSome) = true := by rfl) (hno : (backToKw pos (keywordEach [⟨some "key", .Attribute o m apos, kpos⟩] X.env)).any (·.1.isNone) = false := by rfl)
    (hks : (backToKw pos (keywordEach [⟨some "key", .Attribute o m apos, kpos⟩] X.env)).filterMap (·.1) = [PySem.Str.ofString "key"] := by rfl) :
    PE X (.Call (.Name "sorted" p) [e] [⟨some "key", .Attribute o m apos, kpos⟩] pos) (tSrtM C m sp ta to) := by
  obtain ⟨g, fd, B, hbd, F⟩ := c
  have rule : CallRK X (.builtin "sorted") [PySem.Str.ofString "key"] (fun vs zs H Q => ∃ (d q a : Addr) (kvs : List (Key × V)) (ks : List PySem.Str) (kf : PySem.Str → Int), vs = [.ref d] ∧ zs = [.ref q] ∧ H q = some (.met g a) ∧
      Rd H d (.dK kvs) ∧ kvs.map (·.1) = ks.map Sum.inr ∧ ks.length < 64 ∧ RankOk sp a kf ks H ∧ ∀ (ys : List PySem.Str) p H', Same H H' → ys.Perm ks → ys.Pairwise (rkLe kf) → H' p = none → Q (.ref p) (upd H' p (.lst (ys.map V.str)))) := by
    intro pins s σ H vs zs us ws Q I r rz h
    obtain ⟨d, q, a, kvs, ks, kf, rfl, rfl, hq, hd, hk, h64, tu, fin⟩ := h
    obtain rfl := Vals.ref1 r
    obtain rfl := Vals.ref1 rz
    exact sortedKM hcalm hr.in1.in1 hbd F I hd hk h64 hq tu fin
  refine ⟨fun pins s σ H Q I h => ?_⟩
  refine wpAny_Call_Name_kw (ld_blt I hg hm rfl ?_ (by decide) (by decide))
  show wpAny _ _ (callWith pos (.builtin "sorted") [] _ _) _ _ _
  refine callWith_kw (thn ((pa_cons he pa_nil hs1).run pos pins s σ H (fun vs H1 => match vs with
    | [x] => to σ H1 fun y H2 => ∃ (d a dx : Addr) (kvs : List (Key × V)) (fs : List (PySem.Str × V)) (ks : List PySem.Str) (kf : PySem.Str → Int), x = .ref d ∧ y = .ref a ∧ H2 a = some (.ins C dx fs) ∧ fs.lookup m = none ∧ Rd H2 d (.dK kvs) ∧ kvs.map (·.1) = ks.map Sum.inr ∧
        ks.length < 64 ∧ RankOk sp a kf ks H2 ∧ ∀ (ys : List PySem.Str) p H', Same H2 H' → ys.Perm ks → ys.Pairwise (rkLe kf) → H' p = none → Q (.ref p) (upd H' p (.lst (ys.map V.str)))
    | _ => False) I h) fun us s1 hu => ?_) hst hpl hall hno
  obtain ⟨vs, H1, I1, r1, q1⟩ := hu
  match vs, q1 with
  | [x], q1 =>
    refine wpAny_evalAll_cons (wpAny_bind (attr_of hb (thn (ho.run pins s1 σ H1 _ I1 q1) fun u s2 hu => ?_)))
    obtain ⟨y, H2, I2, r2, d, a, dx, kvs, fs, ks, kf, rfl, rfl, ea, l, hd, hk, h64, tu, fin⟩ := hu
    cases r2
    refine getbound_ok I2 ea cl B l fun q s3 hq I3 => wpAny_bind (wpAny_standAt (wpAny_pure ?_))
    refine wpAny_evalAll_nil ?_
    rw [hks]
    obtain rfl := Vals.ref1 r1
    have sm : Same H2 (upd H2 q (.met g a)) := fun b u e => by rw [upd_ne (ne_of_none e hq)]; exact e
    exact sortedKM hcalm hr.in1.in1 hbd F I3 (hd.elim (fun z => .inl (sm _ _ z)) fun ⟨ob, z⟩ => .inr ⟨ob, sm _ _ z⟩) hk h64 upd_same (fun x hx H' k => tu x hx H' fun b u e => k b u (sm b u e)) fun ys p H' k => fin ys p H' fun b u e => k b u (sm b u e)
end
end Mc
namespace Mc
open PySem L2 PySem.Spec PyProof.Rows
/-! < and <= of pairs (a number, a text) -/
section
variable {X : Cx}
def rPair (R : (PySem.Str → Int) → PySem.Str → PySem.Str → Prop) : R2 := fun x y H Q => ∃ (a b : Addr) (kf : PySem.Str → Int) (s t : PySem.Str), x = .ref a ∧ y = .ref b ∧ H a = some (.tup [.int (kf s), .str s]) ∧ H b = some (.tup [.int (kf t), .str t]) ∧ ∀ v : Bool, (v = true ↔ R kf s t) → Q (.bl v) H
theorem kdM_alike (kf : PySem.Str → Int) (s t : PySem.Str) : PySem.W.alike (kdM kf s) (kdM kf t) = true := by simp [kdM, PySem.W.alike, PySem.W.alikeAll]
theorem kdM_depth (kf : PySem.Str → Int) (s : PySem.Str) : (kdM kf s).depth = 1 := by simp [kdM, PyData.depth, PyData.depthAll]
theorem op_leP (hu : X.A.units + 1 < cLine) : OpR X (compareOp .LtE) (rPair rkLe) := by
  intro pins s σ H x y v u Q I rx ry h
  obtain ⟨a, b, kf, p, q, rfl, rfl, ha, hb, k⟩ := h
  cases rx
  cases ry
  refine PySem.W.le_data (tup_reads I.hok ha) (tup_reads I.hok hb) (kdM_alike kf p q) (by intro e; cases e) (by rw [show PyData.depth (.tuple [.int (kf p), .str p]) = 1 from kdM_depth kf p, show PyData.depth (.tuple [.int (kf q), .str q]) = 1 from kdM_depth kf q]; exact hu) ?_
  exact ⟨.bl _, H, I, rfl, k _ kdM_le⟩
theorem op_ltP (hu : X.A.units + 1 < cLine) : OpR X (compareOp .Lt) (rPair fun kf s t => ¬ rkLe kf t s) := by
  intro pins s σ H x y v u Q I rx ry h
  obtain ⟨a, b, kf, p, q, rfl, rfl, ha, hb, k⟩ := h
  cases rx
  cases ry
  refine PySem.W.lt_data (tup_reads I.hok ha) (tup_reads I.hok hb) (kdM_alike kf p q) (by intro e; cases e) (by rw [show PyData.depth (.tuple [.int (kf p), .str p]) = 1 from kdM_depth kf p, show PyData.depth (.tuple [.int (kf q), .str q]) = 1 from kdM_depth kf q]; exact hu) ?_
  refine ⟨.bl _, H, I, rfl, k _ ?_⟩
  have e : (!PySem.W.dataLt (kdM kf p) (kdM kf q)) = true ↔ rkLe kf q p := kdM_le
  show PySem.W.dataLt (kdM kf p) (kdM kf q) = true ↔ ¬ rkLe kf q p
  rw [← e]
  cases PySem.W.dataLt (kdM kf p) (kdM kf q) <;> simp
end
end Mc
namespace Mc
open PySem L2 PySem.Spec PyProof.Rows Evl
/-! ### what evaluates to what, further: fields, dicts, calls, comprehensions -/
theorem has_T {β : Type} {f : β → V} {l : List (PySem.Str × β)} {k : PySem.Str} : (valV (kvT f l) (Sum.inr k)).isSome = decide (k ∈ keysT l) := by
  cases e : getT l k with
  | none =>
    have h1 := getT_none.mp e
    have h2 : valV (kvT f l) (Sum.inr k) = none := by rw [val_T, e]; rfl
    rw [h2, decide_eq_false h1]
    rfl
  | some v =>
    have h1 : k ∈ keysT l := List.mem_map.mpr ⟨_, getT_in e, rfl⟩
    have h2 : valV (kvT f l) (Sum.inr k) = some (f v) := by rw [val_T, e]; rfl
    rw [h2, decide_eq_true h1]
    rfl
theorem dgetK {H : Hp} {a : Addr} {kvs : List (L2.Key × V)} {x : PySem.Str} (e : Rd H a (.dK kvs)) : DGet H a (.str x) (valV kvs (Sum.inr x)) := .inl ⟨kvs, Sum.inr x, e, rfl, rfl⟩
instance (f : PySem.Str → Int) (x y : PySem.Str) : Decidable (rkLe f x y) := by unfold rkLe ltN; exact inferInstance
theorem inV_str {x : PySem.Str} {xs : List PySem.Str} : inV (.str x) (xs.map V.str) = decide (x ∈ xs) := by
  unfold inV
  induction xs with
  | nil => rfl
  | cons y ys ih =>
    rw [List.map_cons, List.any_cons, ih]
    by_cases e : x = y
    · subst e
      have : eqV (V.str x) (V.str x) = true := by simp [eqV]
      simp [this]
    · have : eqV (V.str y) (V.str x) = false := by
        simp [eqV]
        exact fun z => e z.symm
      simp [this, e]
theorem flat_strs (xs : List PySem.Str) : (xs.map V.str).all flatV = true := by
  rw [List.all_map, List.all_eq_true]
  exact fun x _ => rfl
section
variable {K : PySem.W.Frag} {σ : L2.St} {H H' : Hp} {ta tb te tx to td ty tl : TE} {t u : TT} {x y z v : V} {r : R2}
theorem EvU.mono {xs : List V} (e : Ex H H') (h : EvU te σ H xs) : EvU te σ H' xs := fun H1 a Q q => h H1 (e.trans a) Q q
theorem ev_fld {p C dx : Addr} {fs : List (PySem.Str × V)} {f : PySem.Str} (h : Ev to σ H (.ref p)) (hp : H p = some (.ins C dx fs)) (c : Cls K C) (n : NoAttr K C f) (l : fs.lookup f = some v) : Ev (tFld K to f) σ H v := fun H1 e Q q =>
  h H1 e _ fun H2 e2 => ⟨p, C, dx, fs, v, rfl, e2 _ _ (e _ _ hp), c, n, l, q H2 e2⟩
theorem ev_dget {β : Type} {f : β → V} {l : List (PySem.Str × β)} {b : β} {d : Addr} {k : PySem.Str} (hd : Ev td σ H (.ref d)) (hk : Ev ty σ H (.str k)) (h : Rd H d (.dK (kvT f l))) (e : getT l k = some b) : Ev (tDGet td ty) σ H (f b) := fun H1 e1 Q q =>
  hd H1 e1 _ fun H2 e2 => hk H2 (e1.trans e2) _ fun H3 e3 => ⟨d, f b, rfl, dgetT (ex_rd ((e1.trans e2).trans e3) h) e, q H3 (e2.trans e3)⟩
theorem ev_din {β : Type} {f : β → V} {l : List (PySem.Str × β)} {d : Addr} {k : PySem.Str} (hk : Ev ty σ H (.str k)) (hd : Ev td σ H (.ref d)) (h : Rd H d (.dK (kvT f l))) : Ev (tDIn ty td) σ H (.bl (decide (k ∈ keysT l))) := fun H1 e1 Q q =>
  hk H1 e1 _ fun H2 e2 => hd H2 (e1.trans e2) _ fun H3 e3 => ⟨d, _, rfl, dgetK (ex_rd ((e1.trans e2).trans e3) h), by rw [has_T]; exact q H3 (e2.trans e3)⟩
theorem ev_dnotin {β : Type} {f : β → V} {l : List (PySem.Str × β)} {d : Addr} {k : PySem.Str} (hk : Ev ty σ H (.str k)) (hd : Ev td σ H (.ref d)) (h : Rd H d (.dK (kvT f l))) : Ev (tDNotIn ty td) σ H (.bl (!decide (k ∈ keysT l))) := fun H1 e1 Q q =>
  hk H1 e1 _ fun H2 e2 => hd H2 (e1.trans e2) _ fun H3 e3 => ⟨d, _, rfl, dgetK (ex_rd ((e1.trans e2).trans e3) h), by rw [has_T]; exact q H3 (e2.trans e3)⟩
theorem isD_rd {d : Addr} {kvs : List (L2.Key × V)} (h : Rd H d (.dK kvs)) : IsD H d := by
  rcases h with h | ⟨o, h⟩
  · first | exact .inl ⟨_, .inl h⟩ | exact ⟨_, .inl h⟩ | exact .inl ⟨kvs, h⟩ | (unfold IsD; exact .inl ⟨_, Rd.of h⟩)
  · first | exact .inl ⟨_, .inr ⟨o, h⟩⟩ | exact ⟨_, .inr ⟨o, h⟩⟩ | (unfold IsD; exact .inl ⟨_, .inr ⟨o, h⟩⟩)
/-- d.get(k, x) -/
theorem ev_get2 {β : Type} {f : β → V} {l : List (PySem.Str × β)} {d : Addr} {k : PySem.Str} (hd : Ev td σ H (.ref d)) (hk : Ev ty σ H (.str k)) (hx : Ev tx σ H z) (h : Rd H d (.dK (kvT f l))) : Ev (tDGet2 td ty tx) σ H (((getT l k).map f).getD z) := fun H1 e1 Q q =>
  hd H1 e1 _ fun H2 e2 => ⟨d, rfl, isD_rd (ex_rd (e1.trans e2) h), hk H2 (e1.trans e2) _ fun H3 e3 => hx H3 ((e1.trans e2).trans e3) _ fun H4 e4 => ⟨_, dgetN (ex_rd (((e1.trans e2).trans e3).trans e4) h), q H4 ((e2.trans e3).trans e4)⟩⟩
theorem ev_all {bs : List Bool} (h : EvL te σ H (bs.map V.bl)) : Ev (tCB (rAll K) (tCons te tNil)) σ H (.bl (bs.all id)) := fun H1 e Q q =>
  h H1 e _ fun p H2 _ e2 h2 => ⟨p, bs, rfl, sq_of h2, q H2 e2⟩
theorem ev_any {bs : List Bool} (h : EvL te σ H (bs.map V.bl)) : Ev (tCB (rAny K) (tCons te tNil)) σ H (.bl (bs.any id)) := fun H1 e Q q =>
  h H1 e _ fun p H2 _ e2 h2 => ⟨p, bs, rfl, sq_of h2, q H2 e2⟩
theorem ev_sum {ns : List Int} (h : EvL te σ H (ns.map V.int)) : Ev (tCB (rSum K) (tCons te tNil)) σ H (.int ns.sum) := fun H1 e Q q =>
  h H1 e _ fun p H2 _ e2 h2 => ⟨p, ns, rfl, sq_of h2, q H2 e2⟩
theorem ev_lenT {p : Addr} {xs : List V} (ha : Ev ta σ H (.ref p)) (h : SqT K H p xs) : Ev (tCB (rLenS K) (tCons ta tNil)) σ H (.int (xs.length : Int)) := fun H1 e Q q =>
  ha H1 e _ fun H2 e2 => ⟨p, xs, rfl, Or.inr (ex_t (e.trans e2) h), q H2 e2⟩
theorem rv_inSL {neg : Bool} {p : Addr} {s : PySem.Str} {xs : List PySem.Str} (h : SqL K H p (xs.map V.str)) : RV (rIn K neg) (.str s) (.ref p) H (.bl (if neg then !decide (s ∈ xs) else decide (s ∈ xs))) := by
  rw [← inV_str]
  exact rv_inL h rfl (flat_strs _)
theorem rv_inST {neg : Bool} {p : Addr} {s : PySem.Str} {xs : List PySem.Str} (h : SqT K H p (xs.map V.str)) : RV (rIn K neg) (.str s) (.ref p) H (.bl (if neg then !decide (s ∈ xs) else decide (s ∈ xs))) := by
  rw [← inV_str]
  exact rv_inT h rfl (flat_strs _)
theorem ev_inSL {p : Addr} {s : PySem.Str} {xs : List PySem.Str} (ha : Ev ta σ H (.str s)) (hb : Ev tb σ H (.ref p)) (h : SqL K H p (xs.map V.str)) : Ev (tOp (rIn K false) ta tb) σ H (.bl (decide (s ∈ xs))) := ev_op ha hb (rv_inSL (neg := false) h)
theorem ev_niSL {p : Addr} {s : PySem.Str} {xs : List PySem.Str} (ha : Ev ta σ H (.str s)) (hb : Ev tb σ H (.ref p)) (h : SqL K H p (xs.map V.str)) : Ev (tOp (rIn K true) ta tb) σ H (.bl (!decide (s ∈ xs))) := ev_op ha hb (rv_inSL (neg := true) h)
theorem ev_inST {p : Addr} {s : PySem.Str} {xs : List PySem.Str} (ha : Ev ta σ H (.str s)) (hb : Ev tb σ H (.ref p)) (h : SqT K H p (xs.map V.str)) : Ev (tOp (rIn K false) ta tb) σ H (.bl (decide (s ∈ xs))) := ev_op ha hb (rv_inST (neg := false) h)
theorem ev_niST {p : Addr} {s : PySem.Str} {xs : List PySem.Str} (ha : Ev ta σ H (.str s)) (hb : Ev tb σ H (.ref p)) (h : SqT K H p (xs.map V.str)) : Ev (tOp (rIn K true) ta tb) σ H (.bl (!decide (s ∈ xs))) := ev_op ha hb (rv_inST (neg := true) h)
theorem ev_eqS {a b : PySem.Str} (ha : Ev ta σ H (.str a)) (hb : Ev tb σ H (.str b)) : Ev (tOp rEq ta tb) σ H (.bl (decide (a = b))) := ev_is (ev_op ha hb (rv_eq rfl)) (by simp)
theorem ev_neS {a b : PySem.Str} (ha : Ev ta σ H (.str a)) (hb : Ev tb σ H (.str b)) : Ev (tOp rNe ta tb) σ H (.bl (!decide (a = b))) := ev_is (ev_op ha hb (rv_ne rfl)) (by simp)
theorem ev_eqB {a b : Bool} (ha : Ev ta σ H (.bl a)) (hb : Ev tb σ H (.bl b)) : Ev (tOp rEq ta tb) σ H (.bl (decide (a = b))) := ev_is (ev_op ha hb (rv_eq rfl)) (by simp)
theorem ev_neB {a b : Bool} (ha : Ev ta σ H (.bl a)) (hb : Ev tb σ H (.bl b)) : Ev (tOp rNe ta tb) σ H (.bl (!decide (a = b))) := ev_is (ev_op ha hb (rv_ne rfl)) (by simp)
theorem ev_eqI {a b : Int} (ha : Ev ta σ H (.int a)) (hb : Ev tb σ H (.int b)) : Ev (tOp rEq ta tb) σ H (.bl (decide (a = b))) := ev_is (ev_op ha hb (rv_eq rfl)) (by simp)
theorem ev_neI {a b : Int} (ha : Ev ta σ H (.int a)) (hb : Ev tb σ H (.int b)) : Ev (tOp rNe ta tb) σ H (.bl (!decide (a = b))) := ev_is (ev_op ha hb (rv_ne rfl)) (by simp)
/-- a method that gives a value and changes nothing that stood -/
theorem ev_meth {p C dx : Addr} {fs : List (PySem.Str × V)} {m : PySem.Str} {sp : Sp} {dvs vs : List V} {E : XK} {tr : TA} (h : Ev to σ H (.ref p)) (hp : H p = some (.ins C dx fs)) (l : fs.lookup m = none) (ha : EvA tr σ H vs) (hs : SpV sp (.ref p :: (vs ++ dvs)) H z) : Ev (tMeth C m sp dvs E to tr) σ H z := fun H1 e Q q =>
  h H1 e _ fun H2 e2 => ⟨p, dx, fs, rfl, e2 _ _ (e _ _ hp), l, ha H2 (e.trans e2) _ fun H3 e3 => hs H3 ((e.trans e2).trans e3) Q (fun H4 e4 => q H4 ((e2.trans e3).trans e4)) E⟩
theorem ev_anyM {α : Type} {ys : List α} {p : α → Bool} (h : EvL te σ H (ys.map fun y => V.bl (p y))) : Ev (tCB (rAny K) (tCons te tNil)) σ H (.bl (ys.any p)) := by
  rw [map_bl] at h
  have := ev_any (K := K) h
  rw [any_map_id] at this
  exact this
theorem ev_allM {α : Type} {ys : List α} {p : α → Bool} (h : EvL te σ H (ys.map fun y => V.bl (p y))) : Ev (tCB (rAll K) (tCons te tNil)) σ H (.bl (ys.all p)) := by
  rw [map_bl] at h
  have := ev_all (K := K) h
  rw [all_map_id] at this
  exact this
theorem ev_sumM {α : Type} {ys : List α} {p : α → Int} (h : EvL te σ H (ys.map fun y => V.int (p y))) : Ev (tCB (rSum K) (tCons te tNil)) σ H (.int (ys.map p).sum) := by
  have e : (ys.map fun y => V.int (p y)) = (ys.map p).map V.int := by rw [List.map_map]; rfl
  rw [e] at h
  exact ev_sum h
/-- the first operand a new tuple -/
theorem ev_op1U {xs : List V} (ha : EvU ta σ H xs) (hb : Ev tb σ H y) (hr : ∀ p H1, H1 p = some (.tup xs) → Ex H H1 → RV r (.ref p) y H1 z) : Ev (tOp r ta tb) σ H z := fun H1 e Q q =>
  ha H1 e _ fun p H2 _ e2 hp => hb H2 (e.trans e2) _ fun H3 e3 => hr p H3 (e3 p _ hp) ((e.trans e2).trans e3) H3 (Ex.refl H3) Q fun H4 e4 => q H4 ((e2.trans e3).trans e4)
theorem rv_leP {p q : Addr} {kf : PySem.Str → Int} {s t : PySem.Str} (hp : H p = some (.tup [.int (kf s), .str s])) (hq : H q = some (.tup [.int (kf t), .str t])) : RV (rPair rkLe) (.ref p) (.ref q) H (.bl (decide (rkLe kf s t))) := fun H1 e Q k =>
  ⟨p, q, kf, s, t, rfl, rfl, e _ _ hp, e _ _ hq, fun v hv => by
    have : v = decide (rkLe kf s t) := by
      cases v with
      | true => exact (decide_eq_true (hv.mp rfl)).symm
      | false => exact (decide_eq_false fun z => by have := hv.mpr z; cases this).symm
    rw [this]
    exact k H1 (Ex.refl _)⟩
theorem rv_gt {i j : Int} : RV (rI0 fun a b => .bl (decide (a > b))) (.int i) (.int j) H (.bl (decide (i > j))) := rv_I0
/-! comprehensions as maps and filters -/
section
variable {α : Type} {ys : List α} {j : Nat} {vs : List Nat} {a : Addr}
theorem el_mL {c : α → V} (f : α → V) (hl : Ev tl σ H (.ref a)) (h : SqL K H a (ys.map c)) (hz : ys.length ≤ 100000) (turn : ∀ (i : Nat) y, ys[i]? = some y → ∀ H', Ex H H' → Ev te ((wipe σ vs).set j (some (c y))) H' (f y)) (hw : ∀ v, wipe ((wipe σ vs).set j (some v)) vs = wipe σ vs := by intro _; rfl) :
    EvL (tLc (iList K tl) (gName j) tYes te vs) σ H (ys.map f) := fun H1 e Q q => hl H1 e _ fun H2 e2 => ⟨a, rfl, ⟨_, ex_l (e.trans e2) h⟩, fun D hD =>
  lc_m (j := j) (c := c) (ys := ys) walk_list f (by rw [List.length_map]) hD (fun H' s => ex_l ((e.trans e2).trans s) h) (sz_of hz) (fun i y H' k hy s hk => turn i y hy H' ((e.trans e2).trans s) H' (Ex.refl _) k hk) (fun H' s hD' => q D H' (fresh_back e2 hD) (e2.trans s) hD') hw⟩
theorem el_mT {c : α → V} (f : α → V) (hl : Ev tl σ H (.ref a)) (h : SqT K H a (ys.map c)) (hz : ys.length ≤ 100000) (turn : ∀ (i : Nat) y, ys[i]? = some y → ∀ H', Ex H H' → Ev te ((wipe σ vs).set j (some (c y))) H' (f y)) (hw : ∀ v, wipe ((wipe σ vs).set j (some v)) vs = wipe σ vs := by intro _; rfl) :
    EvL (tLc (iTup K tl) (gName j) tYes te vs) σ H (ys.map f) := fun H1 e Q q => hl H1 e _ fun H2 e2 => ⟨a, rfl, ⟨_, ex_t (e.trans e2) h⟩, fun D hD =>
  lc_m (j := j) (c := c) (ys := ys) walk_tup f (by rw [List.length_map]) hD (fun H' s => ex_t ((e.trans e2).trans s) h) (sz_of hz) (fun i y H' k hy s hk => turn i y hy H' ((e.trans e2).trans s) H' (Ex.refl _) k hk) (fun H' s hD' => q D H' (fresh_back e2 hD) (e2.trans s) hD') hw⟩
/-- over a new list -/
theorem el_mN {c : α → V} (f : α → V) (hl : EvL tl σ H (ys.map c)) (hz : ys.length ≤ 100000) (turn : ∀ (i : Nat) y, ys[i]? = some y → ∀ H', Ex H H' → Ev te ((wipe σ vs).set j (some (c y))) H' (f y)) (hw : ∀ v, wipe ((wipe σ vs).set j (some v)) vs = wipe σ vs := by intro _; rfl) :
    EvL (tLc (iList K tl) (gName j) tYes te vs) σ H (ys.map f) := fun H1 e Q q => hl H1 e _ fun a H2 ha e2 h2 => ⟨a, rfl, ⟨_, sq_of h2⟩, fun D hD =>
  lc_m (j := j) (c := c) (ys := ys) walk_list f (by rw [List.length_map]) hD (fun H' s => sq_of (s _ _ h2)) (sz_of hz) (fun i y H' k hy s hk => turn i y hy H' ((e.trans e2).trans s) H' (Ex.refl _) k hk) (fun H' s hD' => q D H' (fresh_back e2 hD) (e2.trans s) hD') hw⟩
theorem el_fL {c : α → V} (p : α → Bool) (f : α → V) (hl : Ev tl σ H (.ref a)) (h : SqL K H a (ys.map c)) (hz : ys.length ≤ 100000) (test : ∀ (i : Nat) y, ys[i]? = some y → ∀ H', Ex H H' → EvT t ((wipe σ vs).set j (some (c y))) H' (p y))
    (turn : ∀ (i : Nat) y, ys[i]? = some y → p y = true → ∀ H', Ex H H' → Ev te ((wipe σ vs).set j (some (c y))) H' (f y)) (hw : ∀ v, wipe ((wipe σ vs).set j (some v)) vs = wipe σ vs := by intro _; rfl) :
    EvL (tLc (iList K tl) (gName j) t te vs) σ H ((ys.filter p).map f) := fun H1 e Q q => hl H1 e _ fun H2 e2 => ⟨a, rfl, ⟨_, ex_l (e.trans e2) h⟩, fun D hD =>
  lc_f (j := j) (c := c) (ys := ys) walk_list p f (by rw [List.length_map]) hD (fun H' s => ex_l ((e.trans e2).trans s) h) (sz_of hz) (fun i y H' k hy s hk => test i y hy H' ((e.trans e2).trans s) H' (Ex.refl _) k hk) (fun i y H' k hy hp s hk => turn i y hy hp H' ((e.trans e2).trans s) H' (Ex.refl _) k hk) (fun H' s hD' => q D H' (fresh_back e2 hD) (e2.trans s) hD') hw⟩
theorem el_fT {c : α → V} (p : α → Bool) (f : α → V) (hl : Ev tl σ H (.ref a)) (h : SqT K H a (ys.map c)) (hz : ys.length ≤ 100000) (test : ∀ (i : Nat) y, ys[i]? = some y → ∀ H', Ex H H' → EvT t ((wipe σ vs).set j (some (c y))) H' (p y))
    (turn : ∀ (i : Nat) y, ys[i]? = some y → p y = true → ∀ H', Ex H H' → Ev te ((wipe σ vs).set j (some (c y))) H' (f y)) (hw : ∀ v, wipe ((wipe σ vs).set j (some v)) vs = wipe σ vs := by intro _; rfl) :
    EvL (tLc (iTup K tl) (gName j) t te vs) σ H ((ys.filter p).map f) := fun H1 e Q q => hl H1 e _ fun H2 e2 => ⟨a, rfl, ⟨_, ex_t (e.trans e2) h⟩, fun D hD =>
  lc_f (j := j) (c := c) (ys := ys) walk_tup p f (by rw [List.length_map]) hD (fun H' s => ex_t ((e.trans e2).trans s) h) (sz_of hz) (fun i y H' k hy s hk => test i y hy H' ((e.trans e2).trans s) H' (Ex.refl _) k hk) (fun i y H' k hy hp s hk => turn i y hy hp H' ((e.trans e2).trans s) H' (Ex.refl _) k hk) (fun H' s hD' => q D H' (fresh_back e2 hD) (e2.trans s) hD') hw⟩
theorem el_fN {c : α → V} (p : α → Bool) (f : α → V) (hl : EvL tl σ H (ys.map c)) (hz : ys.length ≤ 100000) (test : ∀ (i : Nat) y, ys[i]? = some y → ∀ H', Ex H H' → EvT t ((wipe σ vs).set j (some (c y))) H' (p y))
    (turn : ∀ (i : Nat) y, ys[i]? = some y → p y = true → ∀ H', Ex H H' → Ev te ((wipe σ vs).set j (some (c y))) H' (f y)) (hw : ∀ v, wipe ((wipe σ vs).set j (some v)) vs = wipe σ vs := by intro _; rfl) :
    EvL (tLc (iList K tl) (gName j) t te vs) σ H ((ys.filter p).map f) := fun H1 e Q q => hl H1 e _ fun a H2 ha e2 h2 => ⟨a, rfl, ⟨_, sq_of h2⟩, fun D hD =>
  lc_f (j := j) (c := c) (ys := ys) walk_list p f (by rw [List.length_map]) hD (fun H' s => sq_of (s _ _ h2)) (sz_of hz) (fun i y H' k hy s hk => test i y hy H' ((e.trans e2).trans s) H' (Ex.refl _) k hk) (fun i y H' k hy hp s hk => turn i y hy hp H' ((e.trans e2).trans s) H' (Ex.refl _) k hk) (fun H' s hD' => q D H' (fresh_back e2 hD) (e2.trans s) hD') hw⟩
/-- over the keys of a dict that is locked already -/
theorem el_mK {β : Type} {g : β → V} {l : List (PySem.Str × β)} {o : Obj} (f : PySem.Str → V) (hl : Ev tl σ H (.ref a)) (h : H a = some (.frz o (.dK (kvT g l)))) (hz : l.length ≤ 100000) (turn : ∀ (i : Nat) y, (keysT l)[i]? = some y → ∀ H', Ex H H' → Ev te ((wipe σ vs).set j (some (.str y))) H' (f y)) (hw : ∀ v, wipe ((wipe σ vs).set j (some v)) vs = wipe σ vs := by intro _; rfl) :
    EvL (tLc (iKeys tl) (gName j) tYes te vs) σ H ((keysT l).map f) := fun H1 e Q q => hl H1 e _ fun H2 e2 => ⟨a, o, rfl, .inl ⟨_, e2 _ _ (e _ _ h), fun D hD =>
  lc_m (j := j) (c := V.str) (ys := keysT l) walk_kT f rfl hD (fun H' s => s _ _ (e2 _ _ (e _ _ h))) (by unfold keysT; rw [List.length_map]; exact sz_of hz) (fun i y H' k hy s hk => turn i y hy H' ((e.trans e2).trans s) H' (Ex.refl _) k hk) (fun H' s hD' => q D H' (fresh_back e2 hD) (e2.trans s) hD') hw⟩⟩
theorem el_fK {β : Type} {g : β → V} {l : List (PySem.Str × β)} {o : Obj} (p : PySem.Str → Bool) (f : PySem.Str → V) (hl : Ev tl σ H (.ref a)) (h : H a = some (.frz o (.dK (kvT g l)))) (hz : l.length ≤ 100000) (test : ∀ (i : Nat) y, (keysT l)[i]? = some y → ∀ H', Ex H H' → EvT t ((wipe σ vs).set j (some (.str y))) H' (p y))
    (turn : ∀ (i : Nat) y, (keysT l)[i]? = some y → p y = true → ∀ H', Ex H H' → Ev te ((wipe σ vs).set j (some (.str y))) H' (f y)) (hw : ∀ v, wipe ((wipe σ vs).set j (some v)) vs = wipe σ vs := by intro _; rfl) :
    EvL (tLc (iKeys tl) (gName j) t te vs) σ H (((keysT l).filter p).map f) := fun H1 e Q q => hl H1 e _ fun H2 e2 => ⟨a, o, rfl, .inl ⟨_, e2 _ _ (e _ _ h), fun D hD =>
  lc_f (j := j) (c := V.str) (ys := keysT l) walk_kT p f rfl hD (fun H' s => s _ _ (e2 _ _ (e _ _ h))) (by unfold keysT; rw [List.length_map]; exact sz_of hz) (fun i y H' k hy s hk => test i y hy H' ((e.trans e2).trans s) H' (Ex.refl _) k hk) (fun i y H' k hy hp s hk => turn i y hy hp H' ((e.trans e2).trans s) H' (Ex.refl _) k hk) (fun H' s hD' => q D H' (fresh_back e2 hD) (e2.trans s) hD') hw⟩⟩
/-- a list made while the dict d is locked, from the state within the lock -/
theorem el_lock {kvs : List (L2.Key × V)} {xs : List V} (h : H a = some (.dK kvs)) (k : ∀ od, EvL te σ (upd H a (.frz od (.dK kvs))) xs) : EvL (tLockE te) σ H xs := fun H1 e Q q => by
  have h1 := e _ _ h
  refine ⟨a, _, h1, trivial, fun od => ?_⟩
  have e1 : Ex (upd H a (.frz od (.dK kvs))) (upd H1 a (.frz od (.dK kvs))) := fun b o z => by
    by_cases nb : b = a
    · rw [nb, upd_same] at z ⊢; exact z
    · rw [upd_ne nb] at z ⊢; exact e _ _ z
  refine k od _ e1 _ fun p H2 hp e2 h2 => ?_
  have na : p ≠ a := fun z => by rw [z, upd_same] at hp; cases hp
  have fa : H2 a = some (.frz od (.dK kvs)) := e2 _ _ upd_same
  refine ⟨fa, q p _ (by rw [upd_ne na] at hp; exact hp) (fun b o z => ?_) (by rw [upd_ne na]; exact h2)⟩
  by_cases nb : b = a
  · rw [nb, h1] at z; rw [nb, upd_same]; exact z
  · rw [upd_ne nb]; exact e2 _ _ (by rw [upd_ne nb]; exact z)
end
end
/-! ### statements under a dict's lock -/
section
variable {K : PySem.W.Frag} {σ : L2.St} {H H' : Hp} {te td : TE} {D : Ends} {tb tz : TS} {a : Addr} {u : HO}
theorem ex_lock {H1 : Hp} {f : HO} (e : Ex H H1) : Ex (upd H a f) (upd H1 a f) := fun b o z => by
  by_cases nb : b = a
  · rw [nb, upd_same] at z ⊢; exact z
  · rw [upd_ne nb] at z ⊢; exact e _ _ z
theorem ex_unlock {f : HO} (h : H a = some u) (e : Ex (upd H a f) H') : Ex H (upd H' a u) := fun b o z => by
  by_cases nb : b = a
  · rw [nb, h] at z; rw [nb, upd_same]; exact z
  · rw [upd_ne nb]; exact e _ _ (by rw [upd_ne nb]; exact z)
/-- y = [.. for k in d ..], d locked meanwhile -/
theorem s_lockL {kvs : List (L2.Key × V)} {xs : List V} {i : Nat} (h : H a = some (.dK kvs)) (k : ∀ od, EvL te σ (upd H a (.frz od (.dK kvs))) xs) (q : ∀ p H1, H p = none → Ex H H1 → H1 p = some (.lst xs) → D.nx (σ.set i (some (.ref p))) H1) : tLock (tAsg te (gName i)) D σ H := by
  refine ⟨a, _, h, trivial, fun od => k od _ (Ex.refl _) _ fun p H2 hp e2 h2 => ?_⟩
  have na : p ≠ a := fun z => by rw [z, upd_same] at hp; cases hp
  refine ⟨e2 _ _ upd_same, q p _ (by rw [upd_ne na] at hp; exact hp) (ex_unlock h e2) (by rw [upd_ne na]; exact h2)⟩
theorem q_lockL {kvs : List (L2.Key × V)} {xs : List V} {i : Nat} (h : H a = some (.dK kvs)) (k : ∀ od, EvL te σ (upd H a (.frz od (.dK kvs))) xs) (q : ∀ p H1, H p = none → Ex H H1 → H1 p = some (.lst xs) → tz D (σ.set i (some (.ref p))) H1) : tSeq (tLock (tAsg te (gName i))) tz D σ H :=
  s_lockL (D := { D with nx := tz D }) h k q
/-- for k in d: ..; the turns within the lock -/
theorem s_lockFor {β : Type} {g : β → V} {l : List (PySem.Str × β)} {j : Nat} (h : H a = some (.dK (kvT g l))) (hd : ∀ od, Ev td σ (upd H a (.frz od (.dK (kvT g l)))) (.ref a)) (Pv : Obj → Nat → L2.St → Hp → Prop) (h0 : ∀ od H1, Ex (upd H a (.frz od (.dK (kvT g l)))) H1 → Pv od 0 σ H1)
    (hl : ∀ od i σ' H', Pv od i σ' H' → H' a = some (.frz od (.dK (kvT g l))))
    (hs : ∀ od (i : Nat) y σ' H', (keysT l)[i]? = some y → Pv od i σ' H' → tb ⟨Pv od (i + 1), fun v H' => H' a = some (.frz od (.dK (kvT g l))) ∧ D.rt v (upd H' a (.dK (kvT g l))), fun σ' H' => H' a = some (.frz od (.dK (kvT g l))) ∧ D.nx σ' (upd H' a (.dK (kvT g l))), Pv od (i + 1)⟩ (σ'.set j (some (.str y))) H')
    (he : ∀ od σ' H', Pv od (keysT l).length σ' H' → D.nx σ' (upd H' a (.dK (kvT g l)))) : tLock (tFor (iKeys td) (gName j) tb) D σ H := by
  refine ⟨a, _, h, trivial, fun od => hd od _ (Ex.refl _) _ fun H1 e1 => ⟨a, od, rfl, .inl ⟨_, e1 _ _ upd_same, for_it walk_kT (Pv od) (h0 od H1 e1) (fun i σ' H' _ p => hl od i σ' H' p) ?_ ?_⟩⟩⟩
  · rintro i x σ' H' H'' hi p ⟨rfl, hx⟩
    rw [List.getElem?_map] at hx
    cases e : (keysT l)[i]? with
    | none => rw [e] at hx; cases hx
    | some y =>
      rw [e] at hx
      obtain rfl := Option.some.inj hx
      exact hs od i y σ' _ e p
  · exact fun σ' H' p => ⟨hl od _ σ' H' p, he od σ' H' p⟩
theorem q_lockFor {β : Type} {g : β → V} {l : List (PySem.Str × β)} {j : Nat} (h : H a = some (.dK (kvT g l))) (hd : ∀ od, Ev td σ (upd H a (.frz od (.dK (kvT g l)))) (.ref a)) (Pv : Obj → Nat → L2.St → Hp → Prop) (h0 : ∀ od H1, Ex (upd H a (.frz od (.dK (kvT g l)))) H1 → Pv od 0 σ H1)
    (hl : ∀ od i σ' H', Pv od i σ' H' → H' a = some (.frz od (.dK (kvT g l))))
    (hs : ∀ od (i : Nat) y σ' H', (keysT l)[i]? = some y → Pv od i σ' H' → tb ⟨Pv od (i + 1), fun v H' => H' a = some (.frz od (.dK (kvT g l))) ∧ D.rt v (upd H' a (.dK (kvT g l))), fun σ' H' => H' a = some (.frz od (.dK (kvT g l))) ∧ tz D σ' (upd H' a (.dK (kvT g l))), Pv od (i + 1)⟩ (σ'.set j (some (.str y))) H')
    (he : ∀ od σ' H', Pv od (keysT l).length σ' H' → tz D σ' (upd H' a (.dK (kvT g l)))) : tSeq (tLock (tFor (iKeys td) (gName j) tb)) tz D σ H :=
  s_lockFor (D := { D with nx := tz D }) h hd Pv h0 hl hs he
end
section
variable {X : Cx} {K : PySem.W.Frag}
theorem cr_anyK (h : X.K = K) (hc : X.calm = true) : CallR X (.builtin "any") (rAny K) := by subst h; exact cr_any hc
theorem cr_allK (h : X.K = K) (hc : X.calm = true) : CallR X (.builtin "all") (rAll K) := by subst h; exact cr_all hc
theorem cr_sumK (h : X.K = K) (hc : X.calm = true) : CallR X (.builtin "sum") (rSum K) := by subst h; exact cr_sum hc
end
end Mc
namespace Mc
open PySem L2 PySem.Spec PyProof.Rows Evl
/-! names and numbers of any kind, what is told of wrong ones -/
def nameB : V → Bool
  | .str x => decide (okN x)
  | _ => false
def numB (lo hi : Int) : V → Bool
  | .int n => decide (lo ≤ n) && decide (n ≤ hi)
  | _ => false
/-- what is looked at: texts, ints, bools, None -/
def Plain : V → Prop
  | .str x => x.length ≤ 100
  | .int _ => True
  | .bl _ => True
  | .non => True
  | _ => False
def spNameV : Sp := fun vs H Q _ => ∃ v : V, vs = [v] ∧ Plain v ∧ (∀ b, v ≠ .bl b) ∧ ∀ H', Ex H H' → Q (.bl (nameB v)) H'
def spNumV : Sp := fun vs H Q _ => ∃ (v : V) (lo hi : Int), vs = [v, .int lo, .int hi] ∧ (∀ x, v ≠ .str x) ∧ Plain v ∧ Q (.bl (numB lo hi v)) H
section
variable {P : Program} {w : World} {K : PySem.W.Frag} {mg : PySem.Str → Option Value} {base : Heap}
theorem ok_nameV {f : Addr} {fd : FuncData} (F : Fun K "is_name" "is_name" sIsName f fd) (T : TxN mg) : FnOk P w K mg base CX0 1 f fd ["thing"] spNameV := by
  refine F.ok scIsName (fun vs H Q E h => ?_) (fun cdv A outer s H vs Q E hr h => ?_)
  · obtain ⟨x, rfl, _⟩ := h
    rfl
  · obtain ⟨v, rfl, hpl, nbl, q⟩ := h
    obtain ⟨tl, gl⟩ := T.lets
    obtain ⟨tf, gf⟩ := T.figs
    obtain ⟨tm, gm⟩ := T.most
    refine ⟨_, (pss_cons (ps_if (PW.pt (pw_or (pt_not (pt_val (pe_callB call_isi (by rfl) T.isi boot_isinstance (pa_cons (pv 0) (pa_cons (pe_bltn (v := .ty "str") (by rfl) T.str boot_str rfl) pa_nil))))) (pw_or1 (pt_not (pt_chain op_le op_le pe_int (pe_callB call_len_str (by rfl) T.len PySem.boot_len (pa_cons (pv 0) pa_nil)) (pe_glob (by rfl) gm rel_int))))))
        (pss_one (ps_ret pe_bl))
        pss_nil)
      (pss_cons (ps_if (pt_cmpR op_notIn_sign (pe_ix ix_str (pv 0) pe_int (fun _ _ => rfl)) (pe_glob (by rfl) gl rel_str) (by rfl))
        (pss_one (ps_ret pe_bl))
        pss_nil)
      (pss_one (ps_ret (pe_callB (cr_all rfl) (by rfl) T.all (by rfl) (pa_cons (pe_lc (own := [("sign", 1)]) (g := gName 1) (tt := tYes) rfl scIsName.nd (pi_str (pv 0)) (blkOk_by (own := [("sign", 1)]) (N := ["thing", "sign"]) (sc := defScope sIsName) (by decide +kernel)) (fun _ _ _ _ _ => pg_name (i := 1) scIsName.nd rfl (Or.inl rfl)) (fun _ _ _ _ _ => pts_nil) (fun _ _ _ _ _ => (pe_or (pe_cmpR op_in_sign (pv 1) (pe_glob (by rfl) gl rel_str) (by rfl)) (pe_one (pe_cmpR op_in_sign (pv 1) (pe_glob (by rfl) gf rel_str) (by rfl)))))) pa_nil)))))), ?_⟩
    cases v with
    | int n => exact ⟨_, rfl, _, _, _, _, _, rfl, .ty "str", .base (.int _), by rfl, false, rfl, q H (Ex.refl _)⟩
    | non => exact ⟨_, rfl, _, _, _, _, _, rfl, .ty "str", .base .non, by rfl, false, rfl, q H (Ex.refl _)⟩
    | str x =>
      have hx : x.length ≤ 100 := hpl
      have hsz : x.length ≤ sizeLine := Nat.le_trans hx (by decide)
      refine ⟨_, rfl, _, _, _, _, _, rfl, .ty "str", .base (.str _), by rfl, true, rfl, ?_⟩
      refine ⟨_, rfl, _, rfl, hsz, _, _, rfl, rfl, _, rfl, ?_⟩
      have no : ¬ okN x → Q (.bl false) H := fun n => by
        have := q H (Ex.refl _)
        rw [show nameB (.str x) = false from decide_eq_false n] at this
        exact this
      refine ite2 (fun h => ?_) (fun h => ?_)
      · have h1 : 1 ≤ x.length := by have := of_decide_eq_true h; omega
        refine ⟨_, _, rfl, rfl, _, rfl, ?_⟩
        refine ite2 (fun h2 => ?_) (fun h2 => ?_)
        · refine no fun z => ?_
          have := z.2.1
          rw [decide_eq_true (by show ((x.length : Nat) : Int) ≤ 8; omega)] at h2
          exact absurd h2 (by decide)
        · have h8 : x.length ≤ 8 := by
            refine Nat.le_of_not_lt fun z => h2 ?_
            rw [decide_eq_false (by show ¬ ((x.length : Nat) : Int) ≤ 8; omega)]; rfl
          obtain ⟨c0, hc0⟩ : ∃ c0, x.cps.toList[0]? = some c0 := ⟨_, List.getElem?_eq_getElem (by show 0 < x.cps.toList.length; rw [Array.length_toList]; exact h1)⟩
          refine ⟨_, rfl, _, _, _, rfl, rfl, hsz, at0 hc0, _, _, rfl, rfl, _, rfl, ?_⟩
          refine ite2 (fun h3 => ?_) (fun h3 => ?_)
          · refine no fun z => ?_
            obtain ⟨c1, e1, e2⟩ := z.2.2.1
            rw [hc0] at e1
            cases e1
            rw [decide_eq_true e2] at h3
            exact absurd h3 (by decide)
          · have hl0 : c0 ∈ letters.cps.toList := Classical.byContradiction fun z => h3 (by rw [decide_eq_false z]; rfl)
            refine ⟨_, rfl, _, rfl, fun D hD => lc_it walk_str (fun i H' => H' = upd H D (.lst ((((x.cps.toList.take i).map fun c => decide (c ∈ letters.cps.toList ∨ c ∈ figures.cps.toList)) : List Bool).map V.bl))) rfl (fun _ _ _ _ => trivial) ?_ ?_⟩
            · rintro i v H1 H2 hi rfl ⟨rfl, c, hc, rfl⟩
              have hcl : x.cps.toList[i]? = some c := by rw [← Array.getElem?_toList] at hc; exact hc
              refine ⟨rfl, _, rfl, _, _, rfl, rfl, _, rfl, ?_⟩
              have fin : ∀ b : Bool, b = decide (c ∈ letters.cps.toList ∨ c ∈ figures.cps.toList) → ∃ acc, upd H D (.lst ((((x.cps.toList.take i).map fun c => decide (c ∈ letters.cps.toList ∨ c ∈ figures.cps.toList)) : List Bool).map V.bl)) D = some (.lst acc) ∧ acc.length < sizeLine ∧ upd (upd H D (.lst ((((x.cps.toList.take i).map fun c => decide (c ∈ letters.cps.toList ∨ c ∈ figures.cps.toList)) : List Bool).map V.bl))) D (.lst (acc ++ [V.bl b])) = upd H D (.lst ((((x.cps.toList.take (i + 1)).map fun c => decide (c ∈ letters.cps.toList ∨ c ∈ figures.cps.toList)) : List Bool).map V.bl)) := fun b hb =>
                ⟨_, upd_same, by rw [List.length_map, List.length_map, List.length_take]; exact Nat.lt_of_le_of_lt (Nat.min_le_left _ _) (Nat.lt_of_lt_of_le hi hsz), by rw [upd_upd, List.take_add_one, hcl, List.map_append, List.map_append, hb]; rfl⟩
              refine ite2 (fun h => fin true ?_) (fun h => ?_)
              · exact (decide_eq_true (Or.inl (of_decide_eq_true h))).symm
              · refine ⟨_, rfl, _, _, rfl, rfl, ?_⟩
                refine fin _ ?_
                have hn : ¬ c ∈ letters.cps.toList := fun z => h (decide_eq_true z)
                by_cases z : c ∈ figures.cps.toList
                · rw [decide_eq_true z, decide_eq_true (Or.inr z)]
                · rw [decide_eq_false z, decide_eq_false fun o => o.elim hn z]
            · rintro H1 rfl
              have e : (((x.cps.toList.take x.cps.size).map fun c => decide (c ∈ letters.cps.toList ∨ c ∈ figures.cps.toList)) : List Bool).all id = nameB (.str x) := by
                rw [List.take_of_length_le (show x.cps.toList.length ≤ x.cps.size by rw [Array.length_toList]; exact Nat.le_refl _), Bool.eq_iff_iff, List.all_eq_true]
                constructor
                · intro hall
                  exact decide_eq_true ⟨h1, h8, ⟨c0, hc0, hl0⟩, fun c hc => of_decide_eq_true (hall _ (List.mem_map.mpr ⟨c, hc, rfl⟩))⟩
                · intro hk b hb
                  obtain ⟨c, hc, rfl⟩ := List.mem_map.mp hb
                  exact decide_eq_true ((of_decide_eq_true hk : okN x).2.2.2 c hc)
              refine ⟨_, _, rfl, SqL.of upd_same, ?_⟩
              rw [e]
              exact q _ (Ex.new hD)
      · refine ⟨false, rfl, no fun z => h (decide_eq_true ?_)⟩
        have := z.1
        show (1 : Int) ≤ ((x.length : Nat) : Int)
        omega
    | bl b => exact absurd rfl (nbl b)
    | _ => exact hpl.elim
theorem ok_numV {f : Addr} {fd : FuncData} (F : Fun K "is_number" "is_number" sIsNum f fd) (T : TxN mg) : FnOk P w K mg base CX0 1 f fd ["thing", "low", "high"] spNumV := by
  refine F.ok scIsNum (fun vs H Q E h => ?_) (fun cdv A outer s H vs Q E hr h => ?_)
  · obtain ⟨x, lo, hi, rfl, _⟩ := h
    rfl
  · obtain ⟨x, lo, hi, rfl, ns, hpl, q⟩ := h
    refine ⟨_, (pss_one (ps_ret (pe_and (pe_callB call_isi (by rfl) T.isi boot_isinstance (pa_cons (pv 0) (pa_cons (pe_bltn (v := .ty "int") (by rfl) T.int boot_int rfl) pa_nil))) (pe_and (pe_not (pe_callB call_isi (by rfl) T.isi boot_isinstance (pa_cons (pv 0) (pa_cons (pe_bltn (v := .ty "bool") (by rfl) T.bool (by rfl) rfl) pa_nil)))) (pe_one (pe_chain op_le op_le (pv 1) (pv 0) (pv 2))))))), ?_⟩
    cases x with
    | int n =>
      refine ⟨_, rfl, _, _, _, _, _, rfl, .ty "int", .base (.int _), by rfl, true, rfl, _, rfl, _, _, _, _, _, rfl, .ty "bool", .base (.int _), by rfl, false, rfl, true, rfl, ?_⟩
      refine ⟨_, rfl, _, rfl, _, _, rfl, rfl, _, rfl, ?_⟩
      have q : Q (.bl (decide (lo ≤ n) && decide (n ≤ hi))) H := q
      refine ite2 (fun h => ?_) (fun h => ?_)
      · refine ⟨_, rfl, _, _, rfl, rfl, ?_⟩
        rw [decide_eq_true (of_decide_eq_true h)] at q
        exact q
      · rw [Bool.eq_false_iff.mpr h] at q
        exact q
    | non => exact ⟨_, rfl, _, _, _, _, _, rfl, .ty "int", .base .non, by rfl, false, rfl, q⟩
    | bl b => exact ⟨_, rfl, _, _, _, _, _, rfl, .ty "int", .base (.bl _), by rfl, true, rfl, _, rfl, _, _, _, _, _, rfl, .ty "bool", .base (.bl _), by rfl, true, rfl, false, rfl, q⟩
    | str x => exact absurd rfl (ns x)
    | _ => exact hpl.elim
end
/-! BadScene -/
abbrev sBadS : Stmt := inClass (top 2) 0
structure TxX (K : PySem.W.Frag) (mg : PySem.Str → Option Value) (CB : Addr) : Prop where
  T : OexB K CB
  mg : mg "BadScene" = some (.ref CB)
def CalBd (P : Program) (w : World) (K : PySem.W.Frag) (mg : PySem.Str → Option Value) (base : Heap) (CB : Addr) (f : PySem.Str) : Prop :=
  ∃ (fI : Addr) (fd : FuncData), PySem.W.findIn K (.ref CB) "__init__" = some (some (.ref fI)) ∧ PySem.W.isFn K (.ref fI) = true ∧ Binds K fd ["self", f] [] ∧ FnOk P w K mg base CX0 1 fI fd ["self", f] (spBadI CB f)
/-- what becomes of a check: nothing, or BadScene with a word -/
def ErrOr (CB : Addr) (H : Hp) (Q : VK) (E : XK) : Option PySem.Str → Prop
  | none => ∀ H', Ex H H' → Q .non H'
  | some wd => ∀ d H', Ex H H' → H' d = some (.xd [("word", .str wd)]) → E (.ref CB) (some d) H'
def chkM (m : PySem.Str) (v : V) : Option PySem.Str := if okN m then (if numB 0 1000 v then none else some "channels") else some "mast"
def spChkMX (CB : Addr) : Sp := fun vs H Q E => ∃ (m : PySem.Str) (v : V), vs = [.str m, v] ∧ m.length ≤ 100 ∧ (∀ x, v ≠ .str x) ∧ Plain v ∧ ErrOr CB H Q E (chkM m v)
def chkH (hs ks : List PySem.Str) : Option PySem.Str := if (∀ m ∈ hs, m ∈ ks) ∧ hs.Nodup then none else some "heard"
def spChkHX (CB : Addr) : Sp := fun vs H Q E => ∃ (t ch : Addr) (hs : List PySem.Str) (chv : List (PySem.Str × V)), vs = [.ref t, .ref ch] ∧ H t = some (.tup (hs.map V.str)) ∧ H ch = some (.dK (kvT id chv)) ∧ hs.length < 64 ∧ ErrOr CB H Q E (chkH hs (keysT chv))
def chkC (c : PySem.Str) (cd : CD) (ks : List PySem.Str) : Option PySem.Str := if okN c then (if numB 0 1000 (.int cd.2.1) then chkH cd.2.2 ks else some "worth") else some "call"
def spChkCX (K : PySem.W.Frag) (CC CB : Addr) : Sp := fun vs H Q E => ∃ (c : PySem.Str) (o ch : Addr) (wt : Int) (hs : List PySem.Str) (chv : List (PySem.Str × V)), vs = [.str c, .ref o, .ref ch] ∧ c.length ≤ 100 ∧ CallH K CC H o wt hs ∧ H ch = some (.dK (kvT id chv)) ∧ hs.length < 64 ∧ ErrOr CB H Q E (chkC c (o, wt, hs) (keysT chv))
section
variable {P : Program} {w : World} {K : PySem.W.Frag} {mg : PySem.Str → Option Value} {base : Heap}
theorem ok_chkMX {f C CB : Addr} {fd : FuncData} (F : Fun K "check_mast" "check_mast" sChkM f fd) (T : TxS K mg C) (TB : TxX K mg CB) (cB : CalBd P w K mg base CB "word") (c_is_name : Cal P w K mg base 1 "is_name" ["thing"] spNameV) (c_is_number : Cal P w K mg base 1 "is_number" ["thing", "low", "high"] spNumV) :
    FnOk P w K mg base (L2.CX P w) 4 f fd ["mast", "many"] (spChkMX CB) := by
  obtain ⟨fI, fdI, iC, tI, bI, FI⟩ := cB
  refine F.okX scChkM (fun vs H Q E h => ?_) (fun cdv A outer s H vs Q E hr h => ?_)
  · obtain ⟨m, n, rfl, _⟩ := h
    rfl
  · obtain ⟨m, v, rfl, hm, ns, hv, q⟩ := h
    obtain ⟨tl, gl⟩ := T.lim
    refine ⟨_, (pss_cons (ps_if (pt_not (pt_val (pe_cal c_is_name (hr.mono (by decide)) rfl (pa_cons (pv 0) pa_nil))))
        (pss_one (ps_raise rfl (takes_of rfl rfl rfl rfl) (pmk_B TB.T iC tI FI (hr.mono (by decide)) bI rfl TB.mg (pa_cons pe_str pa_nil))))
        pss_nil)
      (pss_one (ps_if (pt_not (pt_val (pe_cal c_is_number (hr.mono (by decide)) rfl (pa_cons (pv 1) (pa_cons pe_int (pa_cons (pe_glob (by rfl) gl rel_int) pa_nil))))))
        (pss_one (ps_raise rfl (takes_of rfl rfl rfl rfl) (pmk_B TB.T iC tI FI (hr.mono (by decide)) bI rfl TB.mg (pa_cons pe_str pa_nil))))
        pss_nil))), ?_⟩
    refine ⟨_, rfl, .str m, rfl, hm, (fun b e => nomatch e), fun H1 x1 => ⟨_, rfl, ?_⟩⟩
    unfold chkM at q
    by_cases h1 : okN m
    · rw [if_pos h1] at q
      rw [show nameB (.str m) = true from decide_eq_true h1]
      refine ite2 (fun z => nomatch z) fun _ => ?_
      refine ⟨_, rfl, v, 0, 1000, rfl, ns, hv, _, rfl, ?_⟩
      cases h2 : numB 0 1000 v with
      | true =>
        rw [h2, if_pos rfl] at q
        exact ite2 (fun z => nomatch z) fun _ => q H1 x1
      | false =>
        rw [h2, if_neg Bool.false_ne_true] at q
        refine ite2 (fun _ => ?_) (fun z => absurd rfl z)
        refine mkB_one fun d hd => ?_
        exact q d _ (x1.trans (Ex.new hd)) upd_same
    · rw [if_neg h1] at q
      rw [show nameB (.str m) = false from decide_eq_false h1]
      refine ite2 (fun _ => ?_) (fun z => absurd rfl z)
      refine mkB_one fun d hd => ?_
      exact q d _ (x1.trans (Ex.new hd)) upd_same
theorem ok_chkHX {f C CB : Addr} {fd : FuncData} (F : Fun K "check_heard" "check_heard" sChkH f fd) (T : TxS K mg C) (TB : TxX K mg CB) (cB : CalBd P w K mg base CB "word") (c_has_key : Cal P w K mg base 1 "has_key" ["table", "thing"] spHasKey) :
    FnOk P w K mg base (L2.CX P w) 4 f fd ["heard", "channels"] (spChkHX CB) := by
  obtain ⟨fI, fdI, iC, tI, bI, FI⟩ := cB
  refine F.okX scChkH (fun vs H Q E h => ?_) (fun cdv A outer s H vs Q E hr h => ?_)
  · obtain ⟨t, ch, hs, kvs, rfl, _⟩ := h
    rfl
  · obtain ⟨hh, ch, hs, chv, rfl, hq1, hch1, h64, q⟩ := h
    have hu := hu_of hr
    refine ⟨_, (pss_cons (ps_setLc (i := 2) (own := [("mast", 3)]) (g := gName 3) rfl scChkH.nd rfl rfl (sw_true rfl rfl rfl (by decide +kernel)) (pi_tup (pv 0)) (blkOk_by (own := [("mast", 3)]) (N := ["heard", "channels", "known", "mast"]) (sc := defScope sChkH) (by decide +kernel)) (fun _ _ _ _ _ => pg_name (i := 3) scChkH.nd rfl (Or.inl rfl)) (fun _ _ _ _ _ => pts_one (pt_val (pe_cal c_has_key (hr.mono (by decide)) rfl (pa_cons (pv 1) (pa_cons (pv 3) pa_nil))))) (fun _ _ _ _ _ => (pv 3)))
      (pss_one (ps_if (PW.pt (pw_or (pt_cmpR op_lt (pe_callB call_len_seq (by rfl) T.len PySem.boot_len (pa_cons (pv 2) pa_nil)) (pe_callB call_len_seq (by rfl) T.len PySem.boot_len (pa_cons (pv 0) pa_nil)) (nomark _)) (pw_or1 (pt_cmpR op_lt (pe_callB call_lenK (by rfl) T.len PySem.boot_len (pa_cons (pe_callTy (cr_setSN rfl) (by rfl) T.set boot_set (pa_cons (pv 2) pa_nil)) pa_nil)) (pe_callB call_len_seq (by rfl) T.len PySem.boot_len (pa_cons (pv 2) pa_nil)) (nomark _)))))
        (pss_one (ps_raise rfl (takes_of rfl rfl rfl rfl) (pmk_B TB.T iC tI FI (hr.mono (by decide)) bI rfl TB.mg (pa_cons pe_str pa_nil))))
        pss_nil))), ?_⟩
    have hx : ∀ H', Ex H H' → ∀ m, spHasKey [.ref ch, .str m] H' (fun v H2 => v = .bl (decide (m ∈ keysT chv)) ∧ H2 = H') E0 := fun H' x m => ⟨ch, m, _, rfl, x _ _ hch1, by rw [has_T], rfl⟩
    refine ⟨_, rfl, hh, rfl, ⟨_, SqT.of hq1⟩, fun D hD => lc_tup (K := K) (xs := hs.map V.str) (fun i H' => H' = upd H D (.lst (((hs.take i).filter fun m => decide (m ∈ keysT chv)).map V.str))) (by simp) (fun i H' _ e => by subst e; exact SqT.of (by rw [upd_ne (ne_of_none hq1 hD)]; exact hq1)) ?_ ?_⟩
    · rintro i x H' hx rfl
      rw [List.getElem?_map] at hx
      obtain ⟨m, hi, rfl⟩ := Option.map_eq_some_iff.mp hx
      refine ⟨rfl, _, rfl, _, rfl, ch, m, kvT id chv, rfl, by rw [upd_ne (ne_of_none hch1 hD)]; exact hch1, ?_⟩
      rw [has_T]
      refine ⟨_, rfl, ?_⟩
      have et : hs.take (i + 1) = hs.take i ++ [m] := by rw [List.take_add_one, hi]; rfl
      refine ite2 (fun h => ?_) (fun h => ?_)
      · refine ⟨_, rfl, _, upd_same, ?_, ?_⟩
        · rw [List.length_map]
          refine Nat.lt_of_le_of_lt (List.length_filter_le _ _) ?_
          rw [List.length_take]
          exact Nat.lt_of_le_of_lt (Nat.min_le_right _ _) (Nat.lt_of_lt_of_le h64 (by decide))
        · rw [upd_upd, et, List.filter_append, List.map_append]
          rw [show [m].filter (fun m => decide (m ∈ keysT chv)) = [m] by rw [List.filter_cons, if_pos h]; rfl]
          rfl
      · show upd H D _ = upd H D _
        rw [et, List.filter_append, show [m].filter (fun m => decide (m ∈ keysT chv)) = [] by rw [List.filter_cons, if_neg h]; rfl, List.append_nil]
    · rintro H' rfl
      rw [List.length_map, List.take_length]
      have s2 : Ex H (upd H D (.lst ((hs.filter fun m => decide (m ∈ keysT chv)).map V.str))) := Ex.new hD
      have hD2 : (upd H D (.lst ((hs.filter fun m => decide (m ∈ keysT chv)).map V.str))) D = some (.lst ((hs.filter fun m => decide (m ∈ keysT chv)).map V.str)) := upd_same
      have hq2 := s2 _ _ hq1
      generalize upd H D (.lst ((hs.filter fun m => decide (m ∈ keysT chv)).map V.str)) = H2 at s2 hD2 hq2 ⊢
      refine ⟨_, rfl, D, _, rfl, .inl (SqL.of hD2), _, rfl, hh, hs.map V.str, rfl, .inr (SqT.of hq2), _, _, rfl, rfl, _, rfl, ?_⟩
      have raise : ∀ H', Ex H2 H' → chkH hs (keysT chv) = some "heard" → [V.str "heard"].length ≤ 1000 ∧ ∀ a, H' a = none → spBadI CB "word" (.ref a :: [V.str "heard"]) (upd H' a (exo a CB none)) (fun v' H2 => v' = .non ∧ ∃ (d : Addr) (fs : List (PySem.Str × V)), H2 a = some (exo a CB (some d)) ∧ H2 d = some (exd d fs) ∧ H' d = none ∧ E (.ref CB) (some d) (upd (del H2 a) d (.xd fs))) (fun _ _ _ => False) := fun H' x e => by
        rw [e] at q
        exact mkB_one fun d hd => q d _ ((s2.trans x).trans (Ex.new hd)) upd_same
      refine ite2 (fun h => ?_) (fun h => ?_)
      · have h := of_decide_eq_true h
        rw [List.length_map, List.length_map] at h
        refine raise H2 (Ex.refl _) (if_neg fun z => ?_)
        rw [List.filter_eq_self.mpr fun m hm => decide_eq_true (z.1 m hm)] at h
        omega
      · have h : ¬ (((hs.filter fun m => decide (m ∈ keysT chv)).length : Int) < (hs.length : Int)) := fun z => h (decide_eq_true (by rw [List.length_map, List.length_map]; exact z))
        have ef : (hs.filter fun m => decide (m ∈ keysT chv)) = hs := by
          refine List.filter_eq_self.mpr fun m hm => ?_
          refine Classical.byContradiction fun z => ?_
          have := (List.length_filter_lt_length_iff_exists (l := hs) (p := fun m => decide (m ∈ keysT chv))).mpr ⟨m, hm, z⟩
          omega
        rw [ef] at hD2
        have all : ∀ m ∈ hs, m ∈ keysT chv := fun m hm => of_decide_eq_true (List.filter_eq_self.mp ef m hm)
        refine ⟨_, rfl, D, hs, rfl, SqL.of hD2, h64, fun p n hp hle hn hn2 => ?_⟩
        have hpD : D ≠ p := ne_of_none hD2 hp
        refine ⟨p, _, n, rfl, upd_same, by omega, _, rfl, D, hs.map V.str, rfl, .inl (SqL.of (by rw [upd_ne hpD]; exact hD2)), _, _, rfl, rfl, _, rfl, ?_⟩
        refine ite2 (fun h => ?_) (fun h => ?_)
        · have h := of_decide_eq_true h
          rw [List.length_map] at h
          exact raise _ (Ex.new hp) (if_neg fun z => by have := hn z.2; omega)
        · have h : ¬ ((n : Int) < (hs.length : Int)) := fun z => h (decide_eq_true (by rw [List.length_map]; exact z))
          have : n = hs.length := by omega
          rw [show chkH hs (keysT chv) = none from if_pos ⟨all, hn2 this⟩] at q
          exact q _ (s2.trans (Ex.new hp))
theorem ok_chkCX {f C CB : Addr} {fd : FuncData} (F : Fun K "check_call" "check_call" sChkC f fd) (T : TxS K mg C) (TB : TxX K mg CB) (cB : CalBd P w K mg base CB "word") (c_is_name : Cal P w K mg base 1 "is_name" ["thing"] spNameV) (c_is_number : Cal P w K mg base 1 "is_number" ["thing", "low", "high"] spNumV) (c_chkH : CalX P w K mg base 4 "check_heard" ["heard", "channels"] (spChkHX CB)) :
    FnOk P w K mg base (L2.CX P w) 5 f fd ["name", "call", "channels"] (spChkCX K C CB) := by
  obtain ⟨fI, fdI, iC, tI, bI, FI⟩ := cB
  refine F.okX scChkC (fun vs H Q E h => ?_) (fun cdv A outer s H vs Q E hr h => ?_)
  · obtain ⟨c, o, ch, wt, hs, kvs, rfl, _⟩ := h
    rfl
  · obtain ⟨c, o, ch, wt, hs, chv, rfl, hc, ⟨⟨dx, hh, ho, hq⟩⟩, hch, h64, q⟩ := h
    obtain ⟨tl, gl⟩ := T.lim
    refine ⟨_, (pss_cons (ps_if (pt_not (pt_val (pe_cal c_is_name (hr.mono (by decide)) rfl (pa_cons (pv 0) pa_nil))))
        (pss_one (ps_raise rfl (takes_of rfl rfl rfl rfl) (pmk_B TB.T iC tI FI (hr.mono (by decide)) bI rfl TB.mg (pa_cons pe_str pa_nil))))
        pss_nil)
      (pss_cons (ps_if (pt_not (pt_val (pe_cal c_is_number (hr.mono (by decide)) rfl (pa_cons (pe_fld (pv 1) rfl) (pa_cons pe_int (pa_cons (pe_glob (by rfl) gl rel_int) pa_nil))))))
        (pss_one (ps_raise rfl (takes_of rfl rfl rfl rfl) (pmk_B TB.T iC tI FI (hr.mono (by decide)) bI rfl TB.mg (pa_cons pe_str pa_nil))))
        pss_nil)
      (pss_one (ps_expr (pe_calX c_chkH (hr.mono (by decide)) (by rfl) (fun σ => passAt (takes_of rfl rfl rfl rfl) σ) (pa_cons (pe_fld (pv 1) rfl) (pa_cons (pv 2) pa_nil))))))), ?_⟩
    refine ⟨_, rfl, .str c, rfl, hc, (fun b e => nomatch e), fun H1 x1 => ⟨_, rfl, ?_⟩⟩
    unfold chkC at q
    by_cases h1 : okN c
    · rw [if_pos h1] at q
      rw [show nameB (.str c) = true from decide_eq_true h1]
      refine ite2 (fun z => nomatch z) fun _ => ?_
      refine ⟨_, rfl, o, C, dx, _, _, rfl, x1 _ _ ho, T.cl, T.nW, rfl, .int wt, 0, 1000, rfl, (fun x e => nomatch e), trivial, _, rfl, ?_⟩
      cases h2 : numB 0 1000 (.int wt) with
      | true =>
        rw [h2, if_pos rfl] at q
        refine ite2 (fun z => nomatch z) fun _ => ?_
        refine ⟨_, rfl, o, C, dx, _, _, rfl, x1 _ _ ho, T.cl, T.nH, rfl, _, rfl, hh, ch, hs, chv, rfl, x1 _ _ hq, x1 _ _ hch, h64, ?_⟩
        show ErrOr CB H1 _ _ (chkH hs (keysT chv))
        have q : ErrOr CB H Q E (chkH hs (keysT chv)) := q
        cases h3 : chkH hs (keysT chv) with
        | none => rw [h3] at q; exact fun H2 x2 => q H2 (x1.trans x2)
        | some wd => rw [h3] at q; exact fun d H2 x2 hd => q d H2 (x1.trans x2) hd
      | false =>
        rw [h2, if_neg Bool.false_ne_true] at q
        refine ite2 (fun _ => ?_) (fun z => absurd rfl z)
        refine mkB_one fun d hd => ?_
        exact q d _ (x1.trans (Ex.new hd)) upd_same
    · rw [if_neg h1] at q
      rw [show nameB (.str c) = false from decide_eq_false h1]
      refine ite2 (fun _ => ?_) (fun z => absurd rfl z)
      refine mkB_one fun d hd => ?_
      exact q d _ (x1.trans (Ex.new hd)) upd_same
end
end Mc
namespace Mc
open PySem L2 PySem.Spec PyProof.Rows
section
variable {X : Cx}
theorem sw_dict {kx vx : Expr} {gs : List Comprehension} {scope : Scope} {pos py : Pos} {y : PySem.Str} {n : Nat} {env : Env} (h1 : env.scope.kind = .function) (h2 : env.scope.names.lookup y = some .local) (h3 : (py.line == pos.line) = true)
    (h4 : (scope.names.any fun (n, k) => n == y && (k == .local || k == .cell)) = false) : swapsWith (.DictComp kx vx gs scope pos) (some (.Name y py)) n env = pure true := by
  have a : env.kindOf y = some .local := h2
  have b : env.blockKind = .function := by simp only [Env.blockKind, h1]; rfl
  simp only [swapsWith, a, b, h4, Expr.pos, h3]; rfl
/-- name = {..} on one line, the name a plain local -/
theorem ps_setDc {i : Nat} {y : PySem.Str} {py : Pos} {kx vx tg iter : Expr} {ifs : List Expr} {scope : Scope} {own : List (PySem.Str × Nat)} {pos spos : Pos} {wi : TI} {g : TG} {tt : TT} {tk tv : TE} (hc : X.calm = true) (hN : X.N.Nodup) (hy : X.N[i]? = some y) (hl : X.env.scope.names.lookup y = some .local)
    (hsw : swapsWith (.DictComp kx vx [⟨tg, iter, ifs, 0⟩] scope pos) (some (.Name y py)) spos.line X.env = pure true) (hi : PI X tg iter wi) (ok : BlkOk X.N X.env.scope scope own)
    (pg : ∀ (s : Shared) (H : Hp) (C : Addr) (cl : List (PySem.Str × Addr)) (fp : List Addr), PG (X.blk s H scope (compEnvC scope cl C X.env) fp) tg g)
    (pt : ∀ (s : Shared) (H : Hp) (C : Addr) (cl : List (PySem.Str × Addr)) (fp : List Addr), PTs (X.blk s H scope (compEnvC scope cl C X.env) fp) ifs tt)
    (pk : ∀ (s : Shared) (H : Hp) (C : Addr) (cl : List (PySem.Str × Addr)) (fp : List Addr), PE (X.blk s H scope (compEnvC scope cl C X.env) fp) kx tk)
    (pe : ∀ (s : Shared) (H : Hp) (C : Addr) (cl : List (PySem.Str × Addr)) (fp : List Addr), PE (X.blk s H scope (compEnvC scope cl C X.env) fp) vx tv) (hs : ∀ x, foldedSetIterable iter X.env x = pure x := by intro _; rfl) :
    PS X (.Assign [.Name y py] (.DictComp kx vx [⟨tg, iter, ifs, 0⟩] scope pos) spos) (tAsg (tDc wi g tt tk tv (own.map (·.2))) (gName i)) := ⟨fun pins s σ H D I h => by
  have h' : tDc wi g tt tk tv (own.map (·.2)) σ H (fun x H1 => gName i x σ H1 D.nx) := h
  rw [exec_Assign_Name_used _ _ _ _ hsw]
  refine wpAny_bind (wpAny_standAt (wpAny_bind ?_))
  change wpAny _ X.A (comprehension (.DictComp kx vx [⟨tg, iter, ifs, 0⟩] scope pos) scope X.env (firstIterPos [⟨tg, iter, ifs, 0⟩] pos) newDict false (eval iter X.env) (some (assign (.Name y py) X.env)) >>= fun _ => pure ()) _ _ _
  refine wpAny_bind ?_
  refine thn (dc_core (Qf := fun _ t => SP X pins D .next t) hc hN I hi ok pg pt pk pe hs h' ?_) fun _ t ht => wpAny_pure (wpAny_pure ht)
  intro L C t m H' It q hn fo
  refine wpAny_assign_Name (store_ok2 (v := V.ref L) It hN hy (.inl hl) rfl (fun t2 I2 ⟨c, sb, wh⟩ => ?_) (.inr hl))
  obtain ⟨f0, f1, f2, f3, f4, f5⟩ := fo
  have ne : C ≠ c := wh.elim (fun z => z ▸ f1) fun z e => f4 y c z e.symm
  exact ⟨m, hn.sameBut sb ne, fun t3 sb3 => ⟨_, H', I2.turned (t' := t2.toks) (fun b o n e => (sb3.2 b n).trans e) f0 f1 f3 f4 f5, q⟩⟩⟩
end
end Mc
namespace Mc
open PySem L2 PySem.Spec PyProof.Rows Evl
/-! ### a dict that is walked where it is made: it stays locked -/
def tFrz (t : TE) : TE := fun σ H Q => t σ H fun x H1 => ∃ d u, x = .ref d ∧ H1 d = some u ∧ Mut (some u) ∧ ∀ o, Q x (upd H1 d (.frz o u))
theorem pe_frz {X : Cx} {e : Expr} {t : TE} (h : PE X e t) : PE X e (tFrz t) := ⟨fun pins s σ H Q I hw => thn (h.run pins s σ H _ I hw) fun v s1 hv => by
  obtain ⟨x, H1, I1, r1, d, u, rfl, hd, mu, q⟩ := hv
  obtain ⟨od, I2⟩ := I1.lock hd mu
  exact ⟨_, _, I2, r1, q od⟩⟩
/-! ### xs.count(text) -/
theorem cntS : ∀ {xs : List PySem.Str} {its : List Value} {k : PySem.Str}, Vals (xs.map V.str) its → its.countP (isS k) = xs.count k
  | [], _, _, .nil => rfl
  | x :: xs, _ :: us, k, .cons ⟨t, e⟩ r => by
    subst e
    rw [List.countP_cons, List.count_cons, cntS (k := k) r]
    have e2 : isS k (.str x t) = (x == k) := by
      show (x.cps.toList == k.cps.toList) = (x == k)
      by_cases h : x = k
      · subst h; simp
      · have n1 : ¬ x.cps.toList = k.cps.toList := fun z => h (str_ext z)
        rw [beq_eq_false_iff_ne.mpr n1, beq_eq_false_iff_ne.mpr h]
    rw [e2]
section
variable {X : Cx} {K : PySem.W.Frag}
def rCntS (K : PySem.W.Frag) : V → List V → Hp → VK → Prop := fun x xs H Q => ∃ (p : Addr) (ys : List PySem.Str) (k : PySem.Str), x = .ref p ∧ xs = [.str k] ∧ SqL K H p (ys.map V.str) ∧ Q (.int (ys.count k : Nat)) H
theorem mt_lcountS : MtR X "list.count" (rCntS X.K) := by
  intro pins s σ H x xs v us Q I rx rxs h
  obtain ⟨p, ys, k, rfl, rfl, hs, q⟩ := h
  cases rx
  obtain ⟨u, rfl, ru⟩ := rxs.one
  obtain ⟨t, rfl⟩ := ru
  obtain ⟨its, rv, ⟨⟨cls, dd, data, sl⟩, n, ho, hc, hdn, hd⟩, hlen⟩ := I.list hs
  simp only at hc hd
  subst hc hd
  refine call_meets PySem.F.slot_list_count ⟨_, ho, rfl⟩ PySem.F.entry_list_count (PySem.F.args_list_count_2 _ _) (SeqAt.list_countAt p its.toArray n dd sl (.str k t) (isS k)) ⟨ho, fun y hy => ?_, ?_⟩
  · obtain ⟨i, hi⟩ := List.mem_iff_getElem?.mp (show y ∈ its by simpa using hy)
    cases hx : ys[i]? with
    | none => rw [rv.none_of (by rw [List.getElem?_map, hx]; rfl)] at hi; cases hi
    | some z =>
      obtain ⟨w', h1, ⟨t', h2⟩⟩ := rv.get (i := i) (x := .str z) (by rw [List.getElem?_map, hx]; rfl)
      rw [hi] at h1; cases h1
      rw [h2]
      exact (SeqRoads2.EqGives.str z k t' t).at _ _
  · refine ⟨.int (ys.count k : Nat), H, I.tok _, ⟨s.toks, ?_⟩, q⟩
    show Value.int ((its.toArray.toList.countP (isS k) : Nat) : Int) s.toks = Value.int ((ys.count k : Nat) : Int) s.toks
    rw [List.toList_toArray, cntS rv]
theorem mt_lcountSK (h : X.K = K) : MtR X "list.count" (rCntS K) := by subst h; exact mt_lcountS
end
/-! ### {k: e for k in ..} as a map -/
section
variable {f : PySem.Str → V} {ys : List PySem.Str} {J : It} {n : Nat} {G : Hp → Prop} {te : TE} {vs : List Nat} {σ : L2.St} {H1 : Hp} {D : Addr} {Qd : Hp → Prop} {j : Nat}
def mkD (f : PySem.Str → V) (ys : List PySem.Str) : List (L2.Key × V) := ys.map fun y => (Sum.inr y, f y)
theorem mkD_put {y : PySem.Str} (h : y ∉ ys) (f : PySem.Str → V) : putK (mkD f ys) (Sum.inr y) (f y) = mkD f (ys ++ [y]) := by
  have e1 : mkD f ys = kvT id (ys.map fun y => (y, f y)) := by unfold mkD kvT; rw [List.map_map]; rfl
  have e2 := put_new (f := (id : V → V)) (l := ys.map fun y => (y, f y)) (k := y) (v := f y) (by rw [keysT_mk]; exact h)
  rw [e1]
  refine e2.trans ?_
  unfold mkD kvT
  rw [List.map_append, List.map_map, List.map_append]
  rfl
theorem dc_m (w : Walk J n G (YAt (ys.map V.str))) (f : PySem.Str → V) (hn : n = ys.length) (nd : ys.Nodup) (hD : H1 D = none) (hG : ∀ H', Same H1 H' → G H') (hz : ys.length ≤ sizeLine)
    (turn : ∀ (i : Nat) (y : PySem.Str) (H' : Hp) (k : VK), ys[i]? = some y → Same H1 H' → (∀ H4, Same H' H4 → k (f y) H4) → te ((wipe σ vs).set j (some (.str y))) H' k)
    (hd : ∀ H', Same H1 H' → H' D = some (.dK (mkD f ys)) → Qd H') (hj : ∀ v, ((wipe σ vs).set j (some v))[j]? = some (some v) := by intro _; rfl) (hw : ∀ v, wipe ((wipe σ vs).set j (some v)) vs = wipe σ vs := by intro _; rfl) :
    ∃ W : Nat → Nat → Hp → Prop, (∃ m, W 0 m (upd H1 D (.dK []))) ∧ ∀ i m H, W i m H →
      (J.stop i H ∧ Qd H) ∨ (J.go i H ∧ ∃ Nx : Hp → Prop, (∀ H', Nx H' → ∃ m', m' < m ∧ W (i + 1) m' H') ∧ ∀ x H', J.yld i H x H' → gName j x (wipe σ vs) H' fun σ2 H2 => wipe σ2 vs = wipe σ vs ∧ tYes σ2 H2 fun b H3 =>
        if b = true then tVar j σ2 H3 fun y H4 => te σ2 H4 fun z H5 => ∃ kvs k, y = kV k ∧ H5 D = some (.dK kvs) ∧ kvs.length < sizeLine ∧ Nx (upd H5 D (.dK (putK kvs k z))) else Nx H3) := by
  refine ⟨fun i m H => m = n - i ∧ i ≤ n ∧ Same H1 H ∧ H D = some (.dK (mkD f (ys.take i))), ⟨n, by simp, Nat.zero_le _, Same.new hD, upd_same⟩, ?_⟩
  rintro i m H ⟨rfl, hi, s1, d1⟩
  by_cases hlt : i < n
  · refine .inr ⟨w.goes i H hlt (hG H s1), fun H' => Same H1 H' ∧ H' D = some (.dK (mkD f (ys.take (i + 1)))), fun H' p' => ⟨n - (i + 1), by omega, rfl, hlt, p'⟩, fun x H' y => ?_⟩
    obtain ⟨rfl, hx⟩ := w.yields i H x H' hlt (hG H s1) y
    rw [List.getElem?_map] at hx
    cases e : ys[i]? with
    | none => rw [e] at hx; cases hx
    | some c =>
      rw [e] at hx
      obtain rfl := Option.some.inj hx
      refine ⟨hw _, yes_ite ⟨_, hj _, turn i c _ _ e s1 fun H4 s4 => ⟨_, Sum.inr c, rfl, s4 _ _ d1, ?_, ?_, ?_⟩⟩⟩
      · unfold mkD; rw [List.length_map, List.length_take]; omega
      · exact fun b o z => by
          have nb : b ≠ D := ne_of_none z hD
          rw [upd_ne nb]
          exact s4 _ _ (s1 _ _ z)
      · rw [upd_same, mkD_put (nd_take nd e), List.take_add_one, e]
        rfl
  · obtain rfl : i = n := by omega
    subst hn
    rw [List.take_length] at d1
    exact .inl ⟨w.stops H (hG H s1), hd H s1 d1⟩
/-- a new dict -/
def EvD (te : TE) (σ : L2.St) (H : Hp) (kvs : List (L2.Key × V)) : Prop := ∀ H1, Ex H H1 → ∀ Q : VK, (∀ p H2, H1 p = none → Ex H1 H2 → H2 p = some (.dK kvs) → Q (.ref p) H2) → te σ H1 Q
theorem mkD_kvT {β : Type} {g : β → V} {h : PySem.Str → β} (ys : List PySem.Str) : mkD (fun y => g (h y)) ys = kvT g (ys.map fun y => (y, h y)) := by unfold mkD kvT; rw [List.map_map]; rfl
section
variable {K : PySem.W.Frag} {H : Hp} {tl : TE} {a : Addr}
theorem ed_N (f : PySem.Str → V) (nd : ys.Nodup) (hl : EvL tl σ H (ys.map V.str)) (hz : ys.length ≤ 100000) (turn : ∀ (i : Nat) y, ys[i]? = some y → ∀ H', Ex H H' → Ev te ((wipe σ vs).set j (some (.str y))) H' (f y)) (hj : ∀ v, ((wipe σ vs).set j (some v))[j]? = some (some v) := by intro _; rfl) (hw : ∀ v, wipe ((wipe σ vs).set j (some v)) vs = wipe σ vs := by intro _; rfl) :
    EvD (tDc (iList K tl) (gName j) tYes (tVar j) te vs) σ H (mkD f ys) := fun H1 e Q q => hl H1 e _ fun a H2 ha e2 h2 => ⟨a, rfl, ⟨_, sq_of h2⟩, fun D hD =>
  dc_m (j := j) (ys := ys) walk_list f (by rw [List.length_map]) nd hD (fun H' s => sq_of (s _ _ h2)) (sz_of hz) (fun i y H' k hy s hk => turn i y hy H' ((e.trans e2).trans s) H' (Ex.refl _) k hk) (fun H' s hD' => q D H' (fresh_back e2 hD) (e2.trans s) hD') hj hw⟩
theorem ed_K {β : Type} {g : β → V} {l : List (PySem.Str × β)} {o : Obj} (f : PySem.Str → V) (nd : (keysT l).Nodup) (hl : Ev tl σ H (.ref a)) (h : H a = some (.frz o (.dK (kvT g l)))) (hz : l.length ≤ 100000) (turn : ∀ (i : Nat) y, (keysT l)[i]? = some y → ∀ H', Ex H H' → Ev te ((wipe σ vs).set j (some (.str y))) H' (f y)) (hj : ∀ v, ((wipe σ vs).set j (some v))[j]? = some (some v) := by intro _; rfl) (hw : ∀ v, wipe ((wipe σ vs).set j (some v)) vs = wipe σ vs := by intro _; rfl) :
    EvD (tDc (iKeys tl) (gName j) tYes (tVar j) te vs) σ H (mkD f (keysT l)) := fun H1 e Q q => hl H1 e _ fun H2 e2 => ⟨a, o, rfl, .inl ⟨_, e2 _ _ (e _ _ h), fun D hD =>
  dc_m (j := j) (ys := keysT l) walk_kT f rfl nd hD (fun H' s => s _ _ (e2 _ _ (e _ _ h))) (by unfold keysT; rw [List.length_map]; exact sz_of hz) (fun i y H' k hy s hk => turn i y hy H' ((e.trans e2).trans s) H' (Ex.refl _) k hk) (fun H' s hD' => q D H' (fresh_back e2 hD) (e2.trans s) hD') hj hw⟩⟩
theorem ed_lock {kvs xs : List (L2.Key × V)} (h : H a = some (.dK kvs)) (k : ∀ od, EvD te σ (upd H a (.frz od (.dK kvs))) xs) : EvD (tLockE te) σ H xs := fun H1 e Q q => by
  have h1 := e _ _ h
  refine ⟨a, _, h1, trivial, fun od => k od _ (ex_lock e) _ fun p H2 hp e2 h2 => ?_⟩
  have na : p ≠ a := fun z => by rw [z, upd_same] at hp; cases hp
  exact ⟨e2 _ _ upd_same, q p _ (by rw [upd_ne na] at hp; exact hp) (ex_unlock h1 e2) (by rw [upd_ne na]; exact h2)⟩
end
end
end Mc
namespace Mc
open PySem L2 PySem.Spec PyProof.Rows Evl
theorem rising_pw : ∀ (r : List PySem.Str) (p : PySem.Str), risingS p r = true → (p :: r).Pairwise fun a b => ¬ ltN b a
  | [], p, _ => List.pairwise_singleton _ _
  | x :: r, p, h => by
    unfold risingS at h
    rw [Bool.and_eq_true] at h
    have ih := rising_pw r x h.2
    have px : ¬ ltN x p := by
      have h1 := h.1
      rw [ltCps_eq] at h1
      intro z
      rw [decide_eq_true (show x.cps.toList < p.cps.toList from z)] at h1
      cases h1
    refine List.pairwise_cons.mpr ⟨fun y hy => ?_, ih⟩
    rcases List.mem_cons.mp hy with e | e
    · rw [e]; exact px
    · intro z
      have xy := (List.pairwise_cons.mp ih).1 y e
      by_cases ep : p = x
      · rw [ep] at z; exact xy z
      · by_cases ey : y = x
        · rw [ey] at z; exact px z
        · exact ltN_irr _ (ltN_trans (ltN_trans (ltN_tri px fun q => ep q.symm) (ltN_tri xy ey)) z)
theorem srt_pw {ys : List PySem.Str} (h : sortedS ys = true) : ys.Pairwise fun a b => ¬ ltN b a := by
  cases ys with
  | nil => exact .nil
  | cons x r => exact rising_pw r x h
theorem srt_eq {ys zs : List PySem.Str} (hp : ys.Perm zs) (h1 : sortedS ys = true) (h2 : sortedS zs = true) : ys = zs :=
  List.Perm.eq_of_pairwise (le := fun a b => ¬ ltN b a) (fun a b _ _ h k => Classical.byContradiction fun n => h (ltN_tri k n)) (srt_pw h1) (srt_pw h2) hp
theorem perm_nd {α : Type} [DecidableEq α] {a b : List α} (h1 : a.Nodup) (h2 : b.Nodup) (h : ∀ x, x ∈ a ↔ x ∈ b) : a.Perm b := by
  refine List.perm_iff_count.mpr fun x => ?_
  by_cases e : x ∈ a
  · rw [h1.count, h2.count, if_pos e, if_pos ((h x).mp e)]
  · rw [h1.count, h2.count, if_neg e, if_neg fun z => e ((h x).mpr z)]
def pdS (xs : List PySem.Str) : PyData := .list (xs.map PyData.str)
theorem dpAllS (K : PySem.W.Frag) (H : Hp) : ∀ xs : List PySem.Str, DpAll K H (xs.map V.str) (xs.map PyData.str)
  | [] => .nil
  | x :: xs => .cons (.str x) (dpAllS K H xs)
theorem dpS {K : PySem.W.Frag} {H : Hp} {a : Addr} {xs : List PySem.Str} (h : SqL K H a (xs.map V.str)) : Dp K H (.ref a) (pdS xs) := .lst h (dpAllS K H xs)
theorem lay_of {x : PySem.Str} (h : PyData.strOk x = true) : PyData.canLay0 (.str x) = true := by rw [PyData.canLay0]; exact h
theorem layS : ∀ xs : List PySem.Str, (∀ x ∈ xs, PyData.strOk x = true) → PyData.canLayAll0 (xs.map PyData.str) = true
  | [], _ => rfl
  | x :: xs, h => by
    show (PyData.canLay0 (.str x) && PyData.canLayAll0 (xs.map PyData.str)) = true
    rw [layS xs fun y hy => h y (.tail _ hy), lay_of (h x (.head _))]; rfl
theorem depS : ∀ xs : List PySem.Str, PyData.depthAll (xs.map PyData.str) = 0
  | [] => rfl
  | x :: xs => by
    show max (PyData.depth (.str x)) (PyData.depthAll (xs.map PyData.str)) = 0
    rw [depS xs]; rfl
theorem shapedS {xs : List PySem.Str} (hx : ∀ x ∈ xs, PyData.strOk x = true) : SeqAt.shaped (pdS xs) = true := by
  have h : PyData.depth (pdS xs) = PyData.depthAll (xs.map PyData.str) + 1 := by unfold pdS; rw [PyData.depth]
  have h2 : (pdS xs).canLay0 = true := by unfold pdS; rw [PyData.canLay0]; exact layS xs hx
  unfold SeqAt.shaped
  rw [h, depS, h2]; rfl
theorem eqvS (xs : List PySem.Str) : PyData.eqv (pdS xs) (pdS xs) = true := by
  unfold pdS
  rw [PyData.eqv]
  induction xs with
  | nil => rfl
  | cons x xs ih =>
    show (PyData.eqv (.str x) (.str x) && PyData.eqvAll (xs.map PyData.str) (xs.map PyData.str)) = true
    rw [ih]
    simp [PyData.eqv]
theorem eqvAllS : ∀ xs ys : List PySem.Str, PyData.eqvAll (xs.map PyData.str) (ys.map PyData.str) = decide (xs = ys)
  | [], [] => rfl
  | [], y :: ys => by simp [PyData.eqvAll]
  | x :: xs, [] => by simp [PyData.eqvAll]
  | x :: xs, y :: ys => by
    show (PyData.eqv (.str x) (.str y) && PyData.eqvAll (xs.map PyData.str) (ys.map PyData.str)) = _
    rw [eqvAllS xs ys]
    have : PyData.eqv (.str x) (.str y) = (x == y) := by rw [PyData.eqv]
    rw [this]
    by_cases h : x = y <;> simp [h]
theorem eqvLS (xs ys : List PySem.Str) : PyData.eqv (pdS xs) (pdS ys) = decide (xs = ys) := by
  unfold pdS
  rw [PyData.eqv]
  exact eqvAllS xs ys
def pdTS (xs : List PySem.Str) : PyData := .tuple (xs.map PyData.str)
theorem eqvTS (xs ys : List PySem.Str) : PyData.eqv (pdTS xs) (pdTS ys) = decide (xs = ys) := by
  unfold pdTS
  rw [PyData.eqv]
  exact eqvAllS xs ys
theorem shapedTS {xs : List PySem.Str} (hx : ∀ x ∈ xs, PyData.strOk x = true) : SeqAt.shaped (pdTS xs) = true := by
  have h : PyData.depth (pdTS xs) = PyData.depthAll (xs.map PyData.str) + 1 := by unfold pdTS; rw [PyData.depth]
  have h2 : (pdTS xs).canLay0 = true := by unfold pdTS; rw [PyData.canLay0]; exact layS xs hx
  unfold SeqAt.shaped
  rw [h, depS, h2]; rfl
theorem dpTS {K : PySem.W.Frag} {H : Hp} {a : Addr} {xs : List PySem.Str} (h : SqT K H a (xs.map V.str)) : Dp K H (.ref a) (pdTS xs) := .tup h (dpAllS K H xs)
section
variable {K : PySem.W.Frag} {H : Hp} {p q : Addr} {xs ys : List PySem.Str}
theorem rv_eqSL (hp : SqL K H p (xs.map V.str)) (hq : SqL K H q (ys.map V.str)) (ox : ∀ x ∈ xs, PyData.strOk x = true) (oy : ∀ x ∈ ys, PyData.strOk x = true) : RV (rEqD K) (.ref p) (.ref q) H (.bl (decide (xs = ys))) := fun H1 e _ k =>
  ⟨_, _, dpS (ex_l e hp), dpS (ex_l e hq), shapedS ox, shapedS oy, by rw [eqvLS]; exact k H1 (Ex.refl _)⟩
theorem rv_neSL (hp : SqL K H p (xs.map V.str)) (hq : SqL K H q (ys.map V.str)) (ox : ∀ x ∈ xs, PyData.strOk x = true) (oy : ∀ x ∈ ys, PyData.strOk x = true) : RV (rNeD K) (.ref p) (.ref q) H (.bl (!decide (xs = ys))) := fun H1 e _ k =>
  ⟨_, _, dpS (ex_l e hp), dpS (ex_l e hq), shapedS ox, shapedS oy, by rw [eqvLS]; exact k H1 (Ex.refl _)⟩
theorem rv_eqST (hp : SqT K H p (xs.map V.str)) (hq : SqT K H q (ys.map V.str)) (ox : ∀ x ∈ xs, PyData.strOk x = true) (oy : ∀ x ∈ ys, PyData.strOk x = true) : RV (rEqD K) (.ref p) (.ref q) H (.bl (decide (xs = ys))) := fun H1 e _ k =>
  ⟨_, _, dpTS (ex_t e hp), dpTS (ex_t e hq), shapedTS ox, shapedTS oy, by rw [eqvTS]; exact k H1 (Ex.refl _)⟩
theorem rv_neST (hp : SqT K H p (xs.map V.str)) (hq : SqT K H q (ys.map V.str)) (ox : ∀ x ∈ xs, PyData.strOk x = true) (oy : ∀ x ∈ ys, PyData.strOk x = true) : RV (rNeD K) (.ref p) (.ref q) H (.bl (!decide (xs = ys))) := fun H1 e _ k =>
  ⟨_, _, dpTS (ex_t e hp), dpTS (ex_t e hq), shapedTS ox, shapedTS oy, by rw [eqvTS]; exact k H1 (Ex.refl _)⟩
end
theorem asc_eq {ys zs : List PySem.Str} (n1 : ys.Nodup) (n2 : zs.Nodup) (h1 : sortedS ys = true) (h2 : sortedS zs = true) (h : ∀ x, x ∈ ys ↔ x ∈ zs) : ys = zs := srt_eq (perm_nd n1 n2 h) h1 h2
theorem sorted_of_pw {ys : List PySem.Str} (h : ys.Pairwise fun a b => ltN a b) : sortedS ys = true := by
  refine sortedS_of_pairwise ys (h.imp fun {a b} z => ?_)
  rw [ltCps_eq]
  exact decide_eq_false (List.not_lt.mpr (List.le_of_lt z))
end Mc
namespace Mc
open PySem L2 PySem.Spec PyProof.Rows
/-- try: .. except C as n: .., its reading by a name -/
def tTryAs (K : PySem.W.Frag) (c : Value) (i : Nat) (tb : WX → TS) (ts : Addr → Value → Option Addr → TS) (Wout : WX) : TS := fun D σ H => tb (wAs K c i ts Wout D) D σ H
theorem ps_tryAs {X : Cx} {x n : Str} {c : Value} {i : Nat} {body suite : List Stmt} {b₀ : Stmt} {np pos pos' : Pos} {tb : WX → TS} {ts : Addr → Value → Option Addr → TS} {Wout : WX} (hs : X.stack = X.env :: X.outer) (hf : X.env.frame = some X.env.locals) (hN : X.N.Nodup) (hi : X.N[i]? = some n) (hln : X.env.kindOf n = some .local) (hc : Names X x c) (tk : Takes X Wout)
    (hb : ∀ (W : WX) (pn : List (Addr × Obj)) (xe : Value → Shared → Prop), Takes (X.tr pn xe) W → PassesOwn (model X.prog X.w) X.A X.env xe → PSs (X.tr pn xe) body (tb W))
    (hsu : ∀ (a : Addr) (oe : Obj) (cls : Value) (d : Option Addr) (pn : List (Addr × Obj)), Zc cls d oe → (∃ vs, oe.data = .fields vs) → PSs (X.suite a ((a, oe) :: pn)) (b₀ :: suite) (ts a cls d)) :
    PS X (.Try body [.ExceptHandler (some (.Name x np)) (some n) (b₀ :: suite) pos'] [] [] pos) (tTryAs X.K c i tb ts Wout) := ps_try_as hs hf hN hi hln hc tk hb hsu
end Mc
namespace Mc
open PySem L2 PySem.Spec PyProof.Rows Evl
/-! scenes that are none; _law_fault -/
abbrev sFault : Stmt := top 25
def FirstBad {α : Type} (l : List α) (f : α → Option PySem.Str) (wd : PySem.Str) : Prop := ∃ (i : Nat) (x : α), l[i]? = some x ∧ f x = some wd ∧ ∀ (j : Nat) y, j < i → l[j]? = some y → f y = none
abbrev vV : V → V := id
def mastF (x : PySem.Str × V) : Option PySem.Str := chkM x.1 x.2
def callF (ks : List PySem.Str) (x : PySem.Str × CD) : Option PySem.Str := chkC x.1 x.2 ks
/-- what is wrong first -/
def SceneBad (chv : List (PySem.Str × V)) (cls : Cls') (wd : PySem.Str) : Prop := FirstBad chv mastF wd ∨ (∀ x ∈ chv, mastF x = none) ∧ FirstBad cls (callF (keysT chv)) wd
structure OkX (chv : List (PySem.Str × V)) (cls : Cls') : Prop where
  nd : (keysT chv).Nodup
  ndc : (keysT cls).Nodup
  len : chv.length < 64
  lenc : cls.length < 64
  ch : ∀ x ∈ chv, x.1.length ≤ 100 ∧ (∀ s, x.2 ≠ .str s) ∧ Plain x.2
  cl : ∀ x ∈ cls, x.1.length ≤ 100 ∧ x.2.2.2.length < 64
def spSInitX (K : PySem.W.Frag) (CS CC CB : Addr) : Sp := fun vs H _ E => ∃ (p dx ch cl : Addr) (chv : List (PySem.Str × V)) (cls : Cls') (wd : PySem.Str), vs = [.ref p, .ref ch, .ref cl] ∧ ch ≠ cl ∧ H p = some (.ins CS dx []) ∧ H ch = some (.dK (kvT vV chv)) ∧ H cl = some (.dK (kvT vO cls)) ∧ OkX chv cls ∧ CallsH K CC H cls ∧ SceneBad chv cls wd ∧
  ∀ d H', (∀ u o, u ≠ ch → u ≠ cl → H u = some o → H' u = some o) → H' d = some (.xd [("word", .str wd)]) → E (.ref CB) (some d) H'
section
variable {P : Program} {w : World} {K : PySem.W.Frag} {mg : PySem.Str → Option Value} {base : Heap}
theorem ok_sinitX {f CS CC CB : Addr} {fd : FuncData} (F : Fun K "__init__" "Scene.__init__" sSInit f fd) (c_check_mast : CalX P w K mg base 4 "check_mast" ["mast", "many"] (spChkMX CB)) (c_check_call : CalX P w K mg base 5 "check_call" ["name", "call", "channels"] (spChkCX K CC CB)) :
    FnOk P w K mg base (L2.CX P w) 6 f fd ["self", "channels", "calls"] (spSInitX K CS CC CB) := by
  refine F.okX scSI (fun vs H Q E h => ?_) (fun cdv A outer s H vs Q E hr h => ?_)
  · obtain ⟨p, dx, ch, cl, chv, cls, wd, rfl, _⟩ := h
    rfl
  · obtain ⟨p, dx, ch, cl, chv, cls, wd, rfl, hne, hp, hch, hcl, ok, hC, B, q⟩ := h
    have hu := hu_of hr
    refine ⟨_, (pss_cons (ps_lock (ps_for (passes_of rfl) rfl (pi_keys (pv 1)) (pg_name (i := 3) scSI.nd rfl (Or.inl rfl))
        (pss_one (ps_expr (pe_calX c_check_mast (hr.mono (by decide)) (by rfl) (fun σ => passAt (takes_of rfl rfl rfl rfl) σ) (pa_cons (pv 3) (pa_cons (pe_dget hu (pv 1) (pv 3) (fun _ _ => rfl)) pa_nil)))))))
      (pss_cons (ps_lock (ps_for (passes_of rfl) rfl (pi_keys (pv 2)) (pg_name (i := 4) scSI.nd rfl (Or.inl rfl))
        (pss_one (ps_expr (pe_calX c_check_call (hr.mono (by decide)) (by rfl) (fun σ => passAt (takes_of rfl rfl rfl rfl) σ) (pa_cons (pv 4) (pa_cons (pe_dget hu (pv 2) (pv 4) (fun _ _ => rfl)) (pa_cons (pv 1) pa_nil))))))))
      (pss_cons ps_no (pss_one ps_no)))), ?_⟩
    have nn : ∀ {b o}, H b = some o → (∀ kvs, o ≠ .dK kvs) → b ≠ ch ∧ b ≠ cl := fun {b o} z n => ⟨fun e => by rw [e, hch] at z; exact n _ (Option.some.inj z).symm, fun e => by rw [e, hcl] at z; exact n _ (Option.some.inj z).symm⟩
    refine ⟨ch, _, hch, trivial, fun od => ⟨_, rfl, ch, od, rfl, .inl ⟨_, upd_same, for_it walk_keys (fun j σ H' => (∃ v3 v4, σ = [some (.ref p), some (.ref ch), some (.ref cl), v3, v4]) ∧ Ex (upd H ch (.frz od (.dK (kvT vV chv)))) H' ∧ ∀ y, (chv.take j).find? (fun x => (mastF x).isSome) = some y → False) ⟨⟨_, _, rfl⟩, Ex.refl _, fun y h => nomatch h⟩ (fun i σ H' _ pv => pv.2.1 _ _ upd_same) ?_ ?_⟩⟩⟩
    · rintro j x σ _ H1 hi ⟨⟨v3, v4, rfl⟩, x1, hb⟩ ⟨rfl, kk, v, hk, rfl⟩
      obtain ⟨y, hy, rfl, rfl⟩ := kvT_get hk
      have hm : y ∈ chv := List.mem_of_getElem? hy
      obtain ⟨o1, o2, o3⟩ := ok.ch y hm
      refine ⟨_, rfl, _, rfl, _, rfl, ch, _, rfl, dgetT (f := vV) (.inr ⟨od, x1 _ _ upd_same⟩) (getT_mem ok.nd hm), y.1, y.2, rfl, o1, o2, o3, ?_⟩
      have pre : ∀ z ∈ chv.take j, mastF z = none := fun z hz => by
        cases e : (chv.take j).find? (fun x => (mastF x).isSome) with
        | some w => exact (hb w e).elim
        | none =>
          have := List.find?_eq_none.mp e z hz
          cases e2 : mastF z with
          | none => rfl
          | some _ => rw [e2] at this; exact absurd rfl this
      have et : chv.take (j + 1) = chv.take j ++ [y] := by rw [List.take_add_one, hy]; rfl
      show ErrOr CB _ _ _ (mastF y)
      cases e : mastF y with
      | none =>
        refine fun H2 x2 => ⟨⟨_, _, rfl⟩, x1.trans x2, fun z hz => ?_⟩
        have h1 := List.find?_some hz
        have h2 := List.mem_of_find?_eq_some hz
        rw [et] at h2
        rcases List.mem_append.mp h2 with h2 | h2
        · rw [pre z h2] at h1; cases h1
        · rw [List.mem_singleton.mp h2, e] at h1; cases h1
      | some wd' =>
        have ew : wd' = wd := by
          rcases B with ⟨i, x, hx, hf, hl⟩ | ⟨h, _⟩
          · rcases Nat.lt_trichotomy i j with h | h | h
            · have : x ∈ chv.take j := List.mem_of_getElem? (i := i) (by rw [List.getElem?_take, if_pos h]; exact hx)
              rw [pre x this] at hf; cases hf
            · subst h
              rw [hy] at hx; cases hx
              rw [e] at hf; exact Option.some.inj hf
            · rw [hl j y h hy] at e; cases e
          · rw [h y hm] at e; cases e
        subst ew
        exact fun d H2 x2 hd => q d H2 (fun u o n1 n2 z => x2 _ _ (x1 _ _ (by rw [upd_ne n1]; exact z))) hd
    · rintro σ H1 ⟨⟨v3, v4, rfl⟩, x1, hb⟩
      rw [show (kvT vV chv).length = chv.length by unfold kvT; rw [List.length_map], List.take_length] at hb
      refine ⟨x1 _ _ upd_same, ?_⟩
      obtain ⟨i, x, hx, hf, hl⟩ : FirstBad cls (callF (keysT chv)) wd := by
        rcases B with ⟨i, x, hx, hf, hl⟩ | ⟨_, h⟩
        · exfalso
          cases e : chv.find? (fun x => (mastF x).isSome) with
          | some w => exact hb w e
          | none =>
            have := List.find?_eq_none.mp e x (List.mem_of_getElem? hx)
            rw [hf] at this; exact this rfl
        · exact h
      have x2 : Ex H (upd H1 ch (.dK (kvT vV chv))) := ex_unlock hch x1
      generalize upd H1 ch (.dK (kvT vV chv)) = H2 at x2 ⊢
      have hcl2 := x2 _ _ hcl
      have hch2 := x2 _ _ hch
      have li := (List.getElem?_eq_some_iff.mp hx).1
      refine ⟨cl, _, hcl2, trivial, fun od2 => ⟨_, rfl, cl, od2, rfl, .inl ⟨_, upd_same, for_it walk_keys (fun j σ H' => (∃ v3 v4, σ = [some (.ref p), some (.ref ch), some (.ref cl), v3, v4]) ∧ Ex (upd H2 cl (.frz od2 (.dK (kvT vO cls)))) H' ∧ j ≤ i) ⟨⟨_, _, rfl⟩, Ex.refl _, Nat.zero_le _⟩ (fun i σ H' _ pv => pv.2.1 _ _ upd_same) ?_ ?_⟩⟩⟩
      · rintro j y' σ _ H3 hi ⟨⟨v3, v4, rfl⟩, x3, hji⟩ ⟨rfl, kk, v, hk, rfl⟩
        obtain ⟨y, hy, rfl, rfl⟩ := kvT_get hk
        have hm : y ∈ cls := List.mem_of_getElem? hy
        obtain ⟨o1, o2⟩ := ok.cl y hm
        obtain ⟨dx', h', c1, c2⟩ := (hC y hm).here
        have far : ∀ b, b ≠ cl → ∀ o, H b = some o → H3 b = some o := fun b n o z => x3 _ _ (by rw [upd_ne n]; exact x2 _ _ z)
        refine ⟨_, rfl, _, rfl, _, rfl, cl, _, rfl, dgetT (f := vO) (.inr ⟨od2, x3 _ _ upd_same⟩) (getT_mem ok.ndc hm), _, rfl, y.1, y.2.1, ch, y.2.2.1, y.2.2.2, chv, rfl, o1, ⟨dx', h', far _ (nn c1 fun _ => by simp).2 _ c1, far _ (nn c2 fun _ => by simp).2 _ c2⟩, far _ hne _ hch, o2, ?_⟩
        show ErrOr CB _ _ _ (callF (keysT chv) y)
        rcases Nat.lt_or_ge j i with h | h
        · rw [hl j y h hy]
          exact fun H4 x4 => ⟨⟨_, _, rfl⟩, x3.trans x4, h⟩
        · obtain rfl : j = i := Nat.le_antisymm hji h
          rw [hx] at hy; cases hy
          rw [hf]
          exact fun d H4 x4 hd => q d H4 (fun u o n1 n2 z => x4 _ _ (far _ n2 _ z)) hd
      · rintro σ H3 ⟨_, _, h⟩
        rw [show (kvT vO cls).length = cls.length by unfold kvT; rw [List.length_map]] at h
        omega
structure TxFt (K : PySem.W.Frag) (mg : PySem.Str → Option Value) (CB : Addr) : Prop where
  mgB : mg "BadScene" = some (.ref CB)
  xf : XfC K CB
  nW : PySem.W.findIn K (.ref CB) "word" = some none
  te : PySem.W.exmOne K (.ref CB) (.ref CB) = some true
def spFault (K : PySem.W.Frag) (CC : Addr) : Sp := fun vs H Q _ => ∃ (ch cl : Addr) (chv : List (PySem.Str × V)) (cls : Cls'), vs = [.ref ch, .ref cl] ∧ ch ≠ cl ∧ H ch = some (.dK (kvT vV chv)) ∧ H cl = some (.dK (kvT vO cls)) ∧ CallsH K CC H cls ∧
  ((∃ wd, OkX chv cls ∧ SceneBad chv cls wd ∧ ∀ H', (∀ u o, u ≠ ch → u ≠ cl → H u = some o → H' u = some o) → Q (.str wd) H') ∨
   (∃ chs : Chs, kvT vV chv = kvT vI chs ∧ OkC chs cls ∧ ∀ H', (∀ u o, u ≠ ch → u ≠ cl → H u = some o → H' u = some o) → Q .non H'))
theorem scFt : FnScope ["channels", "calls", "fault"] ["channels", "calls"] (defScope sFault) := ⟨rfl, rfl, rfl, by decide +kernel, rfl, by decide +kernel, by decide +kernel⟩
theorem ok_fault {f CS CC CB : Addr} {fd : FuncData} (F : Fun K "_law_fault" "_law_fault" sFault f fd) (T : TxFt K mg CB) (c_SceneX : CalIX P w K mg base CS 6 "Scene" ["self", "channels", "calls"] (spSInitX K CS CC CB)) (c_Scene : CalI P w K mg base CS 4 "Scene" ["self", "channels", "calls"] (spSInit K CS CC)) :
    FnOk P w K mg base CX0 8 f fd ["channels", "calls"] (spFault K CC) := by
  refine F.ok scFt (fun vs H Q E h => ?_) (fun cdv A outer s H vs Q E hr h => ?_)
  · obtain ⟨ch, cl, chv, cls, rfl, _⟩ := h
    rfl
  · obtain ⟨ch, cl, chv, cls, rfl, hne, hch, hcl, hC, h⟩ := h
    rcases h with ⟨wd, ok, B, q⟩ | ⟨chs, ek, ok, q⟩
    · refine ⟨_, (pss_cons (ps_tryAs (i := 2) (Wout := fun _ _ _ _ => False) rfl rfl scFt.nd rfl rfl ⟨by rfl, by decide, Or.inl T.mgB⟩ L2.takes0
          (fun W pn xe tk _ => pss_one (ps_expr (pe_calIX c_SceneX (hr.mono (by decide)) (by rfl) (fun σ => passAt tk σ) (pa_cons (pv 0) (pa_cons (pv 1) pa_nil)))))
          (fun a oe cls d pn hz hf => pss_one (ps_ret (pe_xf T.xf T.nW hz hf (pv 2)))))
        (pss_one (ps_ret pe_non))), ?_⟩
      refine ⟨_, rfl, _, rfl, fun x dx hx hdx _ => ?_⟩
      have s1 : Same H (upd (upd H dx (.own x)) x (.ins CS dx [])) := fun b o z => by rw [upd_ne (ne_of_none z hx), upd_ne (ne_of_none z hdx)]; exact z
      refine ⟨x, dx, ch, cl, chv, cls, wd, rfl, hne, upd_same, s1 _ _ hch, s1 _ _ hcl, ok, hC.same s1, B, fun d2 H' k hd2 => ?_⟩
      refine ⟨true, T.te, fun _ a0 _ => ?_, fun q => Bool.noConfusion q⟩
      exact ⟨_, rfl, rfl, rfl, d2, _, _, rfl, hd2, rfl, q H' fun u o n1 n2 z => k u o n1 n2 (s1 _ _ z)⟩
    · refine ⟨_, (pss_cons (ps_tryAs (i := 2) (Wout := fun _ _ _ _ => False) rfl rfl scFt.nd rfl rfl ⟨by rfl, by decide, Or.inl T.mgB⟩ L2.takes0
          (fun W pn xe tk _ => pss_one (ps_expr (pe_calI c_Scene (hr.mono (by decide)) (by rfl) (pa_cons (pv 0) (pa_cons (pv 1) pa_nil)))))
          (fun a oe cls d pn hz hf => pss_one (ps_ret (pe_xf T.xf T.nW hz hf (pv 2)))))
        (pss_one (ps_ret pe_non))), ?_⟩
      refine ⟨_, rfl, _, rfl, fun x dx hx hdx _ => ?_⟩
      have s1 : Same H (upd (upd H dx (.own x)) x (.ins CS dx [])) := fun b o z => by rw [upd_ne (ne_of_none z hx), upd_ne (ne_of_none z hdx)]; exact z
      refine ⟨x, dx, ch, cl, chs, cls, rfl, hne, upd_same, by rw [← ek]; exact s1 _ _ hch, s1 _ _ hcl, ok, hC.same s1, fun chs' cls' H2 p1 p2 hS hX k => ⟨rfl, ?_⟩⟩
      exact q H2 fun u o _ _ z => k u o (s1 u o z) fun e => by rw [List.mem_singleton.mp e, hx] at z; cases z
end
end Mc
namespace Mc
open PySem L2 PySem.Spec PyProof.Rows
abbrev sLMasts : Stmt := top 22
abbrev sLHeard : Stmt := top 23
abbrev sLScene : Stmt := top 24
def nN (p : PySem.Str) (j : Nat) : PySem.Str := p ++ PySem.Str.ofString (toString ((0 : Int) + (j : Int)))
def mN : Nat → PySem.Str := nN (PySem.Str.ofString "m")
def cN : Nat → PySem.Str := nN (PySem.Str.ofString "c")
theorem nN_small : ∀ j : Nat, j < 8 → ((0 : Int) + (j : Int)).natAbs.log2 < 1920 := by decide +kernel
theorem mN_len : ∀ j : Nat, j < 8 → (PySem.Str.ofString "m").length + (PySem.Str.ofString (toString ((0 : Int) + (j : Int)))).length ≤ sizeLine := by decide +kernel
theorem cN_len : ∀ j : Nat, j < 8 → (PySem.Str.ofString "c").length + (PySem.Str.ofString (toString ((0 : Int) + (j : Int)))).length ≤ sizeLine := by decide +kernel
theorem mN_ok : ∀ j : Nat, j < 8 → okN (mN j) := by decide +kernel
theorem cN_ok : ∀ j : Nat, j < 8 → okN (cN j) := by decide +kernel
theorem mN_inj : ∀ i, i < 8 → ∀ j, j < 8 → mN i = mN j → i = j := by decide +kernel
theorem cN_inj : ∀ i, i < 8 → ∀ j, j < 8 → cN i = cN j → i = j := by decide +kernel
theorem cN_lay : ∀ j : Nat, j < 8 → PyData.strOk (cN j) = true := by decide +kernel
theorem range_nd {f : Nat → PySem.Str} (h : ∀ i, i < 8 → ∀ j, j < 8 → f i = f j → i = j) {n : Nat} (hn : n ≤ 7) : ((List.range n).map f).Nodup := by
  rw [List.Nodup, List.pairwise_map]
  refine List.Pairwise.imp_of_mem (R := fun a b => a ≠ b) (fun {a b} ha hb z e => z (h a (by have := List.mem_range.mp ha; omega) b (by have := List.mem_range.mp hb; omega) e)) ?_
  exact List.nodup_range
def PT (f : β → V) (H : Hp) (as : List Addr) (rows : List (PySem.Str × β)) : Prop := as.length = rows.length ∧ ∀ (i : Nat) b r, as[i]? = some b → rows[i]? = some r → H b = some (.tup [.str r.1, f r.2])
theorem PT.keep {f : β → V} {H H' : Hp} {as : List Addr} {rows : List (PySem.Str × β)} (h : PT f H as rows) (k : ∀ b xs, H b = some (.tup xs) → H' b = some (.tup xs)) : PT f H' as rows := ⟨h.1, fun i b r e1 e2 => k _ _ (h.2 i b r e1 e2)⟩
theorem PT.snoc {f : β → V} {H : Hp} {as : List Addr} {rows : List (PySem.Str × β)} (h : PT f H as rows) {b : Addr} {r : PySem.Str × β} (hb : H b = some (.tup [.str r.1, f r.2])) : PT f H (as ++ [b]) (rows ++ [r]) := by
  refine ⟨by rw [List.length_append, List.length_append, h.1]; rfl, fun i c r' e1 e2 => ?_⟩
  by_cases hi : i < as.length
  · rw [List.getElem?_append_left hi] at e1
    rw [List.getElem?_append_left (by rw [← h.1]; exact hi)] at e2
    exact h.2 i c r' e1 e2
  · have hl := (List.getElem?_eq_some_iff.mp e1).1
    rw [List.length_append] at hl
    have ei : i = as.length := by simp at hl; omega
    rw [ei, List.getElem?_append_right (Nat.le_refl _), Nat.sub_self] at e1
    rw [ei, h.1, List.getElem?_append_right (Nat.le_refl _), Nat.sub_self] at e2
    cases Option.some.inj e1; cases Option.some.inj e2
    exact hb
theorem PT.paired {K : PySem.W.Frag} {f : β → V} {H : Hp} : ∀ {as : List Addr} {rows : List (PySem.Str × β)}, PT f H as rows → Paired (fun p kv => SqT K H p [kV kv.1, kv.2]) as (kvT f rows)
  | [], [], _ => .nil
  | a :: as, r :: rs, h => .cons (SqT.of (h.2 0 a r rfl rfl)) (PT.paired ⟨Nat.succ.inj h.1, fun i b y e1 e2 => h.2 (i + 1) b y e1 e2⟩)
  | [], _ :: _, h => nomatch h.1
  | _ :: _, [], h => nomatch h.1
theorem merge_T {f : β → V} {l : List (PySem.Str × β)} (nd : (keysT l).Nodup) : mergeK [] (kvT f l) = kvT f l := by
  have go : ∀ (b a : List (PySem.Str × β)), (keysT (a ++ b)).Nodup → mergeK (kvT f a) (kvT f b) = kvT f (a ++ b) := by
    intro b
    induction b with
    | nil => intro a _; rw [List.append_nil]; rfl
    | cons x b ih =>
      intro a nd
      have nx : x.1 ∉ keysT a := fun z => by
        unfold keysT at nd z
        rw [List.map_append] at nd
        exact (List.nodup_append.mp nd).2.2 _ z x.1 (by simp) rfl
      show mergeK (putK (kvT f a) (Sum.inr x.1) (f x.2)) (kvT f b) = _
      have e := put_new (f := f) (v := x.2) nx
      rw [e, ih (a ++ [(x.1, x.2)]) (by simpa using nd), List.append_assoc]
      rfl
  exact go l [] nd
def spMasts (K : PySem.W.Frag) : Sp := fun vs H Q _ => ∃ (M : List Addr) (d a : Addr) (mm : Int), vs = [.ref d, .int mm] ∧ 1 ≤ mm ∧ mm ≤ 4 ∧ Dr K M d a H ∧ ∀ (p : Addr) (H' : Hp) (chs : Chs) (n : Nat), H p = none → H' p = some (.dK (kvT vI chs)) → 1 ≤ n → n ≤ 4 → keysT chs = (List.range n).map mN → (∀ x ∈ chs, 0 ≤ x.2 ∧ x.2 ≤ 3) →
  Dr K M d a H' → Kp [d] H H' → Q (.ref p) H'
structure TxW (mg : PySem.Str → Option Value) : Prop where
  range : mg "range" = none
  str : mg "str" = none
  dict : mg "dict" = none
section
variable {P : Program} {w : World} {K : PySem.W.Frag} {mg : PySem.Str → Option Value} {base : Heap}
theorem scLM : FnScope ["draw", "most", "number"] ["draw", "most"] (defScope sLMasts) := ⟨rfl, rfl, rfl, by decide +kernel, rfl, by decide +kernel, by decide +kernel⟩
theorem ok_lmasts {f : Addr} {fd : FuncData} (F : Fun K "_law_masts" "_law_masts" sLMasts f fd) (T : TxW mg) (c__law_take : Cal P w K mg base 2 "_law_take" ["draw", "many"] (spTake K)) (c__law_pick : Cal P w K mg base 3 "_law_pick" ["draw", "items"] (spPick K)) : FnOk P w K mg base CX0 4 f fd ["draw", "most"] (spMasts K) := by
  refine F.ok scLM (fun vs H Q E h => ?_) (fun cdv A outer s H vs Q E hr h => ?_)
  · obtain ⟨M, d, a, mm, rfl, _⟩ := h
    rfl
  · obtain ⟨M, d, a, mm, rfl, hm1, hm4, D0, q⟩ := h
    refine ⟨_, (pss_one (ps_ret (pe_callTy (call_dictP rfl) (by rfl) T.dict boot_dict (pa_cons (pe_lc (own := [("number", 2)]) (g := gName 2) (tt := tYes) rfl scLM.nd (pi_range1 (by rfl) T.range (pa_cons (pe_op op_add pe_int (pe_cal c__law_take (hr.mono (by decide)) rfl (pa_cons (pv 0) (pa_cons (pv 1) pa_nil)))) pa_nil)) (blkOk_by (own := [("number", 2)]) (N := ["draw", "most", "number"]) (sc := defScope sLMasts) (by decide +kernel)) (fun _ _ _ _ _ => pg_name (i := 2) scLM.nd rfl (Or.inl rfl)) (fun _ _ _ _ _ => pts_nil) (fun _ _ _ _ _ => (pe_tup (pa_cons (pe_op op_add_str pe_str (pe_callTy call_str_int (by rfl) T.str boot_str (pa_cons (pv 2) pa_nil))) (pa_cons (pe_cal c__law_pick (hr.mono (by decide)) rfl (pa_cons (pv 0) (pa_cons (pe_lst (pa_cons pe_int (pa_cons pe_int (pa_cons pe_int (pa_cons pe_int (pa_cons pe_int (pa_cons pe_int (pa_cons pe_int pa_nil)))))))) pa_nil))) pa_nil))))) pa_nil)))), ?_⟩
    refine ⟨_, rfl, _, rfl, M, d, a, mm, rfl, D0, by omega, fun v H1 h0 h4 D1 k1 => ?_⟩
    have hn4 : (1 + v).toNat ≤ 4 := by omega
    refine ⟨_, _, rfl, rfl, 1 + v, rfl, by omega, by omega, fun D hD => ?_⟩
    have dD : d ≠ D := by obtain ⟨⟨k, hk⟩, _⟩ := D1; exact ne_of_none hk hD
    refine lc_range (lo := 0) (n := (1 + v).toNat) (fun i H' => ∃ (as : List Addr) (rows : Chs), as.length = i ∧ keysT rows = (List.range i).map mN ∧ (∀ x ∈ rows, 0 ≤ x.2 ∧ x.2 ≤ 3) ∧ Dr K (D :: M) d a H' ∧ Kp [d] H1 H' ∧ H' D = some (.lst (as.map V.ref)) ∧ PT vI H' as rows)
      ⟨[], [], rfl, rfl, fun x h => (nomatch h), (D1.grow hD).new hD, Kp.new hD, upd_same, rfl, fun i b r e => (nomatch e)⟩ ?_ ?_
    · rintro i H2 hi ⟨as, rows, hla, hk, h03, D2, k2, hd2, hP⟩
      have hi4 : i < 4 := by omega
      refine ⟨rfl, _, rfl, (0 : Int) + (i : Int), rfl, nN_small i (by omega), _, _, rfl, rfl, mN_len i (by omega), _, rfl, (by show 7 ≤ sizeLine; decide), fun l hl => ?_⟩
      refine ⟨D :: M, d, a, l, _, rfl, D2.new hl, by decide, fun H' k' => .inl (SqL.of (k' _ _ upd_same ?_)), fun j x H3 hx D3 k3 => ?_⟩
      · intro z
        obtain ⟨⟨kk, hkk⟩, _⟩ := D2
        exact ne_of_none hkk hl (List.mem_singleton.mp z).symm
      · obtain ⟨n, rfl, n0, n3⟩ : ∃ n : Int, x = .int n ∧ 0 ≤ n ∧ n ≤ 3 := by
          have hm := List.mem_of_getElem? hx
          simp only [List.mem_cons, List.not_mem_nil, or_false] at hm
          rcases hm with rfl | rfl | rfl | rfl | rfl | rfl | rfl <;> exact ⟨_, rfl, by decide, by decide⟩
        have dl : d ≠ l := by obtain ⟨⟨kk, hkk⟩, _⟩ := D2; exact ne_of_none hkk hl
        have far : ∀ b o, H2 b = some o → b ≠ d → H3 b = some o := fun b o z nd => k3 b o (by rw [upd_ne (ne_of_none z hl)]; exact z) fun e => nd (List.mem_singleton.mp e)
        have hD3 := far D _ hd2 dD.symm
        have hdt : ∀ {b : Addr} {xs : List V}, H2 b = some (.tup xs) → b ≠ d := fun {b xs} z e => by
          obtain ⟨⟨kk, hkk⟩, _⟩ := D2
          rw [e, hkk] at z; cases z
        refine ⟨(by show 2 ≤ sizeLine; decide), fun b hb => ⟨_, by rw [upd_ne (ne_of_none hD3 hb)]; exact hD3, by rw [List.length_map, hla]; exact Nat.lt_trans hi4 (by decide), as ++ [b], rows ++ [(mN i, n)], by rw [List.length_append, hla]; rfl, ?_, fun y hy => ?_, ?_, fun y o z ny => ?_, by rw [upd_same, List.map_append]; rfl, ?_⟩⟩
        · unfold keysT at hk ⊢
          rw [List.map_append, hk, List.range_succ, List.map_append]; rfl
        · rcases List.mem_append.mp hy with hy | hy
          · exact h03 y hy
          · cases List.mem_singleton.mp hy; exact ⟨n0, n3⟩
        · exact (D3.new hb).keep (Kp.at (by simp)) fun o z => by rw [upd_ne dD]; exact z
        · have z2 := k2 y o z ny
          have nD : y ≠ D := ne_of_none z hD
          have z3 := far y o z2 fun e => ny (List.mem_singleton.mpr e)
          rw [upd_ne nD, upd_ne (ne_of_none z3 hb)]; exact z3
        · have nbD : b ≠ D := (ne_of_none hD3 hb).symm
          refine (hP.keep fun c xs z => ?_).snoc (by rw [upd_ne nbD]; exact upd_same)
          have cD : c ≠ D := fun e => by rw [e, hd2] at z; cases z
          have z3 := far c _ z (hdt z)
          rw [upd_ne cD, upd_ne (ne_of_none z3 hb)]; exact z3
    · rintro H2 ⟨as, rows, hla, hk, h03, D2, k2, hd2, hP⟩
      refine ⟨D, as, kvT vI rows, rfl, SqL.of hd2, hP.paired, fun p hp => ?_⟩
      have ndk : (keysT rows).Nodup := by rw [hk]; exact range_nd mN_inj (by omega)
      rw [merge_T ndk]
      have hp0 : H p = none := Classical.byContradiction fun z => by
        cases e : H p with
        | none => exact z e
        | some o =>
          by_cases pd : p = d
          · obtain ⟨⟨kk, hkk⟩, _⟩ := D2
            rw [pd, hkk] at hp; cases hp
          · have z1 := k1 p o e fun w => pd (List.mem_singleton.mp w)
            rw [k2 p o z1 fun w => pd (List.mem_singleton.mp w)] at hp; cases hp
      refine q p _ rows (1 + v).toNat hp0 upd_same (by omega) hn4 hk h03 ?_ fun b o z nb => ?_
      · exact (D2.sub (N := M) (fun b hb => List.mem_cons_of_mem _ hb) D0.mem).new hp
      · have z2 := k2 b o (k1 b o z nb) nb
        rw [upd_ne (ne_of_none z2 hp)]; exact z2
end
theorem Dr.lock {K : PySem.W.Frag} {M : List Addr} {d a ch : Addr} {H : Hp} {kvs : List (L2.Key × V)} (D : Dr K M d a H) (h : H ch = some (.dK kvs)) : Dr K (ch :: M) d a H := by
  obtain ⟨k0, m, ns, hl, hs⟩ := D
  refine ⟨k0, List.mem_cons_of_mem _ m, ns, hl, fun H' k => ?_⟩
  have s := hs (fun b => if b = ch then H ch else H' b) fun b o z nb => by
    by_cases e : b = ch
    · show (if b = ch then H ch else H' b) = _
      rw [if_pos e, ← e]; exact z
    · show (if b = ch then H ch else H' b) = _
      rw [if_neg e]; exact k b o z fun w => (List.mem_cons.mp w).elim e nb
  by_cases e : a = ch
  · rcases s with (s | ⟨o, s⟩) | s
    · have s : (if a = ch then H ch else H' a) = _ := s
      rw [if_pos e, h] at s; cases s
    · have s : (if a = ch then H ch else H' a) = _ := s
      rw [if_pos e, h] at s; cases s
    · exact .inr s
  · rcases s with (s | ⟨o, s⟩) | s
    · have s : (if a = ch then H ch else H' a) = _ := s
      rw [if_neg e] at s; exact .inl (.inl s)
    · have s : (if a = ch then H ch else H' a) = _ := s
      rw [if_neg e] at s; exact .inl (.inr ⟨o, s⟩)
    · exact .inr s
def spHeard (K : PySem.W.Frag) : Sp := fun vs H Q _ => ∃ (M : List Addr) (d a ch : Addr) (chs : Chs), vs = [.ref d, .ref ch] ∧ Dr K M d a H ∧ H ch = some (.dK (kvT vI chs)) ∧ chs.length < 64 ∧
  ∀ (p : Addr) (H' : Hp) (hs : List PySem.Str), H p = none → H' p = some (.lst (hs.map V.str)) → hs.Sublist (keysT chs) → Dr K M d a H' → Kp [d] H H' → Q (.ref p) H'
section
variable {P : Program} {w : World} {K : PySem.W.Frag} {mg : PySem.Str → Option Value} {base : Heap}
theorem scLHd : FnScope ["draw", "channels", "mast"] ["draw", "channels"] (defScope sLHeard) := ⟨rfl, rfl, rfl, by decide +kernel, rfl, by decide +kernel, by decide +kernel⟩
theorem ok_lheard {f : Addr} {fd : FuncData} (F : Fun K "_law_heard" "_law_heard" sLHeard f fd) (c__law_take : Cal P w K mg base 2 "_law_take" ["draw", "many"] (spTake K)) : FnOk P w K mg base CX0 3 f fd ["draw", "channels"] (spHeard K) := by
  refine F.ok scLHd (fun vs H Q E h => ?_) (fun cdv A outer s H vs Q E hr h => ?_)
  · obtain ⟨M, d, a, ch, chs, rfl, _⟩ := h
    rfl
  · obtain ⟨M, d, a, ch, chs, rfl, D0, hch, hlen, q⟩ := h
    refine ⟨_, (pss_one (ps_ret (pe_lock (pe_lc (own := [("mast", 2)]) (g := gName 2) rfl scLHd.nd (pi_keys (pv 1)) (blkOk_by (own := [("mast", 2)]) (N := ["draw", "channels", "mast"]) (sc := defScope sLHeard) (by decide +kernel)) (fun _ _ _ _ _ => pg_name (i := 2) scLHd.nd rfl (Or.inl rfl)) (fun _ _ _ _ _ => pts_one (pt_cmpR op_eq (pe_cal c__law_take (hr.mono (by decide)) rfl (pa_cons (pv 0) (pa_cons pe_int pa_nil))) pe_int (nomark _))) (fun _ _ _ _ _ => (pv 2)))))), ?_⟩
    have dch : d ≠ ch := fun e => by obtain ⟨⟨k, hk⟩, _⟩ := D0; rw [e, hch] at hk; cases hk
    refine ⟨ch, _, hch, trivial, fun od => ⟨_, rfl, ch, od, rfl, .inl ⟨_, upd_same, fun D hD => ?_⟩⟩⟩
    have DL : Dr K (ch :: M) d a (upd H ch (.frz od (.dK (kvT vI chs)))) := (D0.lock hch).keep (Kp.at (by simp)) fun o z => by rw [upd_ne dch]; exact z
    have dD : d ≠ D := by obtain ⟨⟨k, hk⟩, _⟩ := DL; exact ne_of_none hk hD
    have cD : ch ≠ D := ne_of_none (show (upd H ch (.frz od (.dK (kvT vI chs)))) ch = some _ from upd_same) hD
    have hD0 : H D = none := by rw [upd_ne cD.symm] at hD; exact hD
    refine lc_it walk_keys (fun i H' => ∃ hs : List PySem.Str, hs.Sublist ((keysT chs).take i) ∧ Dr K (D :: ch :: M) d a H' ∧ Kp [d] (upd H ch (.frz od (.dK (kvT vI chs)))) H' ∧ H' D = some (.lst (hs.map V.str))) ⟨[], List.Sublist.refl _, (DL.grow hD).new hD, Kp.new hD, upd_same⟩
      (fun i H' _ ⟨hs, _, _, k, _⟩ => k ch _ upd_same fun e => dch (List.mem_singleton.mp e).symm) ?_ ?_
    · rintro i v _ H1 hi ⟨hs, hsub, D1, k1, hd1⟩ ⟨rfl, kk, v', hk, rfl⟩
      obtain ⟨z, hz, rfl, rfl⟩ := kvT_get hk
      have et : (keysT chs).take (i + 1) = (keysT chs).take i ++ [z.1] := by unfold keysT; rw [List.take_add_one, List.getElem?_map, hz]; rfl
      refine ⟨rfl, _, rfl, D :: ch :: M, d, a, 2, rfl, D1, by decide, fun v H2 _ _ D2 k2 => ⟨rfl, _, rfl, ?_⟩⟩
      have hd2 := k2 D _ hd1 fun e => dD (List.mem_singleton.mp e).symm
      refine ite2 (fun h => ?_) (fun h => ?_)
      · refine ⟨_, rfl, _, hd2, ?_, hs ++ [z.1], ?_, ?_, fun b o e nb => ?_, by rw [upd_same, List.map_append]; rfl⟩
        · rw [List.length_map]
          exact Nat.lt_of_le_of_lt (Nat.le_trans hsub.length_le (by rw [List.length_take]; exact Nat.min_le_right _ _)) (by unfold keysT; rw [List.length_map]; exact Nat.lt_trans hlen (by decide))
        · rw [et]; exact hsub.append (List.Sublist.refl _)
        · exact D2.keep (Kp.at (by simp)) fun o z => by rw [upd_ne dD]; exact z
        · rw [upd_ne (ne_of_none e hD)]; exact k2 b o (k1 b o e nb) nb
      · exact ⟨hs, by rw [et]; exact hsub.trans (List.sublist_append_left _ _), D2, k1.trans k2, hd2⟩
    · rintro H1 ⟨hs, hsub, D1, k1, hd1⟩
      rw [show (kvT vI chs).length = (keysT chs).length by unfold kvT keysT; rw [List.length_map, List.length_map], List.take_length] at hsub
      have hc1 := k1 ch _ upd_same fun e => dch (List.mem_singleton.mp e).symm
      refine ⟨hc1, ?_⟩
      refine q D _ hs hD0 (by rw [upd_ne cD.symm]; exact hd1) hsub ?_ fun b o z nb => ?_
      · exact (D1.keep (Kp.at (by simp)) fun o z => by rw [upd_ne dch]; exact z).sub (fun b hb => by simp [hb]) D0.mem
      · by_cases e : b = ch
        · rw [e, upd_same, ← hch, ← e]; exact z
        · rw [upd_ne e]; exact k1 b o (by rw [upd_ne e]; exact z) nb
end
theorem nolst {H : Hp} {d a : Addr} {M : List Addr} {K : PySem.W.Frag} (D : Dr K M d a H) {b : Addr} {o : HO} (z : H b = some o) (n : ∀ l, o ≠ .lst l) : b ∉ [d] := fun e => by
  obtain ⟨⟨k, hk⟩, _⟩ := D
  rw [List.mem_singleton.mp e, hk] at z
  exact n _ (Option.some.inj z).symm
theorem CallH.kp {K : PySem.W.Frag} {C : Addr} {H H' : Hp} {o : Addr} {wt : Int} {hs : List PySem.Str} {M : List Addr} (h : CallH K C H o wt hs) (k : Kp M H H') (n : ∀ b o, H b = some o → (∀ l, o ≠ .lst l) → b ∉ M ∨ H' b = some o) : CallH K C H' o wt hs := by
  obtain ⟨dx, q, a, b⟩ := h.here
  exact ⟨dx, q, (n _ _ a (fun _ e => by cases e)).elim (k _ _ a) id, (n _ _ b (fun _ e => by cases e)).elim (k _ _ b) id⟩
def SmallS (chs : Chs) (cls : Cls') : Prop := 0 < chs.length ∧ (∀ x ∈ chs, x.2 ≤ 3) ∧ (∀ x ∈ cls, x.2.2.1 ≤ 2) ∧ ∀ m ∈ keysT chs, ∃ j, j < 4 ∧ m = mN j
def spScene (K : PySem.W.Frag) (CS CC : Addr) : Sp := fun vs H Q _ => ∃ (M : List Addr) (d a : Addr) (mm n : Int), vs = [.ref d, .int mm, .int n] ∧ 1 ≤ mm ∧ mm ≤ 4 ∧ 0 ≤ n ∧ n ≤ 7 ∧ Dr K M d a H ∧
  ∀ (sc : Addr) (H' : Hp) (chs : Chs) (cls : Cls'), H sc = none → SceneH K CS CC H' sc chs cls → ScnX CS H' sc chs cls → OkC chs cls → (∀ x ∈ keysT cls, ∃ j, j < 8 ∧ x = cN j) → cls.length ≤ 7 → chs.length ≤ 4 → SmallS chs cls → Dr K M d a H' → Kp [d] H H' → Q (.ref sc) H'
section
variable {P : Program} {w : World} {K : PySem.W.Frag} {mg : PySem.Str → Option Value} {base : Heap}
theorem scLS : FnScope ["draw", "masts", "calls", "channels", "found", "number"] ["draw", "masts", "calls"] (defScope sLScene) := ⟨rfl, rfl, rfl, by decide +kernel, rfl, by decide +kernel, by decide +kernel⟩
theorem ok_lscene {f CS CC : Addr} {fd : FuncData} (F : Fun K "_law_scene" "_law_scene" sLScene f fd) (T : TxW mg) (c__law_take : Cal P w K mg base 2 "_law_take" ["draw", "many"] (spTake K)) (c__law_masts : Cal P w K mg base 4 "_law_masts" ["draw", "most"] (spMasts K))
    (c__law_heard : Cal P w K mg base 3 "_law_heard" ["draw", "channels"] (spHeard K)) (c_Call : CalI P w K mg base CC 1 "Call" ["self", "worth", "heard"] (spCInit K CC)) (c_Scene : CalI P w K mg base CS 4 "Scene" ["self", "channels", "calls"] (spSInit K CS CC)) :
    FnOk P w K mg base CX0 6 f fd ["draw", "masts", "calls"] (spScene K CS CC) := by
  refine F.ok scLS (fun vs H Q E h => ?_) (fun cdv A outer s H vs Q E hr h => ?_)
  · obtain ⟨M, d, a, mm, n, rfl, _⟩ := h
    rfl
  · obtain ⟨M, d, a, mm, n, rfl, hm1, hm4, hn0, hn6, D0, q⟩ := h
    have hu := hu_of hr
    refine ⟨_, (pss_cons (ps_par (i := 3) (j := 4) rfl scLS.nd rfl rfl (by decide) rfl rfl (pa_cons (pe_cal c__law_masts (hr.mono (by decide)) rfl (pa_cons (pv 0) (pa_cons (pv 1) pa_nil))) (pa_cons pe_dnewK pa_nil)) (by rfl))
      (pss_cons (ps_for PassesOwn.never rfl (pi_range1 (by rfl) T.range (pa_cons (pe_cal c__law_take (hr.mono (by decide)) rfl (pa_cons (pv 0) (pa_cons (pe_op op_add (pv 2) pe_int) pa_nil))) pa_nil)) (pg_name (i := 5) scLS.nd rfl (Or.inl rfl))
        (pss_one (ps_dput hu (pv 4) (pe_op op_add_str pe_str (pe_callTy call_str_int (by rfl) T.str boot_str (pa_cons (pv 5) pa_nil))) (pe_calI c_Call (hr.mono (by decide)) rfl (pa_cons (pe_cal c__law_take (hr.mono (by decide)) rfl (pa_cons (pv 0) (pa_cons pe_int pa_nil))) (pa_cons (pe_cal c__law_heard (hr.mono (by decide)) rfl (pa_cons (pv 0) (pa_cons (pv 3) pa_nil))) pa_nil))) rfl)))
      (pss_one (ps_ret (pe_calI c_Scene (hr.mono (by decide)) rfl (pa_cons (pv 3) (pa_cons (pv 4) pa_nil))))))), ?_⟩
    refine ⟨_, rfl, _, rfl, M, d, a, mm, rfl, hm1, hm4, D0, fun ch H1 chs nm hch0 hch n1 n4 hk h03 D1 k1 => ?_⟩
    intro f hf
    have chf : ch ≠ f := ne_of_none hch hf
    refine ⟨_, _, rfl, ?_⟩
    have s2 : Same H1 (upd H1 f (.dK [])) := fun b o z => by rw [upd_ne (ne_of_none z hf)]; exact z
    have hf2 : (upd H1 f (.dK [])) f = some (.dK []) := upd_same
    generalize (upd H1 f (.dK [])) = H2 at s2 hf2 ⊢
    have D2 := (D1.same s2).lock hf2
    have hch2 := s2 _ _ hch
    have ndk : (keysT chs).Nodup := by rw [hk]; exact range_nd mN_inj (by omega)
    have lenk : chs.length ≤ 4 := by have := congrArg List.length hk; unfold keysT at this; simp at this; omega
    have dlst : ∀ {H' M'}, Dr K M' d a H' → ∀ {b o}, H' b = some o → (∀ l, o ≠ .lst l) → b ≠ d := fun D b o z n e => nolst D z n (by rw [e]; simp)
    refine ⟨_, rfl, _, rfl, _, _, rfl, rfl, f :: M, d, a, n + 1, rfl, D2, by omega, fun v H3 v0 v1 D3 k3 => ⟨v, rfl, by omega, by omega, ?_⟩⟩
    have df : d ≠ f := (dlst D2 hf2 (fun _ e => by cases e)).symm
    have hf3 := k3 f _ hf2 fun e => df (List.mem_singleton.mp e).symm
    have hch3 := k3 ch _ hch2 (nolst D2 hch2 fun _ e => by cases e)
    refine for_range (lo := 0) (n := v.toNat) (fun i σ H' => ∃ cls v5, σ = [some (.ref d), some (.int mm), some (.int n), some (.ref ch), some (.ref f), v5] ∧ Dr K (f :: M) d a H' ∧ Kp [d, f] H3 H' ∧ H' f = some (.dK (kvT vO cls)) ∧ keysT cls = (List.range i).map cN ∧ CallsH K CC H' cls ∧
      ∀ x ∈ cls, 0 ≤ x.2.2.1 ∧ x.2.2.1 ≤ 2 ∧ x.2.2.2.Nodup ∧ x.2.2.2.length < 64 ∧ ∀ m ∈ x.2.2.2, m ∈ keysT chs) ⟨[], _, rfl, D3, Kp.refl _ _, hf3, rfl, fun x h => (nomatch h), fun x h => (nomatch h)⟩ ?_ ?_
    · rintro i σ H4 hi ⟨cls, v5, rfl, D4, k4, hf4, hk4, hC4, hg4⟩
      have hi6 : i < 8 := by omega
      have hch4 := k4 ch _ hch3 (by simp; exact ⟨dlst D3 hch3 (fun _ e => by cases e), chf⟩)
      refine ⟨_, rfl, f :: M, d, a, 3, rfl, D4, by decide, fun wt H5 w0 w3 D5 k5 => ?_⟩
      have hch5 := k5 ch _ hch4 (nolst D4 hch4 fun _ e => by cases e)
      refine ⟨_, rfl, _, rfl, f :: M, d, a, ch, chs, rfl, D5, hch5, by omega, fun l H6 hs hl0 hl hsub D6 k6 => ?_⟩
      intro p dx hp hdx ndx
      have ndh : hs.Nodup := hsub.nodup ndk
      have lenh : hs.length < 64 := Nat.lt_of_le_of_lt hsub.length_le (by unfold keysT; rw [List.length_map]; omega)
      have s67 : Same H6 (upd (upd H6 dx (.own p)) p (.ins CC dx [])) := fun b o z => by rw [upd_ne (ne_of_none z hp), upd_ne (ne_of_none z hdx)]; exact z
      have hp7 : (upd (upd H6 dx (.own p)) p (.ins CC dx [])) p = some (.ins CC dx []) := upd_same
      generalize (upd (upd H6 dx (.own p)) p (.ins CC dx [])) = H7 at s67 hp7 ⊢
      refine ⟨p, dx, l, wt, hs, rfl, hp7, s67 _ _ hl, lenh, fun ys H8 hperm _ hcall k8 => ⟨rfl, ?_⟩⟩
      have s68 : Same H6 H8 := fun b o z => k8 b o (s67 _ _ z) fun e => by rw [List.mem_singleton.mp e, hp] at z; cases z
      have far : ∀ b o, H4 b = some o → b ≠ d → H8 b = some o := fun b o z n => s68 _ _ (k6 b o (k5 b o z fun e => n (List.mem_singleton.mp e)) fun e => n (List.mem_singleton.mp e))
      have D8 := D6.same s68
      have hf8 := far f _ hf4 df.symm
      have nk : cN i ∉ keysT cls := fun z => by
        rw [hk4] at z
        obtain ⟨j, hj, e⟩ := List.mem_map.mp z
        have hj' := List.mem_range.mp hj
        have := cN_inj j (by omega) i hi6 e
        omega
      have lenc : cls.length = i := by have := congrArg List.length hk4; unfold keysT at this; simpa using this
      refine ⟨_, rfl, _, rfl, (0 : Int) + (i : Int), rfl, nN_small i hi6, _, _, rfl, rfl, cN_len i hi6, f, _, rfl, DPut.k (k := Sum.inr (cN i)) hf8 (by unfold kvT; rw [List.length_map, lenc]; exact Nat.lt_trans hi6 (by decide)), ?_⟩
      have ep := put_new (f := vO) (v := ((p, wt, ys) : CD)) nk
      refine ⟨cls ++ [(cN i, (p, wt, ys))], _, rfl, D8.keep (Kp.at (by simp)) fun o z => by rw [upd_ne df]; exact z, fun b o z nb => ?_, by rw [upd_same]; exact congrArg _ (congrArg _ ep), ?_, fun x hx => ?_, fun x hx => ?_⟩
      · have nb' : b ≠ d ∧ b ≠ f := by simp at nb; exact nb
        rw [upd_ne nb'.2]; exact far b o (k4 b o z nb) nb'.1
      · unfold keysT at hk4 ⊢
        rw [List.map_append, hk4, List.range_succ, List.map_append]; rfl
      · rcases List.mem_append.mp hx with hx | hx
        · obtain ⟨dx', h', a1, a2⟩ := (hC4 x hx).here
          have f1 : x.2.1 ≠ f := fun e => by rw [e, hf4] at a1; cases a1
          have f2 : h' ≠ f := fun e => by rw [e, hf4] at a2; cases a2
          exact ⟨dx', h', by rw [upd_ne f1]; exact far _ _ a1 (dlst D4 a1 fun _ e => by cases e), by rw [upd_ne f2]; exact far _ _ a2 (dlst D4 a2 fun _ e => by cases e)⟩
        · cases List.mem_singleton.mp hx
          obtain ⟨dx', h', a1, a2⟩ := hcall.here
          have f1 : p ≠ f := fun e => by rw [e, hf8] at a1; cases a1
          have f2 : h' ≠ f := fun e => by rw [e, hf8] at a2; cases a2
          exact ⟨dx', h', by show upd _ _ _ p = _; rw [upd_ne f1]; exact a1, by rw [upd_ne f2]; exact a2⟩
      · rcases List.mem_append.mp hx with hx | hx
        · exact hg4 x hx
        · cases List.mem_singleton.mp hx
          exact ⟨w0, by show wt ≤ 2; omega, hperm.nodup_iff.mpr ndh, by show ys.length < 64; rw [hperm.length_eq]; exact lenh, fun m hm => hsub.subset (hperm.mem_iff.mp hm)⟩
    · rintro σ H4 ⟨cls, v5, rfl, D4, k4, hf4, hk4, hC4, hg4⟩
      have hch4 := k4 ch _ hch3 (by simp; exact ⟨dlst D3 hch3 (fun _ e => by cases e), chf⟩)
      have lenc : cls.length = v.toNat := by have := congrArg List.length hk4; unfold keysT at this; simpa using this
      have ok : OkC chs cls := by
        refine ⟨ndk, by rw [hk4]; exact range_nd cN_inj (by omega), by omega, by omega, fun x hx => ?_, fun x hx => ?_⟩
        · have hm : x.1 ∈ keysT chs := List.mem_map.mpr ⟨x, hx, rfl⟩
          rw [hk] at hm
          obtain ⟨j, hj, e⟩ := List.mem_map.mp hm
          have hj' := List.mem_range.mp hj
          exact ⟨by rw [← e]; exact mN_ok j (by omega), (h03 x hx).1, by have := (h03 x hx).2; omega⟩
        · have hm : x.1 ∈ keysT cls := List.mem_map.mpr ⟨x, hx, rfl⟩
          rw [hk4] at hm
          obtain ⟨j, hj, e⟩ := List.mem_map.mp hm
          have hj' := List.mem_range.mp hj
          obtain ⟨g1, g2, g3, g4, g5⟩ := hg4 x hx
          exact ⟨by rw [← e]; exact cN_ok j (by omega), g1, by omega, g3, g4, g5⟩
      refine ⟨_, rfl, _, rfl, ?_⟩
      intro p dx hp hdx ndx
      have s45 : Same H4 (upd (upd H4 dx (.own p)) p (.ins CS dx [])) := fun b o z => by rw [upd_ne (ne_of_none z hp), upd_ne (ne_of_none z hdx)]; exact z
      have hp5 : (upd (upd H4 dx (.own p)) p (.ins CS dx [])) p = some (.ins CS dx []) := upd_same
      generalize (upd (upd H4 dx (.own p)) p (.ins CS dx [])) = H5 at s45 hp5 ⊢
      refine ⟨p, dx, ch, f, chs, cls, rfl, chf, hp5, s45 _ _ hch4, s45 _ _ hf4, ok, hC4.same s45, fun chs' cls' H6 pc1 pc2 hSc hXc k6 => ⟨rfl, ?_⟩⟩
      have s46 : Same H4 H6 := fun b o z => k6 b o (s45 _ _ z) fun e => by rw [List.mem_singleton.mp e, hp] at z; cases z
      have far : ∀ b o, H b = some o → b ≠ d → H4 b = some o := fun b o z n => by
        have z1 := k1 b o z fun e => n (List.mem_singleton.mp e)
        have nf : b ≠ f := ne_of_none z1 hf
        exact k4 b o (k3 b o (s2 b o z1) fun e => n (List.mem_singleton.mp e)) (by simp; exact ⟨n, nf⟩)
      have hp0 : H p = none := Classical.byContradiction fun z => by
        cases e : H p with
        | none => exact z e
        | some o =>
          have pd : p ≠ d := fun w => by
            obtain ⟨⟨kk, hkk⟩, _⟩ := D4
            rw [w, hkk] at hp; cases hp
          rw [far p o e pd] at hp; cases hp
      have kc1 : (keysT chs').Perm (keysT chs) := pc1.map _
      have kc2 : (keysT cls').Perm (keysT cls) := pc2.map _
      have ok' : OkC chs' cls' := by
        refine ⟨kc1.nodup_iff.mpr ok.nd, kc2.nodup_iff.mpr ok.ndc, by rw [pc1.length_eq]; exact ok.len, by rw [pc2.length_eq]; exact ok.lenc, fun x hx => ok.ch x (pc1.mem_iff.mp hx), fun x hx => ?_⟩
        obtain ⟨g0, g1, g2, g3, g4, g5⟩ := ok.cl x (pc2.mem_iff.mp hx)
        exact ⟨g0, g1, g2, g3, g4, fun m hm => kc1.mem_iff.mpr (g5 m hm)⟩
      refine q p H6 chs' cls' hp0 hSc hXc ok' (fun x hx => ?_) (by rw [pc2.length_eq, lenc]; omega) (by rw [pc1.length_eq]; exact lenk) ⟨by rw [pc1.length_eq]; have := congrArg List.length hk; unfold keysT at this; simp at this; omega, fun x hx => (h03 x (pc1.mem_iff.mp hx)).2, fun x hx => (hg4 x (pc2.mem_iff.mp hx)).2.1, fun m hm => by
        have hm := kc1.mem_iff.mp hm
        rw [hk] at hm
        obtain ⟨j, hj, e⟩ := List.mem_map.mp hm
        exact ⟨j, by have := List.mem_range.mp hj; omega, e.symm⟩⟩ ((D4.same s46).sub (N := M) (fun b hb => List.mem_cons_of_mem _ hb) D0.mem) fun b o z nb => s46 _ _ (far b o z fun e => nb (List.mem_singleton.mpr e))
      have hm := kc2.mem_iff.mp hx
      rw [hk4] at hm
      obtain ⟨j, hj, e⟩ := List.mem_map.mp hm
      exact ⟨j, by have := List.mem_range.mp hj; omega, e.symm⟩
end
end Mc
namespace Mc
open PySem L2 PySem.Spec PyProof.Rows Evl
/-! comprehensions over any source; items that are new objects, told by a relation -/
section
variable {α : Type} {c : α → V} {ys : List α} {J : It} {n : Nat} {G : Hp → Prop} {te : TE} {vs : List Nat} {σ : L2.St} {H1 : Hp} {D : Addr} {Qd : Hp → Prop} {j : Nat} {tt : TT}
theorem prd_imp {α β : Type} {F G : α → β → Prop} (hFG : ∀ a b, F a b → G a b) : ∀ {xs : List α} {ys : List β}, Paired F xs ys → Paired G xs ys
  | _, _, .nil => .nil
  | _, _, .cons r t => .cons (hFG _ _ r) (prd_imp hFG t)
theorem prd_snoc {α β : Type} {F : α → β → Prop} : ∀ {xs : List α} {ys : List β} {x : α} {y : β}, Paired F xs ys → F x y → Paired F (xs ++ [x]) (ys ++ [y])
  | _, _, _, _, .nil, h => .cons h .nil
  | _, _, _, _, .cons r t, h => .cons r (prd_snoc t h)
theorem prd_get {α β : Type} {F : α → β → Prop} : ∀ {xs : List α} {ys : List β}, Paired F xs ys → ∀ {i : Nat} {x : α}, xs[i]? = some x → ∃ y, ys[i]? = some y ∧ F x y
  | _, _, .cons r t, 0, x, h => ⟨_, rfl, by cases Option.some.inj h; exact r⟩
  | _, _, .cons r t, i + 1, x, h => prd_get t (by simpa using h)
theorem prd_mem {α β : Type} {F : α → β → Prop} : ∀ {xs : List α} {ys : List β}, Paired F xs ys → ∀ {y : β}, y ∈ ys → ∃ x ∈ xs, F x y
  | _, _, .cons r t, y, h => (List.mem_cons.mp h).elim (fun e => ⟨_, .head _, e ▸ r⟩) fun h => by
    obtain ⟨x, hx, q⟩ := prd_mem t h
    exact ⟨x, .tail _ hx, q⟩
theorem lc_R (w : Walk J n G (YAt (ys.map c))) (p : α → Bool) (R : α → V → Hp → Prop) (per : ∀ y v H H', R y v H → Same H H' → R y v H') (hn : n = ys.length) (hD : H1 D = none) (hG : ∀ H', Same H1 H' → G H') (hz : ys.length ≤ sizeLine)
    (test : ∀ (i : Nat) (y : α) (H' : Hp) (k : Bool → Hp → Prop), ys[i]? = some y → Same H1 H' → (∀ H4, Same H' H4 → k (p y) H4) → tt ((wipe σ vs).set j (some (c y))) H' k)
    (turn : ∀ (i : Nat) (y : α) (H' : Hp) (k : VK), ys[i]? = some y → p y = true → Same H1 H' → (∀ v H4, Same H' H4 → R y v H4 → k v H4) → te ((wipe σ vs).set j (some (c y))) H' k)
    (hd : ∀ us H', Same H1 H' → H' D = some (.lst us) → Paired (fun y v => R y v H') (ys.filter p) us → Qd H') (hw : ∀ v, wipe ((wipe σ vs).set j (some v)) vs = wipe σ vs := by intro _; rfl)
    (perD : ∀ y v H u, R y v H → H D = some (.lst u) → ∀ u', R y v (upd H D (.lst u'))) :
    ∃ W : Nat → Nat → Hp → Prop, (∃ m, W 0 m (upd H1 D (.lst []))) ∧ ∀ i m H, W i m H →
      (J.stop i H ∧ Qd H) ∨ (J.go i H ∧ ∃ Nx : Hp → Prop, (∀ H', Nx H' → ∃ m', m' < m ∧ W (i + 1) m' H') ∧ ∀ x H', J.yld i H x H' → gName j x (wipe σ vs) H' fun σ2 H2 => wipe σ2 vs = wipe σ vs ∧ tt σ2 H2 fun b H3 =>
        if b = true then te σ2 H3 fun y H4 => ∃ acc, H4 D = some (.lst acc) ∧ acc.length < sizeLine ∧ Nx (upd H4 D (.lst (acc ++ [y]))) else Nx H3) := by
  refine lc_it w (fun i H' => Same H1 H' ∧ ∃ us, H' D = some (.lst us) ∧ Paired (fun y v => R y v H') ((ys.take i).filter p) us) ⟨Same.new hD, [], upd_same, .nil⟩ (fun i H' _ z => hG H' z.1) ?_ ?_
  · rintro i x H H' hi ⟨s1, us, d1, pr⟩ ⟨rfl, hx⟩
    rw [List.getElem?_map] at hx
    cases e : ys[i]? with
    | none => rw [e] at hx; cases hx
    | some y =>
      rw [e] at hx
      obtain rfl := Option.some.inj hx
      have et : (ys.take (i + 1)).filter p = (ys.take i).filter p ++ (if p y = true then [y] else []) := by
        rw [List.take_add_one, e, List.filter_append]
        show _ ++ [y].filter p = _
        rw [List.filter_cons]
        split <;> rfl
      refine ⟨hw _, test i y _ _ e s1 fun H3 s3 => ?_⟩
      by_cases hp : p y = true
      · rw [if_pos hp]
        refine turn i y _ _ e hp (s1.trans s3) fun v H4 s4 hv => ⟨us, s4 _ _ (s3 _ _ d1), ?_, ?_, us ++ [v], upd_same, ?_⟩
        · have h1 := List.length_filter_le p (ys.take i)
          have h3 : (ys.take i).length < ys.length := by
            have := (List.getElem?_eq_some_iff.mp e).1
            rw [List.length_take]; omega
          have := Paired.length pr
          omega
        · exact fun b o z => by
            have nb : b ≠ D := ne_of_none z hD
            rw [upd_ne nb]
            exact s4 _ _ (s3 _ _ (s1 _ _ z))
        · rw [et, if_pos hp]
          exact prd_snoc (prd_imp (fun y v h => perD _ _ _ _ (per _ _ _ _ (per _ _ _ _ h s3) s4) (s4 _ _ (s3 _ _ d1)) _) pr) (perD _ _ _ _ hv (s4 _ _ (s3 _ _ d1)) _)
      · rw [if_neg hp]
        refine ⟨s1.trans s3, us, s3 _ _ d1, ?_⟩
        rw [et, if_neg hp, List.append_nil]
        exact prd_imp (fun y v h => per _ _ _ _ h s3) pr
  · rintro H ⟨s1, us, d1, pr⟩
    subst hn
    rw [List.take_length] at pr
    exact hd us H s1 d1 pr
end
/-! ### sources -/
/-- what is walked: these values, and it stands while the heap grows -/
def EvI (wi : TI) (σ : L2.St) (H : Hp) (vals : List V) : Prop := ∀ H1, Ex H H1 → ∀ R : It → Hp → Prop, (∀ J G H2, Ex H1 H2 → Walk J vals.length G (YAt vals) → (∀ H', Ex H2 H' → G H') → R J H2) → wi σ H1 R
section
variable {K : PySem.W.Frag} {σ : L2.St} {H : Hp} {tl te : TE} {t : TT} {a : Addr} {vals : List V} {wi : TI} {Q : VK} {ta : TA}
theorem EvI.mono {H' : Hp} (e : Ex H H') (h : EvI wi σ H vals) : EvI wi σ H' vals := fun H1 a R r => h H1 (e.trans a) R r
theorem ei_L (hl : Ev tl σ H (.ref a)) (h : SqL K H a vals) : EvI (iList K tl) σ H vals := fun H1 e R r => hl H1 e _ fun H2 e2 => ⟨a, rfl, ⟨_, ex_l (e.trans e2) h⟩, r _ _ H2 e2 walk_list fun H' e3 => ex_l ((e.trans e2).trans e3) h⟩
theorem ei_T (hl : Ev tl σ H (.ref a)) (h : SqT K H a vals) : EvI (iTup K tl) σ H vals := fun H1 e R r => hl H1 e _ fun H2 e2 => ⟨a, rfl, ⟨_, ex_t (e.trans e2) h⟩, r _ _ H2 e2 walk_tup fun H' e3 => ex_t ((e.trans e2).trans e3) h⟩
/-- over a new list, a new tuple -/
theorem ei_N (hl : EvL tl σ H vals) : EvI (iList K tl) σ H vals := fun H1 e R r => hl H1 e _ fun p H2 _ e2 h2 => ⟨p, rfl, ⟨_, sq_of h2⟩, r _ _ H2 e2 walk_list fun H' e3 => sq_of (e3 _ _ h2)⟩
theorem ei_U (hl : EvU tl σ H vals) : EvI (iTup K tl) σ H vals := fun H1 e R r => hl H1 e _ fun p H2 _ e2 h2 => ⟨p, rfl, ⟨_, st_of h2⟩, r _ _ H2 e2 walk_tup fun H' e3 => st_of (e3 _ _ h2)⟩
theorem ei_K {β : Type} {g : β → V} {l : List (PySem.Str × β)} {o : Obj} (hl : Ev tl σ H (.ref a)) (h : H a = some (.frz o (.dK (kvT g l)))) : EvI (iKeys tl) σ H ((keysT l).map V.str) := fun H1 e R r => hl H1 e _ fun H2 e2 => ⟨a, o, rfl, .inl ⟨_, e2 _ _ (e _ _ h), r _ (fun H => H a = some (.frz o (.dK (kvT g l)))) H2 e2 (by rw [List.length_map]; unfold keysT; rw [List.length_map]; exact (show Walk _ _ _ _ from by have := walk_kT (g := g) (l := l) (d := a) (o := o); unfold keysT at this; rwa [List.length_map] at this)) fun H' e3 => e3 _ _ (e2 _ _ (e _ _ h))⟩⟩
theorem ei_r1 {n : Int} (h : EvA ta σ H [.int n]) (h0 : -(2 ^ 62) ≤ n) (h1 : n < 2 ^ 62) : EvI (iRng1 ta) σ H ((List.range n.toNat).map fun i => V.int (i : Nat)) := fun H1 e R r => h H1 e _ fun H2 e2 => ⟨n, rfl, h0, h1, r _ _ H2 e2 (by
  have := walk_rng (lo := 0) (n := n.toNat)
  simp only [Int.zero_add] at this
  rw [List.length_map, List.length_range]
  exact this) fun _ _ => trivial⟩
theorem ei_r2 {lo hi : Int} (h : EvA ta σ H [.int lo, .int hi]) (b : -(2 ^ 62) ≤ lo ∧ lo < 2 ^ 62 ∧ -(2 ^ 62) ≤ hi ∧ hi < 2 ^ 62) : EvI (iRng2 ta) σ H ((List.range (hi - lo).toNat).map fun i => V.int (lo + (i : Nat))) := fun H1 e R r => h H1 e _ fun H2 e2 => ⟨lo, hi, rfl, b, r _ _ H2 e2 (by rw [List.length_map, List.length_range]; exact walk_rng) fun _ _ => trivial⟩
variable {α : Type} {ys : List α} {j : Nat} {vs : List Nat} {c : α → V}
theorem el_mI (f : α → V) (hi : EvI wi σ H (ys.map c)) (hz : ys.length ≤ 100000) (turn : ∀ (i : Nat) y, ys[i]? = some y → ∀ H', Ex H H' → Ev te ((wipe σ vs).set j (some (c y))) H' (f y)) (hw : ∀ v, wipe ((wipe σ vs).set j (some v)) vs = wipe σ vs := by intro _; rfl) :
    EvL (tLc wi (gName j) tYes te vs) σ H (ys.map f) := fun H1 e Q q => hi H1 e _ fun J G H2 e2 w hG D hD =>
  lc_m (j := j) (c := c) (ys := ys) w f (by rw [List.length_map]) hD hG (sz_of hz) (fun i y H' k hy s hk => turn i y hy H' ((e.trans e2).trans s) H' (Ex.refl _) k hk) (fun H' s hD' => q D H' (fresh_back e2 hD) (e2.trans s) hD') hw
theorem el_fI (p : α → Bool) (f : α → V) (hi : EvI wi σ H (ys.map c)) (hz : ys.length ≤ 100000) (test : ∀ (i : Nat) y, ys[i]? = some y → ∀ H', Ex H H' → EvT t ((wipe σ vs).set j (some (c y))) H' (p y))
    (turn : ∀ (i : Nat) y, ys[i]? = some y → p y = true → ∀ H', Ex H H' → Ev te ((wipe σ vs).set j (some (c y))) H' (f y)) (hw : ∀ v, wipe ((wipe σ vs).set j (some v)) vs = wipe σ vs := by intro _; rfl) :
    EvL (tLc wi (gName j) t te vs) σ H ((ys.filter p).map f) := fun H1 e Q q => hi H1 e _ fun J G H2 e2 w hG D hD =>
  lc_f (j := j) (c := c) (ys := ys) w p f (by rw [List.length_map]) hD hG (sz_of hz) (fun i y H' k hy s hk => test i y hy H' ((e.trans e2).trans s) H' (Ex.refl _) k hk) (fun i y H' k hy hp s hk => turn i y hy hp H' ((e.trans e2).trans s) H' (Ex.refl _) k hk) (fun H' s hD' => q D H' (fresh_back e2 hD) (e2.trans s) hD') hw
/-- a value that has some property behind it -/
def EvP (te : TE) (σ : L2.St) (H : Hp) (P : V → Hp → Prop) : Prop := ∀ H1, Ex H H1 → ∀ Q : VK, (∀ v H2, Ex H1 H2 → P v H2 → Q v H2) → te σ H1 Q
theorem EvU.p {xs : List V} (h : EvU te σ H xs) : EvP te σ H fun v H' => ∃ p, v = .ref p ∧ H' p = some (.tup xs) := fun H1 e Q q => h H1 e _ fun p H2 _ e2 h2 => q _ H2 e2 ⟨p, rfl, h2⟩
theorem EvL.p {xs : List V} (h : EvL te σ H xs) : EvP te σ H fun v H' => ∃ p, v = .ref p ∧ H' p = some (.lst xs) := fun H1 e Q q => h H1 e _ fun p H2 _ e2 h2 => q _ H2 e2 ⟨p, rfl, h2⟩
/-- a new list whose items are told by a relation -/
theorem el_RI (p : α → Bool) (R : α → V → Hp → Prop) (per : ∀ y v H H', R y v H → Same H H' → R y v H') (perD : ∀ y v H D u, R y v H → H D = some (.lst u) → (∀ y' v', R y' v' H → True) → ∀ u', R y v (upd H D (.lst u')))
    (hi : EvI wi σ H (ys.map c)) (hz : ys.length ≤ 100000) (test : ∀ (i : Nat) y, ys[i]? = some y → ∀ H', Ex H H' → EvT t ((wipe σ vs).set j (some (c y))) H' (p y))
    (turn : ∀ (i : Nat) y, ys[i]? = some y → p y = true → ∀ H', Ex H H' → EvP te ((wipe σ vs).set j (some (c y))) H' (R y)) (hw : ∀ v, wipe ((wipe σ vs).set j (some v)) vs = wipe σ vs := by intro _; rfl) :
    ∀ H1, Ex H H1 → ∀ Q : VK, (∀ D us H2, H1 D = none → Ex H1 H2 → H2 D = some (.lst us) → Paired (fun y v => R y v H2) (ys.filter p) us → Q (.ref D) H2) → tLc wi (gName j) t te vs σ H1 Q := fun H1 e Q q => hi H1 e _ fun J G H2 e2 w hG D hD =>
  lc_R (j := j) (c := c) (ys := ys) w p R per (by rw [List.length_map]) hD hG (sz_of hz) (fun i y H' k hy s hk => test i y hy H' ((e.trans e2).trans s) H' (Ex.refl _) k hk) (fun i y H' k hy hp s hk => turn i y hy hp H' ((e.trans e2).trans s) H' (Ex.refl _) k fun v H4 e4 hr => hk v H4 e4 hr)
    (fun us H' s hD' pr => q D us H' (fresh_back e2 hD) (e2.trans s) hD' pr) hw fun y v H u hr hu u' => perD y v H D u hr hu (fun _ _ _ => trivial) u'
/-- new tuples of values -/
def NewTup {α : Type} (f : α → List V) : α → V → Hp → Prop := fun y v H => ∃ p, v = .ref p ∧ H p = some (.tup (f y))
theorem el_uI (p : α → Bool) (f : α → List V) (hi : EvI wi σ H (ys.map c)) (hz : ys.length ≤ 100000) (test : ∀ (i : Nat) y, ys[i]? = some y → ∀ H', Ex H H' → EvT t ((wipe σ vs).set j (some (c y))) H' (p y))
    (turn : ∀ (i : Nat) y, ys[i]? = some y → p y = true → ∀ H', Ex H H' → EvU te ((wipe σ vs).set j (some (c y))) H' (f y)) (hw : ∀ v, wipe ((wipe σ vs).set j (some v)) vs = wipe σ vs := by intro _; rfl) :
    ∀ H1, Ex H H1 → ∀ Q : VK, (∀ D us H2, H1 D = none → Ex H1 H2 → H2 D = some (.lst us) → Paired (fun y v => NewTup f y v H2) (ys.filter p) us → Q (.ref D) H2) → tLc wi (gName j) t te vs σ H1 Q :=
  el_RI p (NewTup f) (fun y v H H' ⟨q, e, h⟩ s => ⟨q, e, s _ _ h⟩) (fun y v H D u ⟨q, e, h⟩ hu _ u' => ⟨q, e, by rw [upd_ne fun z => by rw [z, hu] at h; cases h]; exact h⟩) hi hz test (fun i y hy hp H' e => EvU.p (turn i y hy hp H' e)) hw
theorem et_yes : EvT tYes σ H true := fun H1 _ Q q => q H1 (Ex.refl _)
end
end Mc
namespace Mc
open PySem L2 PySem.Spec PyProof.Rows Evl
/-! dicts made of rows of pairs -/
def rDictP (K : PySem.W.Frag) : List V → Hp → VK → Prop := fun xs H Q => ∃ (a : Addr) (ps : List Addr) (kvs : List (L2.Key × V)), xs = [.ref a] ∧ SqL K H a (ps.map V.ref) ∧ Paired (fun p kv => SqT K H p [kV kv.1, kv.2]) ps kvs ∧ ∀ p, H p = none → Q (.ref p) (upd H p (.dK (mergeK [] kvs)))
theorem call_dictPK {X : Cx} {K : PySem.W.Frag} (h : X.K = K) (hc : X.calm = true) : CallR X (.type "dict") (rDictP K) := by
  subst h
  exact call_dictP hc
theorem tups_of {α : Type} {K : PySem.W.Frag} {H : Hp} {f : α → List V} {g : α → L2.Key × V} (e : ∀ y, f y = [kV (g y).1, (g y).2]) : ∀ {ys : List α} {us : List V}, Paired (fun y v => NewTup f y v H) ys us → ∃ ps : List Addr, us = ps.map V.ref ∧ Paired (fun p kv => SqT K H p [kV kv.1, kv.2]) ps (ys.map g)
  | _, _, .nil => ⟨[], rfl, .nil⟩
  | _, _, .cons ⟨p, ep, hp⟩ t => by
    obtain ⟨ps, e1, e2⟩ := tups_of e t
    exact ⟨p :: ps, by rw [ep, e1]; rfl, .cons (SqT.of (by rw [← e]; exact hp)) e2⟩
/-- a new list of new tuples -/
def EvUs {α : Type} (te : TE) (σ : L2.St) (H : Hp) (f : α → List V) (ys : List α) : Prop := ∀ H1, Ex H H1 → ∀ Q : VK, (∀ D us H2, H1 D = none → Ex H1 H2 → H2 D = some (.lst us) → Paired (fun y v => NewTup f y v H2) ys us → Q (.ref D) H2) → te σ H1 Q
section
variable {K : PySem.W.Frag} {σ : L2.St} {H : Hp} {te : TE} {a : Addr} {α : Type} {f : α → List V} {ys : List α}
theorem us_lock {kvs : List (L2.Key × V)} (h : H a = some (.dK kvs)) (k : ∀ od, EvUs te σ (upd H a (.frz od (.dK kvs))) f ys) : EvUs (tLockE te) σ H f ys := fun H1 e Q q => by
  have h1 := e _ _ h
  refine ⟨a, _, h1, trivial, fun od => ?_⟩
  have e1 : Ex (upd H a (.frz od (.dK kvs))) (upd H1 a (.frz od (.dK kvs))) := fun b o z => by
    by_cases nb : b = a
    · rw [nb, upd_same] at z ⊢; exact z
    · rw [upd_ne nb] at z ⊢; exact e _ _ z
  refine k od _ e1 _ fun p us H2 hp e2 h2 pr => ?_
  have na : p ≠ a := fun z => by rw [z, upd_same] at hp; cases hp
  have fa : H2 a = some (.frz od (.dK kvs)) := e2 _ _ upd_same
  refine ⟨fa, q p us _ (by rw [upd_ne na] at hp; exact hp) (fun b o z => ?_) (by rw [upd_ne na]; exact h2) (prd_imp (fun y v ⟨g, eg, hg⟩ => ⟨g, eg, by rw [upd_ne fun z => by rw [z, fa] at hg; cases hg]; exact hg⟩) pr)⟩
  by_cases nb : b = a
  · rw [nb, h1] at z; rw [nb, upd_same]; exact z
  · rw [upd_ne nb]; exact e2 _ _ (by rw [upd_ne nb]; exact z)
theorem ed_pairs {g : α → L2.Key × V} (e : ∀ y, f y = [kV (g y).1, (g y).2]) (h : EvUs te σ H f ys) {kvs : List (L2.Key × V)} (hk : mergeK [] (ys.map g) = kvs) : EvD (tCB (rDictP K) (tCons te tNil)) σ H kvs := fun H1 e1 Q q =>
  h H1 e1 _ fun D us H2 hD e2 h2 pr => by
    obtain ⟨ps, rfl, pp⟩ := tups_of (K := K) e pr
    refine ⟨D, ps, _, rfl, SqL.of h2, pp, fun p hp => ?_⟩
    rw [hk]
    exact q p _ (fresh_back e2 hp) (e2.trans (Ex.new hp)) upd_same
theorem EvD.go1 {kvs : List (L2.Key × V)} {Q : VK} (h : EvD te σ H kvs) (k : ∀ p H2, H p = none → Ex H H2 → H2 p = some (.dK kvs) → Q (.ref p) H2) : te σ H Q := h H (Ex.refl H) Q k
theorem q_asgD {tz : TS} {D : Ends} {i : Nat} {kvs : List (L2.Key × V)} (h : EvD te σ H kvs) (k : ∀ p H1, H p = none → Ex H H1 → H1 p = some (.dK kvs) → tz D (σ.set i (some (.ref p))) H1) : tSeq (tAsg te (gName i)) tz D σ H := h H (Ex.refl H) _ fun p H1 hp e h1 => k p H1 hp e h1
theorem q_asgP {te : TE} {tz : TS} {D : Ends} {σ : L2.St} {H : Hp} {i : Nat} {P : V → Hp → Prop} (h : EvP te σ H P) (k : ∀ v H1, Ex H H1 → P v H1 → tz D (σ.set i (some v)) H1) : tSeq (tAsg te (gName i)) tz D σ H := h H (Ex.refl H) _ k
/-- a copy of a dict -/
theorem ed_copy {r : List V → Hp → VK → Prop} {kvs : List (L2.Key × V)} (hr : r = fun xs H Q => ∃ (a : Addr) (kvs : List (L2.Key × V)), xs = [.ref a] ∧ Rd H a (.dK kvs) ∧ ∀ p, H p = none → Q (.ref p) (upd H p (.dK kvs))) (h : Ev te σ H (.ref a)) (hd : Rd H a (.dK kvs)) : EvD (tCB r (tCons te tNil)) σ H kvs := by
  subst hr
  exact fun H1 e1 Q q => h H1 e1 _ fun H2 e2 => ⟨a, kvs, rfl, ex_rd (e1.trans e2) hd, fun p hp => q p _ (fresh_back e2 hp) (e2.trans (Ex.new hp)) upd_same⟩
end
theorem prd_len {α β : Type} {F : α → β → Prop} : ∀ {xs : List α} {ys : List β}, Paired F xs ys → ys.length = xs.length
  | _, _, .nil => rfl
  | _, _, .cons _ t => by rw [List.length_cons, List.length_cons, prd_len t]
theorem us_items {β : Type} {K : PySem.W.Frag} {σ : L2.St} {H : Hp} {te : TE} {a : Addr} {g : β → V} {l : List (PySem.Str × β)} {o : Obj} {f : PySem.Str × β → List V} {i j : Nat} {vs : List Nat} {tl : TE} (hl : Ev tl σ H (.ref a)) (h : H a = some (.frz o (.dK (kvT g l)))) (hz : l.length < 100000)
    (turn : ∀ (k : Nat) y, l[k]? = some y → ∀ H', Ex H H' → EvU te (((wipe σ vs).set i (some (.str y.1))).set j (some (g y.2))) H' (f y)) (hw : ∀ u v, wipe (((wipe σ vs).set i (some u)).set j (some v)) vs = wipe σ vs := by intro _ _; rfl) :
    EvUs (tLc (iItems tl) (gTup K 2 (gCons (gName i) (gCons (gName j) gNil))) tYes te vs) σ H f l := fun H1 e Q q => hl H1 e _ fun H2 e2 => ⟨a, o, _, rfl, e2 _ _ (e _ _ h), fun D hD => by
  refine lc_it walk_items (fun n H' => ∃ us, Ex H2 H' ∧ H' D = some (.lst us) ∧ Paired (fun y v => NewTup f y v H') (l.take n) us) ⟨[], Ex.new hD, upd_same, .nil⟩ (fun n H' _ p => by obtain ⟨us, s, _⟩ := p; exact s _ _ (e2 _ _ (e _ _ h))) ?_ ?_
  · rintro n x H5 H6 hn ⟨us, s5, hD5, pr⟩ ⟨T5, x1, x2, rfl, hT5, rfl, ex, ey⟩
    obtain ⟨z, hz', rfl, rfl⟩ : ∃ z, l[n]? = some z ∧ x1 = V.str z.1 ∧ x2 = g z.2 := by
      replace ex : ((kvT g l)[n]?.map fun kv => kV kv.1) = some x1 := ex
      replace ey : ((kvT g l)[n]?.map Prod.snd) = some x2 := ey
      unfold kvT at ex ey
      rw [List.getElem?_map] at ex ey
      cases e : l[n]? with
      | none => rw [e] at ex; cases ex
      | some z => rw [e] at ex ey; exact ⟨z, rfl, (Option.some.inj ex).symm, (Option.some.inj ey).symm⟩
    have s6 := Ex.new (o := .tup [.str z.1, g z.2]) hT5
    refine ⟨T5, [.str z.1, g z.2], rfl, SqT.of upd_same, rfl, _, _, rfl, _, _, rfl, rfl, hw _ _, yes_ite ?_⟩
    refine turn n z hz' _ (((e.trans e2).trans s5).trans s6) _ (Ex.refl _) _ fun p H7 hp x7 h7 => ?_
    have hD7 := x7 _ _ (s6 _ _ hD5)
    have ext : ∀ b o, H5 b = some o → b ≠ D → (upd H7 D (.lst (us ++ [.ref p]))) b = some o := fun b o z n => by rw [upd_ne n]; exact x7 _ _ (s6 _ _ z)
    refine ⟨us, hD7, ?_, us ++ [.ref p], fun b o z => ext b o (s5 _ _ z) (ne_of_none z hD), upd_same, ?_⟩
    · rw [prd_len pr, List.length_take]
      exact sz_lt (by omega)
    · rw [List.take_add_one, hz']
      refine prd_snoc (prd_imp (fun y v ⟨r, er, hr⟩ => ⟨r, er, ext _ _ hr fun z => by rw [z, hD5] at hr; cases hr⟩) pr) ⟨p, rfl, ?_⟩
      rw [upd_ne fun z => by rw [z, hD7] at h7; cases h7]; exact h7
  · rintro H5 ⟨us, s5, hD5, pr⟩
    rw [show (kvT g l).length = l.length by unfold kvT; rw [List.length_map], List.take_length] at pr
    exact q D us H5 (fresh_back e2 hD) (e2.trans s5) hD5 pr⟩
theorem q_two {t : TT} {tu tz : TS} {D : Ends} {σ : L2.St} {H : Hp} (R : L2.St → Hp → Prop) (tail : ∀ σ' H', R σ' H' → tz D σ' H') (b : (∀ σ' H', R σ' H' → tz D σ' H') → tIfS t tu tNext { D with nx := tz D } σ H) : tSeq (tIfS t tu tNext) tz D σ H := b tail
theorem kv_filter {β : Type} {f : β → V} {l : List (PySem.Str × β)} (nd : (keysT l).Nodup) (p : PySem.Str → Bool) (z : β) : ((keysT l).filter p).map (fun y => ((Sum.inr y : L2.Key), f ((getT l y).getD z))) = kvT f (l.filter fun x => p x.1) := by
  unfold kvT keysT
  rw [List.filter_map, List.map_map]
  refine List.map_congr_left fun x hx => ?_
  have hx' := (List.mem_filter.mp hx).1
  show ((Sum.inr x.1 : L2.Key), f ((getT l x.1).getD z)) = _
  rw [getT_mem nd (v := x.2) hx']
  rfl
end Mc
namespace Mc
open PySem L2 PySem.Spec PyProof.Rows Evl
/-! what is wrong with a seating of calls that are there, on masts that are there -/
abbrev vS : PySem.Str → V := V.str
abbrev sWrong : Stmt := top 17
abbrev hdQ (cls : Cls') (x : PySem.Str) : List PySem.Str := ((getT cls x).map (·.2.2)).getD []
def cntM (st : List (PySem.Str × PySem.Str)) (m : PySem.Str) : Nat := (st.filter fun x => decide (x.2 = m)).length
theorem cntM_snoc (st : List (PySem.Str × PySem.Str)) (x : PySem.Str × PySem.Str) (m : PySem.Str) : cntM (st ++ [x]) m = if x.2 = m then cntM st m + 1 else cntM st m := by
  unfold cntM
  rw [List.filter_append, List.length_append, List.filter_cons]
  by_cases e : x.2 = m
  · rw [if_pos e, if_pos (decide_eq_true e)]; rfl
  · rw [if_neg e, if_neg (by simp [e])]; rfl
def badHeard (cls : Cls') (st : List (PySem.Str × PySem.Str)) : Bool := st.any fun x => !decide (x.2 ∈ hdQ cls x.1)
def badFull (chs : Chs) (st : List (PySem.Str × PySem.Str)) : Bool := (keysT chs).any fun m => decide (((cntM st m : Nat) : Int) > (getT chs m).getD 0)
def wrongV (chs : Chs) (cls : Cls') (st : List (PySem.Str × PySem.Str)) : V := if badHeard cls st then .str "heard" else if badFull chs st then .str "full" else .non
def spWrongV (K : PySem.W.Frag) (CS CC : Addr) : Sp := fun vs H Q _ => ∃ (sc sd : Addr) (chs : Chs) (cls : Cls') (st : List (PySem.Str × PySem.Str)), vs = [.ref sc, .ref sd] ∧ SceneH K CS CC H sc chs cls ∧ ScnX CS H sc chs cls ∧ OkC chs cls ∧ H sd = some (.dK (kvT vS st)) ∧ (∃ dx a b, H sc = some (.ins CS dx [("channels", .ref a), ("calls", .ref b)]) ∧ a ≠ sd ∧ b ≠ sd) ∧ (keysT st).Nodup ∧ st.length < 64 ∧
  (((∀ x ∈ st, x.1 ∈ keysT cls ∧ x.2 ∈ keysT chs) ∧ ∀ H', Ex H H' → Q (wrongV chs cls st) H') ∨ ((∃ z l, st = z :: l ∧ z.1 ∉ keysT cls) ∧ ∀ H', Ex H H' → Q (.str "call") H'))
structure TxWv (K : PySem.W.Frag) (mg : PySem.Str → Option Value) (CS CC : Addr) : Prop where
  clS : Cls K CS
  nCh : NoAttr K CS "channels"
  nCa : NoAttr K CS "calls"
  clC : Cls K CC
  nH : NoAttr K CC "heard"
  any : mg "any" = none
section
variable {P : Program} {w : World} {K : PySem.W.Frag} {mg : PySem.Str → Option Value} {base : Heap}
theorem scWr : FnScope ["scene", "seating", "loads", "name", "mast"] ["scene", "seating"] (defScope sWrong) := ⟨rfl, rfl, rfl, by decide +kernel, rfl, by decide +kernel, by decide +kernel⟩
theorem kLen {β : Type} {l : List (PySem.Str × β)} : (keysT l).length = l.length := by unfold keysT; rw [List.length_map]
theorem keysT_mk1 {β : Type} (g : PySem.Str → β) (ks : List PySem.Str) : keysT (ks.map fun m => (m, g m)) = ks := by
  unfold keysT; rw [List.map_map]; exact (List.map_congr_left fun _ _ => rfl).trans (List.map_id ks)
theorem ok_wrongV {f CS CC : Addr} {fd : FuncData} (F : Fun K "wrong_seating" "wrong_seating" sWrong f fd) (T : TxWv K mg CS CC) : FnOk P w K mg base CX0 1 f fd ["scene", "seating"] (spWrongV K CS CC) := by
  refine F.ok scWr (fun vs H Q E h => ?_) (fun cdv A outer s H vs Q E hr h => ?_)
  · obtain ⟨sc, a, chs, cls, st, rfl, _⟩ := h
    rfl
  · obtain ⟨sc, sd, chs, cls, st, rfl, hC, hX, ok, hs, ⟨dx9, a9, b9, h9, na, nb⟩, nd, hlen, q⟩ := h
    have hu := hu_of hr
    refine ⟨_, (pss_cons (ps_set (i := 2) scWr.nd rfl (Or.inr rfl) (pe_lock (pe_dc (own := [("mast", 4)]) (g := gName 4) (tt := tYes) rfl scWr.nd (pi_keys (pe_fld (pv 0) rfl)) (blkOk_by (own := [("mast", 4)]) (N := ["scene", "seating", "loads", "name", "mast"]) (sc := defScope sWrong) (by decide +kernel)) (fun _ _ _ _ _ => pg_name (i := 4) scWr.nd rfl (Or.inl rfl)) (fun _ _ _ _ _ => pts_nil) (fun _ _ _ _ _ => (pv 4)) (fun _ _ _ _ _ => pe_int))))
      (pss_cons (ps_lock (ps_for PassesOwn.never rfl (pi_keys (pv 1)) (pg_name (i := 3) scWr.nd rfl (Or.inl rfl))
        (pss_cons (ps_if (pt_cmp (pc_dnotin hu (pv 3) (pe_fld (pv 0) rfl)))
          (pss_one (ps_ret pe_str))
          pss_nil)
        (pss_cons (ps_if (pt_cmpR op_notIn_seq (pe_dget hu (pv 1) (pv 3) (fun _ _ => rfl)) (pe_fld (pe_dget hu (pe_fld (pv 0) rfl) (pv 3) (fun _ _ => rfl)) rfl) (by rfl))
          (pss_one (ps_ret pe_str))
          pss_nil)
        (pss_one (ps_daug hu (pv 2) (pe_dget hu (pv 1) (pv 3) (fun _ _ => rfl)) pe_int in_add (fun _ _ _ => rfl)))))))
      (pss_cons (ps_if (pt_val (pe_callB (cr_anyK (K := K) rfl rfl) (by rfl) T.any boot_any (pa_cons (pe_lock (pe_lc (own := [("mast", 4)]) (g := gName 4) (tt := tYes) rfl scWr.nd (pi_keys (pv 2)) (blkOk_by (own := [("mast", 4)]) (N := ["scene", "seating", "loads", "name", "mast"]) (sc := defScope sWrong) (by decide +kernel)) (fun _ _ _ _ _ => pg_name (i := 4) scWr.nd rfl (Or.inl rfl)) (fun _ _ _ _ _ => pts_nil) (fun _ _ _ _ _ => (pe_cmpR op_gt (pe_dget hu (pv 2) (pv 4) (fun _ _ => rfl)) (pe_dget hu (pe_fldK (K := K) rfl (pv 0) rfl) (pv 4) (fun _ _ => rfl)) (nomark _))))) pa_nil)))
        (pss_one (ps_ret pe_str))
        pss_nil)
      (pss_one (ps_ret pe_non))))), ?_⟩
    obtain ⟨dx, a, b, h1, h2, h3⟩ := hX.here
    obtain ⟨rfl, rfl⟩ : a = a9 ∧ b = b9 := by
      rw [h1] at h9
      have := Option.some.inj h9
      injection this with _ _ e3
      injection e3 with e4 e5
      injection e4 with _ e6
      injection e5 with e7 _
      injection e7 with _ e8
      injection e6 with e6
      injection e8 with e8
      exact ⟨e6, e8⟩
    have nsa : sc ≠ a := fun e => by rw [e, h2] at h1; cases h1
    have nss : sc ≠ sd := fun e => by rw [e, hs] at h1; cases h1
    have lch : chs.length < 64 := ok.len
    refine q_asgD (ed_lock (a := a) h2 fun od => ed_K (g := vI) (l := chs) (fun _ => vI 0) ok.nd (ev_fld (dx := dx) (ev_var rfl) (by rw [upd_ne nsa]; exact h1) T.clS T.nCh rfl) upd_same (by omega) fun i y hy H' x => ev_c) fun D H1 hD x1 hD1 => ?_
    rw [mkD_kvT] at hD1
    have hs1 := x1 _ _ hs
    have nDs : sd ≠ D := ne_of_none hs hD
    have nDa : a ≠ D := ne_of_none h2 hD
    have nDb : b ≠ D := ne_of_none h3 hD
    have nDc : sc ≠ D := ne_of_none h1 hD
    have off : ∀ {H' : Hp} {od : Obj}, Kp [D] (upd H1 sd (.frz od (.dK (kvT vS st)))) H' → ∀ {u o}, H u = some o → u ≠ sd → H' u = some o := fun {H' od} k {u o} z n => k _ _ (by rw [upd_ne n]; exact x1 _ _ z) fun e => ne_of_none z hD (List.mem_singleton.mp e)
    have back : ∀ {H' : Hp} {od : Obj}, Kp [D] (upd H1 sd (.frz od (.dK (kvT vS st)))) H' → Ex H (upd H' sd (.dK (kvT vS st))) := fun {H' od} k u o z => by
      by_cases e : u = sd
      · rw [e, upd_same]; rw [e, hs] at z; exact z
      · rw [upd_ne e]; exact off k z e
    have calls : ∀ {H' : Hp} {od : Obj}, Kp [D] (upd H1 sd (.frz od (.dK (kvT vS st)))) H' → CallsH K CC H' cls := fun {H' od} k z hz => by
      obtain ⟨dx', h', c1, c2⟩ := (hC.calls z hz).here
      exact ⟨dx', h', off k c1 (fun e => by rw [e, hs] at c1; cases c1), off k c2 (fun e => by rw [e, hs] at c2; cases c2)⟩
    refine q_lockFor (g := vS) (l := st) (j := 3) hs1 (fun od => ev_var rfl) (fun od j σ' H' => (∃ v3 v4, σ' = [some (.ref sc), some (.ref sd), some (.ref D), v3, v4]) ∧ Kp [D] (upd H1 sd (.frz od (.dK (kvT vS st)))) H' ∧ H' D = some (.dK (kvT vI ((keysT chs).map fun m => (m, ((cntM (st.take j) m : Nat) : Int))))) ∧ badHeard cls (st.take j) = false ∧ (0 < j → ∀ x ∈ st, x.1 ∈ keysT cls ∧ x.2 ∈ keysT chs))
      (fun od H2 x2 => ⟨⟨_, _, rfl⟩, fun u o z _ => x2 _ _ z, x2 _ _ (by rw [upd_ne nDs.symm]; exact hD1), rfl, fun z => absurd z (Nat.lt_irrefl 0)⟩)
      (fun od j σ' H' ⟨_, k, _⟩ => k _ _ upd_same fun e => nDs (List.mem_singleton.mp e)) ?_ ?_
    · rintro od j y σ' H2 hy ⟨⟨v3, v4, rfl⟩, k2, hD2, hbad, hall⟩
      have hs2 : H2 sd = some (.frz od (.dK (kvT vS st))) := k2 _ _ upd_same fun e => nDs (List.mem_singleton.mp e)
      obtain ⟨z, hz, rfl⟩ : ∃ z, st[j]? = some z ∧ z.1 = y := by
        unfold keysT at hy
        rw [List.getElem?_map] at hy
        obtain ⟨z, hz, e⟩ := Option.map_eq_some_iff.mp hy
        exact ⟨z, hz, e⟩
      have hzm := List.mem_of_getElem? hz
      have h12 := off k2 h1 nss
      have h32 := off k2 h3 nb
      rcases q with ⟨hok, q⟩ | ⟨⟨z0, l0, est, hz0⟩, q⟩
      · obtain ⟨zc, zm⟩ := hok z hzm
        obtain ⟨cd, hcd⟩ := getT_key zc
        obtain ⟨dxc, hh, c1, c2⟩ := (calls k2 _ (getT_in hcd)).here
        have l5 : cd.2.2.length < 64 := (ok.cl _ (getT_in hcd)).2.2.2.2.1
        have ehd : hdQ cls z.1 = cd.2.2 := by unfold hdQ; rw [hcd]; rfl
        have hz2 : getT st z.1 = some z.2 := getT_mem nd hzm
        have et : st.take (j + 1) = st.take j ++ [z] := by rw [List.take_add_one, hz]; rfl
        refine q_when (b := false) (et_is (et_B (ev_dnotin (f := vO) (ev_var rfl) (ev_fld (ev_var rfl) h12 T.clS T.nCa rfl) (.inl h32))) (by rw [decide_eq_true zc]; rfl)) (fun e => nomatch e) fun _ H3 x3 => ?_
        refine q_if (b := !decide (z.2 ∈ cd.2.2)) (et_test (ev_niST (K := K) (ev_dget (f := vS) (ev_var rfl) (ev_var rfl) (.inr ⟨od, x3 _ _ hs2⟩) hz2) (ev_fld (ev_dget (f := vO) (ev_fld (ev_var rfl) (x3 _ _ h12) T.clS T.nCa rfl) (ev_var rfl) (.inl (x3 _ _ h32)) hcd) (x3 _ _ c1) T.clC T.nH rfl) (st_of (x3 _ _ c2)))) (fun hb H4 x4 => ?_) fun hb H4 x4 => ?_
        · refine s_ret ev_c fun H5 x5 => ⟨x5 _ _ (x4 _ _ (x3 _ _ hs2)), ?_⟩
          have k5 : Kp [D] (upd H1 sd (.frz od (.dK (kvT vS st)))) H5 := fun u o e n => x5 _ _ (x4 _ _ (x3 _ _ (k2 u o e n)))
          have := q _ (back k5)
          rw [show wrongV chs cls st = .str "heard" from if_pos (List.any_eq_true.mpr ⟨z, hzm, by rw [ehd]; exact hb⟩)] at this
          exact this
        · have x24 := x3.trans x4
          have gl : getT ((keysT chs).map fun m => (m, ((cntM (st.take j) m : Nat) : Int))) z.2 = some ((cntM (st.take j) z.2 : Nat) : Int) := getT_mem (by rw [keysT_mk1]; exact ok.nd) (List.mem_map.mpr ⟨z.2, zm, rfl⟩)
          have hD4 := x24 _ _ hD2
          refine ⟨_, rfl, _, rfl, _, rfl, sd, _, rfl, dgetT (f := vS) (.inr ⟨od, x24 _ _ hs2⟩) hz2, D, _, rfl, dgetT (f := vI) (.inl hD4) gl, _, _, rfl, rfl, _, DPut.k (k := Sum.inr z.2) hD4 (by unfold kvT; rw [List.length_map, List.length_map, kLen, sizeLine_eq]; omega), ⟨_, _, rfl⟩, ?_, ?_, ?_, fun _ => hok⟩
          · exact fun u o e n => by
              rw [upd_ne fun w => n (by rw [w]; simp)]; exact x24 _ _ (k2 u o e n)
          · rw [upd_same]
            have e1 := put_old (f := vI) (l := (keysT chs).map fun m => (m, ((cntM (st.take j) m : Nat) : Int))) (k := z.2) (v := ((cntM (st.take j) z.2 : Nat) : Int) + 1) (by rw [keysT_mk1]; exact zm)
            refine congrArg some (congrArg HO.dK (e1.trans (congrArg (kvT vI) ?_)))
            rw [List.map_map]
            refine List.map_congr_left fun m _ => ?_
            show (if m = z.2 then (m, ((cntM (st.take j) z.2 : Nat) : Int) + 1) else (m, ((cntM (st.take j) m : Nat) : Int))) = _
            rw [et, cntM_snoc]
            by_cases e : m = z.2
            · rw [if_pos e, if_pos e.symm, e]; rfl
            · rw [if_neg e, if_neg fun q => e q.symm]
          · rw [et]
            unfold badHeard at hbad ⊢
            rw [List.any_append, hbad]
            have hb : (!decide (z.2 ∈ cd.2.2)) = false := hb
            show (false || ((!decide (z.2 ∈ hdQ cls z.1)) || false)) = false
            rw [ehd, hb]; rfl
      · have hj0 : j = 0 := by
          rcases Nat.eq_zero_or_pos j with h | h
          · exact h
          · exact absurd (hall h z0 (by rw [est]; simp)).1 hz0
        subst hj0
        rw [est] at hz
        cases Option.some.inj hz
        refine q_when (b := true) (et_is (et_B (ev_dnotin (f := vO) (ev_var rfl) (ev_fld (ev_var rfl) h12 T.clS T.nCa rfl) (.inl h32))) (by rw [decide_eq_false hz0]; rfl)) (fun _ H3 x3 => ?_) (fun e => nomatch e)
        refine s_ret ev_c fun H5 x5 => ⟨x5 _ _ (x3 _ _ hs2), ?_⟩
        exact q _ (back fun u o e n => x5 _ _ (x3 _ _ (k2 u o e n)))
    · rintro od σ' H2 ⟨⟨v3, v4, rfl⟩, k2, hD2, hbad, hall⟩
      rw [show (keysT st).length = st.length from kLen, List.take_length] at hbad hD2
      have xb := back k2
      have hD3 : upd H2 sd (.dK (kvT vS st)) D = some (.dK (kvT vI ((keysT chs).map fun m => (m, ((cntM st m : Nat) : Int))))) := by rw [upd_ne nDs.symm]; exact hD2
      rcases q with ⟨hok, q⟩ | ⟨⟨z0, l0, est, hz0⟩, _⟩
      rotate_left
      · exfalso
        have := hall (by rw [kLen, est]; exact Nat.succ_pos _) z0 (by rw [est]; simp)
        exact hz0 this.1
      generalize upd H2 sd (.dK (kvT vS st)) = H3 at xb hD3 ⊢
      have kl : keysT ((keysT chs).map fun m => (m, ((cntM st m : Nat) : Int))) = keysT chs := keysT_mk1 _ _
      refine q_if (b := badFull chs st) (et_B (ev_anyM (K := K) (ys := keysT chs) (p := fun m => decide (((cntM st m : Nat) : Int) > (getT chs m).getD 0)) (by
        have := el_lock (te := tLc (iKeys (tVar 2)) (gName 4) tYes (tOp (rI0 fun i j => V.bl (decide (i > j))) (tDGet (tVar 2) (tVar 4)) (tDGet (tFld K (tVar 0) "channels") (tVar 4))) (List.map (fun x => x.snd) [(("mast" : PySem.Str), 4)])) (σ := [some (.ref sc), some (.ref sd), some (.ref D), v3, v4]) hD3 fun od2 => el_mK (g := vI) (l := (keysT chs).map fun m => (m, ((cntM st m : Nat) : Int))) (fun m => V.bl (decide (((cntM st m : Nat) : Int) > (getT chs m).getD 0))) (ev_var rfl) upd_same (by rw [List.length_map, kLen]; omega) fun i m hm H4 x4 => ?_
        · rw [kl] at this; exact this
        · rw [kl] at hm
          have hmk := List.mem_of_getElem? hm
          obtain ⟨n, hn⟩ := getT_key hmk
          have gl : getT ((keysT chs).map fun m => (m, ((cntM st m : Nat) : Int))) m = some ((cntM st m : Nat) : Int) := getT_mem (by rw [kl]; exact ok.nd) (List.mem_map.mpr ⟨m, hmk, rfl⟩)
          refine ev_is (ev_op (ev_dget (f := vI) (ev_var rfl) (ev_var rfl) (.inr ⟨od2, x4 _ _ upd_same⟩) gl) (ev_dget (f := vI) (ev_fld (dx := dx) (ev_var rfl) (x4 _ _ (by rw [upd_ne nDc]; exact xb _ _ h1)) T.clS T.nCh rfl) (ev_var rfl) (.inl (x4 _ _ (by rw [upd_ne nDa]; exact xb _ _ h2))) hn) rv_I0) ?_
          rw [hn]; rfl))) (fun hb H4 x4 => ?_) fun hb H4 x4 => ?_
      · refine s_ret ev_c fun H5 x5 => ?_
        have := q _ (xb.trans (x4.trans x5))
        rw [show wrongV chs cls st = .str "full" by unfold wrongV; rw [hbad, hb]; rfl] at this
        exact this
      · show tRet (tC V.non) { nx := fun x H' => Q V.non H', rt := Q } [some (.ref sc), some (.ref sd), some (.ref D), v3, v4] H4
        refine s_ret ev_c fun H5 x5 => ?_
        have := q _ (xb.trans (x4.trans x5))
        rw [show wrongV chs cls st = .non by unfold wrongV; rw [hbad, hb]; rfl] at this
        exact this
end
end Mc
namespace Mc
open PySem L2 PySem.Spec PyProof.Rows
/-! a != b of two objects of a class with its own == and no own != -/
section
variable {M : Model} {prog : Program} {w : World} {A : Around} {E : Value → Shared → Prop} {s : Shared} {K : PySem.W.Frag} {x C f : Addr} {ox : Obj} {od : Option Obj} {b : Value}
theorem ifBound_objNe {args : List Value} {Q : Option Value → Shared → Prop} (X : K.In s.heap) (I : PySem.W.InstAt s.heap x ox C od) (hs : PySem.W.findIn K (.ref C) "__ne__" = some (some (.builtin "object.__ne__")))
    (h : wpAny M A (call (.builtin "object.__ne__") (.ref x :: args)) (fun v => Q (some v)) E s) : wpAny M A (callSpecialIfBound? (.ref x) "__ne__" args) Q E s := by
  simp only [callSpecialIfBound?, bindSpecialIfBound?]
  refine wpAny_holding (wpAny_bind (wpAny_bind (wpAny_bind (I.type.here ((PySem.W.looks_findIn X hs).here ?_)))))
  refine wpAny_bind (wpAny_askSetting (wpAny_ite ?_))
  have fin : wpAny M A (call (.builtin "object.__ne__") ([.ref x] ++ args) >>= fun v => pure (some v)) Q E s := wpAny_bind (wpAny_mono h (fun v s' h' => wpAny_pure h') fun _ _ h' => h')
  split
  · exact wpAny_bind (wpAny_of_eq (F.cmp_object.ne.bind _) (wpAny_pure (by exact fin)))
  · exact wpAny_tryCatch (wpAny_bind (wpAny_of_eq (F.cmp_object.ne.bind _) (wpAny_pure (by exact fin))))
theorem entry_ne {Q : Fin → Shared → Prop} (hu : A.units < cLine) (X : K.In s.heap) (I : PySem.W.InstAt s.heap x ox C od) (hs : PySem.W.findIn K (.ref C) "__eq__" = some (some (.ref f))) (hf : PySem.W.isFn K (.ref f) = true)
    (h : wpAny M A (call (.ref f) [.ref x, b]) (fun v s' => ∃ r : Bool, v = .bool r ∧ Q (.done (.ret (.bool (!r)))) s') E s) : wpAny M A (Builtin.«object.__ne__» ⟨[.ref x, b], []⟩) Q E s := by
  unfold Builtin.«object.__ne__»
  refine wpAny_bind (m := slotArgs "__ne__" 1 _) (wpAny_pure ?_)
  refine wpAny_bind (wpAny_cRoomFor hu ?_)
  refine wpAny_bind (PySem.W.ifBound_K X I hs hf (wpAny_mono h (fun v s' hv => ?_) fun _ _ e => e))
  obtain ⟨r, rfl, hq⟩ := hv
  exact wpAny_bind (wpAny_truthy_bool (wpAny_pure hq))
theorem call_objNe {Q : Value → Shared → Prop} (hu : A.in1.units < cLine) (X : K.In s.heap) (I : PySem.W.InstAt s.heap x ox C od) (hm : PySem.W.mroIn K C (.type "object") = some true) (hs : PySem.W.findIn K (.ref C) "__eq__" = some (some (.ref f))) (hf : PySem.W.isFn K (.ref f) = true)
    (h : wpAny (model prog w) A.in1 (call (.ref f) [.ref x, b]) (fun v s' => ∃ r : Bool, v = .bool r ∧ Q (.bool (!r)) s') E s) : wpAny (model prog w) A (call (.builtin "object.__ne__") [.ref x, b]) Q E s := by
  refine wpAny_call (codeAny_call_builtin F.cmp_object.ne.plain F.cmpEntry_ne (PySem.W.check_slot F.cmpKind_ne F.cmpSplit_ne (I.type.andThen (PySem.W.looks_mroIn X hm)) (F.cmpArgs_ne _ _) (entry_ne hu X I hs hf ?_)))
  exact h
theorem rc_ne {Q : Value → Shared → Prop} {tb : Value} (hu : A.units + 1 < cLine) (X : K.In s.heap) (I : PySem.W.InstAt s.heap x ox C od) (hb : PySem.W.Looks (model prog w) s.heap (typeOf b) tb) (hn : PySem.W.notFirst K C tb = true) (hm : PySem.W.mroIn K C (.type "object") = some true)
    (hs : PySem.W.findIn K (.ref C) "__eq__" = some (some (.ref f))) (hsn : PySem.W.findIn K (.ref C) "__ne__" = some (some (.builtin "object.__ne__"))) (hf : PySem.W.isFn K (.ref f) = true)
    (h : wpAny (model prog w) A.in1 (call (.ref f) [.ref x, b]) (fun v s' => ∃ r : Bool, v = .bool r ∧ Q (.bool (!r)) s') E s) : wpAny (model prog w) A (richCompare .NotEq (.ref x) b) Q E s := by
  have one : wpAny (model prog w) A (tryCompare (.ref x) "__ne__" b) (fun r s' => ∃ v, r = some v ∧ Q v s') E s := by
    unfold tryCompare
    refine wpAny_bind (ifBound_objNe X I hsn (call_objNe (by show A.units + 1 < cLine; exact hu) X I hm hs hf (wpAny_mono h (fun v s' hv => ?_) fun _ _ e => e)))
    obtain ⟨r, e, hq⟩ := hv
    exact ⟨r, e, wpAny_pure ⟨_, rfl, hq⟩⟩
  unfold richCompare
  simp only [oneThing_ref]
  refine wpAny_holding (wpAny_bind (wpAny_cRoomFor (by omega) ?_))
  refine wpAny_bind (I.type.here (wpAny_bind (hb.here ?_)))
  split
  · rename_i q
    have e : PySem.W.subIn K tb (.ref C) = some false := by
      rcases Bool.or_eq_true_iff.mp hn with e | e
      · rw [beq_iff_eq.mp e] at q; simp at q
      · exact beq_iff_eq.mp e
    refine wpAny_bind ((PySem.W.looks_subIn X e).here ?_)
    simp only [Bool.false_eq_true, if_false]
    refine wpAny_bind (wpAny_mono one (fun r s' z => ?_) fun _ _ e => e)
    obtain ⟨v, rfl, hq⟩ := z
    exact wpAny_pure hq
  · refine wpAny_bind (wpAny_pure ?_)
    simp only [Bool.false_eq_true, if_false]
    refine wpAny_bind (wpAny_mono one (fun r s' z => ?_) fun _ _ e => e)
    obtain ⟨v, rfl, hq⟩ := z
    exact wpAny_pure hq
end
/-- == and != of two objects of the class C by its own == -/
def rNeI (C : Addr) (sp : Sp) (E : XK) : R2 := fun x y H Q => ∃ (a b dx dy : Addr) (fs gs : List (PySem.Str × V)), x = .ref a ∧ y = .ref b ∧ H a = some (.ins C dx fs) ∧ H b = some (.ins C dy gs) ∧ sp [.ref a, .ref b] H (fun v H' => ∃ r : Bool, v = .bl r ∧ Q (.bl (!r)) H') E
def rEqI (C : Addr) (sp : Sp) (E : XK) : R2 := fun x y H Q => ∃ (a b dx dy : Addr) (fs gs : List (PySem.Str × V)), x = .ref a ∧ y = .ref b ∧ H a = some (.ins C dx fs) ∧ H b = some (.ins C dy gs) ∧ sp [.ref a, .ref b] H (fun v H' => ∃ r : Bool, v = .bl r ∧ Q (.bl r) H') E
section
variable {X : Cx} {CX : CXT} {n : Nat} {C f : Addr} {fd : FuncData} {ps : List PySem.Str} {sp : Sp} {E : XK}
theorem op_neI (F : FnOk X.prog X.w X.K X.mg X.base CX n f fd ps sp) (hs : PySem.W.findIn X.K (.ref C) "__eq__" = some (some (.ref f))) (hsn : PySem.W.findIn X.K (.ref C) "__ne__" = some (some (.builtin "object.__ne__"))) (hm : PySem.W.mroIn X.K C (.type "object") = some true)
    (hf : PySem.W.isFn X.K (.ref f) = true) (hb : Binds X.K fd ps []) (hx : Passes CX X E) (hr : Room (n + 1) X.A) : OpR X (compareOp .NotEq) (rNeI C sp E) := by
  intro pins s σ H x y v u Q I rx ry h
  obtain ⟨a, b, dx, dy, fs, gs, rfl, rfl, ha, hb', hsp⟩ := h
  cases rx
  cases ry
  obtain ⟨mA, J, _⟩ := ins_get I.hok ha
  obtain ⟨mB, J', _⟩ := ins_get I.hok hb'
  obtain ⟨od, J, _⟩ := J.look
  obtain ⟨od', J', _⟩ := J'.look
  have hu := hr.units
  show wpAny (model X.prog X.w) X.A (richCompare .NotEq (.ref a) (.ref b)) (EP X pins σ Q) X.xe s
  refine rc_ne (tb := .ref C) (by omega) I.kIn J J'.type (by simp [PySem.W.notFirst]) hm hs hsn hf ?_
  have e0 : Env0 X.prog X.w X.K X.mg X.base X.A.in1 X.stack s H := by
    have e := I.env0
    exact ⟨e.frames, e.mod, e.bs, e.bsz, e.funs, e.frf, e.hok, e.bare⟩
  have hl := F.len _ _ _ _ hsp
  have r2 : Vals [V.ref a, V.ref b] [Value.ref a, Value.ref b] := .cons rfl (.cons rfl .nil)
  refine wpAny_call (codeAny_mono (F.run X.A.in1 X.stack s H ⟨[.ref a, .ref b], []⟩ [.ref a, .ref b] [.ref a, .ref b] _ E hr.in1 e0 (by
    have := hb s [.ref a, .ref b] I.kIn (by simpa using hl)
    simpa using this) r2 hsp) fun r s' hq => ?_)
  cases r with
  | error e => exact hx pins σ H s e s' I hq
  | ok fl =>
    cases fl with
    | ret w' =>
      obtain ⟨z, H', I', rz, r, ez, q⟩ := I.after hq
      subst ez
      cases rz
      exact ⟨r, rfl, .bl (!r), H', I', rfl, q⟩
    | next => exact False.elim hq
    | brk => exact False.elim hq
    | cont => exact False.elim hq
theorem op_eqI (F : FnOk X.prog X.w X.K X.mg X.base CX n f fd ps sp) (hs : PySem.W.findIn X.K (.ref C) "__eq__" = some (some (.ref f)))
    (hf : PySem.W.isFn X.K (.ref f) = true) (hb : Binds X.K fd ps []) (hx : Passes CX X E) (hr : Room n X.A) : OpR X (compareOp .Eq) (rEqI C sp E) := by
  intro pins s σ H x y v u Q I rx ry h
  obtain ⟨a, b, dx, dy, fs, gs, rfl, rfl, ha, hb', hsp⟩ := h
  cases rx
  cases ry
  obtain ⟨mA, J, _⟩ := ins_get I.hok ha
  obtain ⟨mB, J', _⟩ := ins_get I.hok hb'
  obtain ⟨od, J, _⟩ := J.look
  obtain ⟨od', J', _⟩ := J'.look
  obtain ⟨m, hF⟩ := I.fr
  show wpAny (model X.prog X.w) X.A (richCompare .Eq (.ref a) (.ref b)) (EP X pins σ Q) X.xe s
  refine PySem.W.cmp_K (op := .Eq) (tb := .ref C) hr.units0 hF I.ok.mod.kin J J'.type (by simp [PySem.W.notFirst]) hs hf ?_
  have e0 : Env0 X.prog X.w X.K X.mg X.base X.A X.stack s H := I.env0
  have hl := F.len _ _ _ _ hsp
  have r2 : Vals [V.ref a, V.ref b] [Value.ref a, Value.ref b] := .cons rfl (.cons rfl .nil)
  refine wpAny_call (codeAny_mono (F.run X.A X.stack s H ⟨[.ref a, .ref b], []⟩ [.ref a, .ref b] [.ref a, .ref b] _ E hr e0 (by
    have := hb s [.ref a, .ref b] I.kIn (by simpa using hl)
    simpa using this) r2 hsp) fun r s' hq => ?_)
  cases r with
  | error e => exact hx pins σ H s e s' I hq
  | ok fl =>
    cases fl with
    | ret w' =>
      obtain ⟨z, H', I', rz, r, ez, q⟩ := I.after hq
      subst ez
      cases rz
      exact ⟨.bl r, H', I', rfl, q⟩
    | next => exact False.elim hq
    | brk => exact False.elim hq
    | cont => exact False.elim hq
end
end Mc
namespace Mc
open PySem L2 PySem.Spec PyProof.Rows
section
variable {X : Cx}
/-- a list against an empty one -/
def rNeNil (K : PySem.W.Frag) : R2 := fun x y H Q => ∃ (l b : Addr) (xs : List V), x = .ref l ∧ y = .ref b ∧ SqL K H l xs ∧ SqL K H b [] ∧ Q (.bl (!xs.isEmpty)) H
theorem op_neNil (hu : X.A.units + 64 < cLine) : OpR X (compareOp .NotEq) (rNeNil X.K) := by
  intro pins s σ H x y v u Q I rx ry ⟨l, b, xs, e1, e2, hl, hb, q⟩
  subst e1; subst e2
  cases xs with
  | nil => exact op_neD hu pins s σ H _ _ v u Q I rx ry ⟨.list [], .list [], .lst hl .nil, .lst hb .nil, by rfl, by rfl, q⟩
  | cons z zs =>
    cases rx; cases ry
    obtain ⟨i1, r1, p1, _⟩ := I.list hl
    obtain ⟨i2, r2, p2, _⟩ := I.list hb
    have z1 : i1.length = zs.length + 1 := by rw [← r1.length]; rfl
    have z2 : i2.length = 0 := by rw [← r2.length]; rfl
    exact SeqAt.RcNeAt.lists_lengths p1.isList p2.isList (by simp [z1, z2]) (by omega) _ _ _ _ ⟨.bl true, H, I, rfl, q⟩
end
end Mc
namespace Mc
open PySem L2 PySem.Spec PyProof.Rows
section
variable {X : Cx} {K : PySem.W.Frag}
/-- a dict against an empty one -/
def rNeDN : R2 := fun x y H Q => ∃ a b ks, x = .ref a ∧ y = .ref b ∧ H a = some (.dK ks) ∧ H b = some (.dK []) ∧ Q (.bl (!ks.isEmpty)) H
theorem op_neDN (hu : X.A.units < cLine) : OpR X (compareOp .NotEq) rNeDN := by
  intro pins s σ H x y v u Q I rx ry h
  obtain ⟨a, b, ks, rfl, rfl, ea, eb, q⟩ := h
  cases ks with
  | nil => exact op_ne_dictA hu pins s σ H _ _ v u Q I rx ry ⟨a, b, [], [], rfl, rfl, ea, eb, rfl, fun p hp => (nomatch hp), q⟩
  | cons k ks =>
    cases rx
    cases ry
    obtain ⟨_, ya, va, ra, da⟩ := (show ObjOk X.prog X.w H s.heap a (.dK (k :: ks)) from I.hok a _ ea)
    obtain ⟨_, yb, vb, rb, db⟩ := (show ObjOk X.prog X.w H s.heap b (.dK []) from I.hok b _ eb)
    have z1 : va.length = ks.length + 1 := by rw [← ra.length]; rfl
    have z2 : vb.length = 0 := by rw [← rb.length]; rfl
    exact PySem.W.keq_ne (knd := mixKind X.prog X.w) (r := true) ya yb da db hu (fun e => by omega) (fin_bl I q (by simp [z1, z2]))
theorem pg_tupK {es : List Expr} {k : Nat} {p : Pos} {t : TGs} {n : Nat} (hK : X.K = K) (h : PG X (.Tuple es k p) (gTup X.K n t)) : PG X (.Tuple es k p) (gTup K n t) := by
  subst hK
  exact h
theorem op_inK (h : X.K = K) : OpR X (compareOp .In) (rIn K false) := by
  subst h
  exact op_in_seq
theorem op_notInK (h : X.K = K) : OpR X (compareOp .NotIn) (rIn K true) := by
  subst h
  exact op_notIn_seq
end
end Mc
namespace Mc
open PySem L2 PySem.Spec PyProof.Rows Evl
abbrev sCEq : Stmt := inClass (top 12) 1
structure TxCe (K : PySem.W.Frag) (mg : PySem.Str → Option Value) (CC : Addr) : Prop where
  cl : Cls K CC
  nW : NoAttr K CC "worth"
  nH : NoAttr K CC "heard"
  isi : mg "isinstance" = none
  cc : mg "Call" = some (.ref CC)
  ha : PySem.W.findIn K (.ref CC) "__class__" = some (some (.builtin "object.__class__"))
  hn : PySem.W.specialIn K (.builtin "object.__class__") "__get__" = some (some (.builtin "getset_descriptor.__get__"))
  tk : PySem.W.takesIn K (.builtin "object.__class__") = some true
  hm : PySem.W.mroIn K CC (.type "object") = some true
/-- == of two calls -/
def spCEq (K : PySem.W.Frag) (CC : Addr) : Sp := fun vs H Q _ => ∃ (p q : Addr) (w1 w2 : Int) (h1 h2 : List PySem.Str), vs = [.ref p, .ref q] ∧ CallH K CC H p w1 h1 ∧ CallH K CC H q w2 h2 ∧ (∀ x ∈ h1, PyData.strOk x = true) ∧ (∀ x ∈ h2, PyData.strOk x = true) ∧ ∀ H', Ex H H' → Q (.bl (decide (w1 = w2) && decide (h1 = h2))) H'
section
variable {P : Program} {w : World} {K : PySem.W.Frag} {mg : PySem.Str → Option Value} {base : Heap}
theorem call_isiK2 {X : Cx} {K : PySem.W.Frag} (h : X.K = K) : CallR X (.builtin "isinstance") (rIsi K) := by subst h; exact call_isi
theorem scCEq : FnScope ["self", "other"] ["self", "other"] (defScope sCEq) := ⟨rfl, rfl, rfl, by decide +kernel, rfl, by decide +kernel, by decide +kernel⟩
theorem ok_ceq {f CC : Addr} {fd : FuncData} (F : Fun K "__eq__" "Call.__eq__" sCEq f fd) (T : TxCe K mg CC) : FnOk P w K mg base CX0 1 f fd ["self", "other"] (spCEq K CC) := by
  refine F.ok scCEq (fun vs H Q E h => ?_) (fun cdv A outer s H vs Q E hr h => ?_)
  · obtain ⟨p, q, w1, w2, h1, h2, rfl, _⟩ := h
    rfl
  · obtain ⟨p, q, w1, w2, h1, h2, rfl, ⟨dx, a, p1, p2⟩, ⟨dy, b, q1, q2⟩, o1, o2, k⟩ := h
    have hu := hu_of hr
    refine ⟨_, (pss_one (ps_ret (pe_and (pe_callB (call_isiK2 (K := K) rfl) (by rfl) T.isi boot_isinstance (pa_cons (pv 1) (pa_cons (pe_glob (v := .ref CC) (by rfl) T.cc rfl) pa_nil))) (pe_and (pe_cmpR op_eq (pe_fld (pv 0) rfl) (pe_fld (pv 1) rfl) (nomark _)) (pe_one (pe_cmpR (op_eqD hr.units) (pe_fld (pv 0) rfl) (pe_fld (pv 1) rfl) (nomark _))))))), ?_⟩
    have isi : PySem.W.kitOne K (.ref CC) (.ref CC) = some true := if_pos (by simp)
    refine ⟨_, rfl, .ref q, .ref CC, .ref CC, .ref CC, true, rfl, .own CC, .base (.ins q1 T.cl T.ha T.hn T.tk T.hm), isi, ?_⟩
    refine ⟨true, rfl, ?_⟩
    refine ⟨_, rfl, p, CC, dx, _, _, rfl, p1, T.cl, T.nW, rfl, _, rfl, q, CC, dy, _, _, rfl, q1, T.cl, T.nW, rfl, rfl, ?_⟩
    refine ⟨_, rfl, ?_⟩
    by_cases e : w1 = w2
    · rw [decide_eq_true (show V.int w1 = V.int w2 by rw [e])]
      refine ⟨_, rfl, p, CC, dx, _, _, rfl, p1, T.cl, T.nH, rfl, _, rfl, q, CC, dy, _, _, rfl, q1, T.cl, T.nH, rfl, ?_⟩
      refine rv_eqST (st_of p2) (st_of q2) o1 o2 H (Ex.refl _) _ fun H' x => ?_
      have := k H' x
      rw [decide_eq_true e] at this
      exact this
    · rw [decide_eq_false (show ¬ V.int w1 = V.int w2 from fun z => e (by injection z))]
      have := k H (Ex.refl _)
      rw [decide_eq_false e] at this
      exact this
end
end Mc
namespace Mc
open PySem L2 PySem.Spec PyProof.Rows Evl
abbrev sSEq : Stmt := inClass (top 13) 1
structure TxEq (K : PySem.W.Frag) (mg : PySem.Str → Option Value) (CS : Addr) : Prop where
  clS : Cls K CS
  nCh : NoAttr K CS "channels"
  nCa : NoAttr K CS "calls"
  isi : mg "isinstance" = none
  sc : mg "Scene" = some (.ref CS)
  ha : PySem.W.findIn K (.ref CS) "__class__" = some (some (.builtin "object.__class__"))
  hn : PySem.W.specialIn K (.builtin "object.__class__") "__get__" = some (some (.builtin "getset_descriptor.__get__"))
  tk : PySem.W.takesIn K (.builtin "object.__class__") = some true
  hm : PySem.W.mroIn K CS (.type "object") = some true
/-- == of two scenes that are alike -/
def spSEq (CS : Addr) : Sp := fun vs H Q _ => ∃ (p q : Addr) (chs : Chs) (cls : Cls'), vs = [.ref p, .ref q] ∧ ScnX CS H p chs cls ∧ ScnX CS H q chs cls ∧ (keysT chs).Nodup ∧ (keysT cls).Nodup ∧ ∀ H', Same H H' → Q (.bl true) H'
def rEqV' (K : PySem.W.Frag) : R2 := rEqV K
theorem op_eqVK {X : Cx} {K : PySem.W.Frag} (h : X.K = K) (hu : X.A.units + 64 < cLine) : OpR X (compareOp .Eq) (rEqV K) := by subst h; exact op_eqV hu
theorem call_isiK' {X : Cx} {K : PySem.W.Frag} (h : X.K = K) : CallR X (.builtin "isinstance") (rIsi K) := by subst h; exact call_isi
section
variable {P : Program} {w : World} {K : PySem.W.Frag} {mg : PySem.Str → Option Value} {base : Heap}
theorem scSEq : FnScope ["self", "other"] ["self", "other"] (defScope sSEq) := ⟨rfl, rfl, rfl, by decide +kernel, rfl, by decide +kernel, by decide +kernel⟩
theorem ok_seq {f CS : Addr} {fd : FuncData} (F : Fun K "__eq__" "Scene.__eq__" sSEq f fd) (T : TxEq K mg CS) : FnOk P w K mg base CX0 1 f fd ["self", "other"] (spSEq CS) := by
  refine F.ok scSEq (fun vs H Q E h => ?_) (fun cdv A outer s H vs Q E hr h => ?_)
  · obtain ⟨p, q, chs, cls, rfl, _⟩ := h
    rfl
  · obtain ⟨p, q, chs, cls, rfl, hp, hq, n1, n2, k⟩ := h
    have hu := hu_of hr
    refine ⟨_, (pss_one (ps_ret (pe_and (pe_callB (call_isiK' (K := K) rfl) (by rfl) T.isi boot_isinstance (pa_cons (pv 1) (pa_cons (pe_glob (v := .ref CS) (by rfl) T.sc rfl) pa_nil))) (pe_and (pe_cmpR (op_eqVK (K := K) rfl hr.units) (pe_fld (pv 0) rfl) (pe_fld (pv 1) rfl) (nomark _)) (pe_one (pe_cmpR (op_eqVK (K := K) rfl hr.units) (pe_fld (pv 0) rfl) (pe_fld (pv 1) rfl) (nomark _))))))), ?_⟩
    obtain ⟨dx, a, b, h1, h2, h3⟩ := hp.here
    obtain ⟨dy, c, d, g1, g2, g3⟩ := hq.here
    have e1 : EqR K H (EqV K H 1) (.ref a) (.ref c) := .inr ⟨a, c, _, _, rfl, rfl, h2, g2, rfl, fun z hz => by
      obtain ⟨y, hy, rfl⟩ := List.mem_map.mp hz
      exact ⟨_, (by rw [val_T, getT_mem n1 hy]; rfl), .inl ⟨rfl, rfl⟩⟩⟩
    have e2 : EqR K H (EqV K H 1) (.ref b) (.ref d) := .inr ⟨b, d, _, _, rfl, rfl, h3, g3, rfl, fun z hz => by
      obtain ⟨y, hy, rfl⟩ := List.mem_map.mp hz
      exact ⟨_, (by rw [val_T, getT_mem n2 hy]; rfl), .inr (.inl ⟨_, rfl, rfl⟩)⟩⟩
    have isi : PySem.W.kitOne K (.ref CS) (.ref CS) = some true := if_pos (by simp)
    refine ⟨_, rfl, .ref q, .ref CS, .ref CS, .ref CS, true, rfl, .own CS, .base (.ins g1 T.clS T.ha T.hn T.tk T.hm), isi, ?_⟩
    refine ⟨true, rfl, ?_⟩
    refine ⟨_, rfl, p, CS, dx, _, _, rfl, h1, T.clS, T.nCh, rfl, _, rfl, q, CS, dy, _, _, rfl, g1, T.clS, T.nCh, rfl, 1, by decide, e1, true, rfl, ?_⟩
    exact ⟨_, rfl, p, CS, dx, _, _, rfl, h1, T.clS, T.nCa, rfl, _, rfl, q, CS, dy, _, _, rfl, g1, T.clS, T.nCa, rfl, 1, by decide, e2, k H fun _ _ z => z⟩
end
end Mc
namespace Mc
open PySem L2 PySem.Spec PyProof.Rows Evl
/-! slices, sums, reversals, sorted copies of sequences, as pure values -/
theorem cut_take (xs : List V) (n : Nat) : cutV xs none (some (n : Nat)) = xs.take n := by
  unfold cutV
  rw [show HT.sIx xs.length 0 none = 0 from rfl, HT.sIx_nat, List.drop_zero, Nat.sub_zero]
  by_cases h : n ≤ xs.length
  · rw [Nat.min_eq_left h]
  · rw [Nat.min_eq_right (by omega), List.take_of_length_le (Nat.le_refl _), List.take_of_length_le (by omega)]
theorem cut_drop (xs : List V) (n : Nat) : cutV xs (some (n : Nat)) none = xs.drop n := by
  unfold cutV
  rw [show HT.sIx xs.length xs.length none = xs.length from rfl, HT.sIx_nat]
  by_cases h : n ≤ xs.length
  · rw [Nat.min_eq_left h]
    exact List.take_of_length_le (by rw [List.length_drop]; exact Nat.le_refl _)
  · rw [Nat.min_eq_right (by omega), Nat.sub_self, List.take_zero, List.drop_eq_nil_of_le (by omega)]
theorem cut_last (xs : List V) : cutV xs none (some (-1)) = xs.dropLast := by
  unfold cutV
  rw [show HT.sIx xs.length 0 none = 0 from rfl, List.drop_zero, Nat.sub_zero, List.dropLast_eq_take]
  have : HT.sIx xs.length xs.length (some (-1)) = xs.length - 1 := by
    show (if (-1 : Int) < 0 then (-1 + (xs.length : Int)).toNat else min (-1 : Int).toNat xs.length) = _
    rw [if_pos (by decide)]; omega
  rw [this]
section
variable {K : PySem.W.Frag} {σ : L2.St} {H : Hp} {ta tb te : TE} {a : Addr} {xs ys : List V} {tl th : TO} {lo hi : Option Int}
theorem el_cat (ha : EvL ta σ H xs) (hb : EvL tb σ H ys) (hz : xs.length + ys.length ≤ 100000) : EvL (tOp rCat ta tb) σ H (xs ++ ys) := fun H1 e Q q =>
  ha H1 e _ fun p H2 hp e2 h2 => hb H2 (e.trans e2) _ fun r H3 hr e3 h3 => ⟨p, r, xs, ys, rfl, rfl, e3 _ _ h2, h3, sz_of hz, fun g hg => q g _ (fresh_back (e2.trans e3) hg) ((e2.trans e3).trans (Ex.new hg)) upd_same⟩
/-- the first, the second one a list that stands -/
theorem el_cat1 (ha : Ev ta σ H (.ref a)) (h : H a = some (.lst xs)) (hb : EvL tb σ H ys) (hz : xs.length + ys.length ≤ 100000) : EvL (tOp rCat ta tb) σ H (xs ++ ys) := fun H1 e Q q =>
  ha H1 e _ fun H2 e2 => hb H2 (e.trans e2) _ fun r H3 hr e3 h3 => ⟨a, r, xs, ys, rfl, rfl, ((e.trans e2).trans e3) _ _ h, h3, sz_of hz, fun g hg => q g _ (fresh_back (e2.trans e3) hg) ((e2.trans e3).trans (Ex.new hg)) upd_same⟩
theorem el_cat2 (ha : EvL ta σ H xs) (hb : Ev tb σ H (.ref a)) (h : H a = some (.lst ys)) (hz : xs.length + ys.length ≤ 100000) : EvL (tOp rCat ta tb) σ H (xs ++ ys) := fun H1 e Q q =>
  ha H1 e _ fun p H2 hp e2 h2 => hb H2 (e.trans e2) _ fun H3 e3 => ⟨p, a, xs, ys, rfl, rfl, e3 _ _ h2, ((e.trans e2).trans e3) _ _ h, sz_of hz, fun g hg => q g _ (fresh_back (e2.trans e3) hg) ((e2.trans e3).trans (Ex.new hg)) upd_same⟩
theorem eu_catA (ha : EvU ta σ H xs) (hb : EvU tb σ H ys) (nx : xs ≠ []) (ny : ys ≠ []) (hz : xs.length + ys.length ≤ 100000) : EvU (tOp (rCatA K) ta tb) σ H (xs ++ ys) := fun H1 e Q q =>
  ha H1 e _ fun p H2 hp e2 h2 => hb H2 (e.trans e2) _ fun r H3 hr e3 h3 => ⟨p, r, xs, ys, rfl, rfl, st_of (e3 _ _ h2), st_of h3, sz_of hz, fun z => absurd z nx, fun _ z => absurd z ny, fun _ _ g hg => q g _ (fresh_back (e2.trans e3) hg) ((e2.trans e3).trans (Ex.new hg)) upd_same⟩
theorem eu_slT (h : Ev te σ H (.ref a)) (h1 : EvO tl σ H lo) (h2 : EvO th σ H hi) (hs : SqT K H a xs) (nw : ¬ (HT.sIx xs.length 0 lo = 0 ∧ HT.sIx xs.length xs.length hi = xs.length)) : EvU (tSl (rSlT K) te tl th) σ H (cutV xs lo hi) := fun H1 e _ q =>
  h H1 e _ fun H2 e2 => h1 H2 (e.trans e2) _ fun H3 e3 => h2 H3 ((e.trans e2).trans e3) _ fun H4 e4 => ⟨a, xs, rfl, ex_t (((e.trans e2).trans e3).trans e4) hs, nw, fun p hp => q p _ (fresh_back ((e2.trans e3).trans e4) hp) (((e2.trans e3).trans e4).trans (Ex.new hp)) upd_same⟩
/-- tuple(xs) of a list -/
theorem eu_tupL (h : Ev te σ H (.ref a)) (hs : SqL K H a xs) : EvU (tThen te (kTup K)) σ H xs := fun H1 e _ q =>
  h H1 e _ fun H2 e2 => .inl ⟨a, xs, rfl, ex_l (e.trans e2) hs, fun p hp => q p _ (fresh_back e2 hp) (e2.trans (Ex.new hp)) upd_same⟩
theorem el_revL (h : Ev te σ H (.ref a)) (hs : SqL K H a xs) : EvL (tRevL K te) σ H xs.reverse := fun H1 e _ q =>
  h H1 e _ fun H2 e2 => ⟨a, xs, rfl, ex_l (e.trans e2) hs, fun p hp => q p _ (fresh_back e2 hp) (e2.trans (Ex.new hp)) upd_same⟩
/-- sorted(xs) of a new list of ints -/
theorem el_srtI {ns zs : List Int} (h : EvL te σ H (ns.map V.int)) (hz : ns.length < 64) (pm : zs.Perm ns) (srt : zs.Pairwise (· ≤ ·)) : EvL (tCB (rSorted K) (tCons te tNil)) σ H (zs.map V.int) := fun H1 e Q q =>
  h H1 e _ fun l H2 hl e2 h2 => ⟨l, ns, rfl, sq_of h2, hz, fun ys p pm2 s hp => by
    have : ys = zs := List.Perm.eq_of_pairwise (le := (· ≤ ·)) (fun a b _ _ h k => Int.le_antisymm h k) s srt (pm2.trans pm.symm)
    rw [this]
    exact q p _ (fresh_back e2 hp) (e2.trans (Ex.new hp)) upd_same⟩
theorem mem_sortI (ns : List Int) : ∃ zs : List Int, zs.Perm ns ∧ zs.Pairwise (· ≤ ·) :=
  ⟨ns.mergeSort (fun a b => decide (a ≤ b)), List.mergeSort_perm _ _, (List.pairwise_mergeSort (le := fun a b => decide (a ≤ b)) (fun a b c h1 h2 => by simp at *; omega) (fun a b => by simp; omega) ns).imp fun h => by simpa using h⟩
theorem inV_int {x : Int} {xs : List Int} : inV (.int x) (xs.map V.int) = decide (x ∈ xs) := by
  unfold inV
  induction xs with
  | nil => rfl
  | cons y ys ih =>
    rw [List.map_cons, List.any_cons, ih]
    by_cases e : x = y
    · subst e
      have : eqV (V.int x) (V.int x) = true := by simp [eqV]
      simp [this]
    · have : eqV (V.int y) (V.int x) = false := by
        simp [eqV]
        exact fun z => e z.symm
      simp [this, e]
theorem flat_ints (xs : List Int) : (xs.map V.int).all flatV = true := by
  rw [List.all_map, List.all_eq_true]
  exact fun x _ => rfl
end
end Mc
namespace Mc
open PySem L2 PySem.Spec PyProof.Rows Evl
theorem merge_T' {β : Type} {f : β → V} {l : List (PySem.Str × β)} (nd : (keysT l).Nodup) : mergeK [] (kvT f l) = kvT f l := by
  have go : ∀ (b a : List (PySem.Str × β)), (keysT (a ++ b)).Nodup → mergeK (kvT f a) (kvT f b) = kvT f (a ++ b) := by
    intro b
    induction b with
    | nil => intro a _; rw [List.append_nil]; rfl
    | cons x b ih =>
      intro a nd
      have nx : x.1 ∉ keysT a := fun z => by
        unfold keysT at nd z
        rw [List.map_append] at nd
        exact (List.nodup_append.mp nd).2.2 _ z x.1 (by simp) rfl
      show mergeK (putK (kvT f a) (Sum.inr x.1) (f x.2)) (kvT f b) = _
      have e := put_new (f := f) (v := x.2) nx
      rw [e, ih (a ++ [(x.1, x.2)]) (by simpa using nd), List.append_assoc]
      rfl
  exact go l [] nd
section
variable {β : Type} {K : PySem.W.Frag} {σ : L2.St} {H : Hp} {te tl tr ta tb : TE} {a b : Addr} {g : β → V} {l t : List (PySem.Str × β)} {o : Obj} {i j : Nat} {vs : List Nat}
/-- a list made over the pairs of a dict that is locked -/
theorem el_items {f : PySem.Str × β → V} (hl : Ev tl σ H (.ref a)) (h : H a = some (.frz o (.dK (kvT g l)))) (hz : l.length < 100000)
    (turn : ∀ (k : Nat) y, l[k]? = some y → ∀ H', Ex H H' → Ev te (((wipe σ vs).set i (some (.str y.1))).set j (some (g y.2))) H' (f y)) (hw : ∀ u v, wipe (((wipe σ vs).set i (some u)).set j (some v)) vs = wipe σ vs := by intro _ _; rfl) :
    EvL (tLc (iItems tl) (gTup K 2 (gCons (gName i) (gCons (gName j) gNil))) tYes te vs) σ H (l.map f) := fun H1 e Q q => hl H1 e _ fun H2 e2 => ⟨a, o, _, rfl, e2 _ _ (e _ _ h), fun D hD => by
  refine lc_it walk_items (fun n H' => Ex H2 H' ∧ H' D = some (.lst ((l.take n).map f))) ⟨Ex.new hD, upd_same⟩ (fun n H' _ p => p.1 _ _ (e2 _ _ (e _ _ h))) ?_ ?_
  · rintro n x H5 H6 hn ⟨s5, hD5⟩ ⟨T5, x1, x2, rfl, hT5, rfl, ex, ey⟩
    obtain ⟨z, hz', rfl, rfl⟩ : ∃ z, l[n]? = some z ∧ x1 = V.str z.1 ∧ x2 = g z.2 := by
      replace ex : ((kvT g l)[n]?.map fun kv => kV kv.1) = some x1 := ex
      replace ey : ((kvT g l)[n]?.map Prod.snd) = some x2 := ey
      unfold kvT at ex ey
      rw [List.getElem?_map] at ex ey
      cases e : l[n]? with
      | none => rw [e] at ex; cases ex
      | some z => rw [e] at ex ey; exact ⟨z, rfl, (Option.some.inj ex).symm, (Option.some.inj ey).symm⟩
    have s6 := Ex.new (o := .tup [.str z.1, g z.2]) hT5
    refine ⟨T5, [.str z.1, g z.2], rfl, SqT.of upd_same, rfl, _, _, rfl, _, _, rfl, rfl, hw _ _, yes_ite ?_⟩
    refine turn n z hz' _ (((e.trans e2).trans s5).trans s6) _ (Ex.refl _) _ fun H7 x7 => ?_
    have hD7 := x7 _ _ (s6 _ _ hD5)
    refine ⟨_, hD7, ?_, fun b o z => by rw [upd_ne (ne_of_none z hD)]; exact x7 _ _ (s6 _ _ (s5 _ _ z)), ?_⟩
    · rw [List.length_map, List.length_take]
      exact sz_lt (by omega)
    · rw [upd_same, List.take_add_one, hz', List.map_append]; rfl
  · rintro H5 ⟨s5, hD5⟩
    rw [show (kvT g l).length = l.length by unfold kvT; rw [List.length_map], List.take_length] at hD5
    exact q D H5 (fresh_back e2 hD) (e2.trans s5) hD5⟩
/-- dict(list(d.items()) + [(c, v)]) -/
theorem ed_ext {c : PySem.Str} {v : β} (nd : (keysT (t ++ [(c, v)])).Nodup) (hr : Ev tr σ H (.ref b)) (hb : H b = some (.dK (kvT g t))) (ha : Ev ta σ H (.str c)) (hv : Ev tb σ H (g v)) (hz : t.length < 90000) :
    EvD (tCB (rDictP K) (tCons (tOp rCat (LiI.tListItems tr) (tLst (tCons (tTup (tCons ta (tCons tb tNil))) tNil))) tNil)) σ H (kvT g (t ++ [(c, v)])) := fun H1 e1 Q q => hr H1 e1 _ fun H2 e2 => ⟨b, kvT g t, rfl, (e1.trans e2) _ _ hb, fun H6 p ts s6 hp0 hts hpt hp6 hPr => by
  have s6' : Ex H2 H6 := s6
  refine ha H6 ((e1.trans e2).trans s6') _ fun H7 e7 => hv H7 (((e1.trans e2).trans s6').trans e7) _ fun H8 e8 => ⟨sz_of (by show 2 ≤ 100000; decide), fun r hr' => ⟨sz_of (by show 1 ≤ 100000; decide), fun w hw => ?_⟩⟩
  have x9 := Ex.new (o := .tup [.str c, g v]) hr'
  have hr9 : upd H8 r (.tup [.str c, g v]) r = some (.tup [.str c, g v]) := upd_same
  generalize upd H8 r (.tup [.str c, g v]) = H9 at x9 hr9 hw ⊢
  have x10 := Ex.new (o := .lst [.ref r]) hw
  have hw10 : upd H9 w (.lst [.ref r]) w = some (.lst [.ref r]) := upd_same
  generalize upd H9 w (.lst [.ref r]) = H10 at x10 hw10 ⊢
  have x610 := (e7.trans e8).trans (x9.trans x10)
  have lts : ts.length = t.length := by have := Paired.length hPr; unfold kvT at this; rw [List.length_map] at this; exact this
  refine ⟨p, w, ts.map V.ref, [.ref r], rfl, rfl, x610 _ _ hp6, hw10, sz_of (by rw [List.length_map, lts]; show t.length + 1 ≤ 100000; omega), fun k hk => ?_⟩
  have x11 := Ex.new (o := .lst (ts.map V.ref ++ [.ref r])) hk
  have hk11 : upd H10 k (.lst (ts.map V.ref ++ [.ref r])) k = some (.lst ((ts ++ [r]).map V.ref)) := by rw [upd_same, List.map_append]; rfl
  generalize upd H10 k (.lst (ts.map V.ref ++ [.ref r])) = H11 at x11 hk11 ⊢
  refine ⟨k, ts ++ [r], kvT g (t ++ [(c, v)]), rfl, SqL.of hk11, ?_, fun z hz => ?_⟩
  · rw [kvT_app]
    exact prd_snoc (prd_imp (fun a b h => SqT.of (x11 _ _ (x610 _ _ h))) hPr) (SqT.of (x11 _ _ (x10 _ _ hr9)))
  · rw [merge_T' nd]
    have x611 := ((s6'.trans x610).trans x11)
    exact q z _ (fresh_back (e2.trans x611) hz) ((e2.trans x611).trans (Ex.new hz)) upd_same⟩
end
/-! a new list of new dicts -/
def NewDct {α : Type} (f : α → List (L2.Key × V)) : α → V → Hp → Prop := fun y v H => ∃ p, v = .ref p ∧ H p = some (.dK (f y))
theorem EvD.p {te : TE} {σ : L2.St} {H : Hp} {kvs : List (L2.Key × V)} (h : EvD te σ H kvs) : EvP te σ H fun v H' => ∃ p, v = .ref p ∧ H' p = some (.dK kvs) := fun H1 e Q q => h H1 e _ fun p H2 _ e2 h2 => q _ H2 e2 ⟨p, rfl, h2⟩
theorem el_dI {α : Type} {wi : TI} {σ : L2.St} {H : Hp} {ys : List α} {c : α → V} {j : Nat} {vs : List Nat} {t : TT} {te : TE} (p : α → Bool) (f : α → List (L2.Key × V)) (hi : EvI wi σ H (ys.map c)) (hz : ys.length ≤ 100000) (test : ∀ (i : Nat) y, ys[i]? = some y → ∀ H', Ex H H' → EvT t ((wipe σ vs).set j (some (c y))) H' (p y))
    (turn : ∀ (i : Nat) y, ys[i]? = some y → p y = true → ∀ H', Ex H H' → EvD te ((wipe σ vs).set j (some (c y))) H' (f y)) (hw : ∀ v, wipe ((wipe σ vs).set j (some v)) vs = wipe σ vs := by intro _; rfl) :
    ∀ H1, Ex H H1 → ∀ Q : VK, (∀ D us H2, H1 D = none → Ex H1 H2 → H2 D = some (.lst us) → Paired (fun y v => NewDct f y v H2) (ys.filter p) us → Q (.ref D) H2) → tLc wi (gName j) t te vs σ H1 Q :=
  el_RI p (NewDct f) (fun y v H H' ⟨q, e, h⟩ s => ⟨q, e, s _ _ h⟩) (fun y v H D u ⟨q, e, h⟩ hu _ u' => ⟨q, e, by rw [upd_ne fun z => by rw [z, hu] at h; cases h]; exact h⟩) hi hz test (fun i y hy hp H' e => EvD.p (turn i y hy hp H' e)) hw
/-- rows of dicts -/
def PDi {β : Type} (g : β → V) (H : Hp) (as : List Addr) (L : List (List (PySem.Str × β))) : Prop := as.length = L.length ∧ ∀ (i : Nat) b t, as[i]? = some b → L[i]? = some t → H b = some (.dK (kvT g t))
theorem PDi.keep {β : Type} {g : β → V} {H H' : Hp} {as : List Addr} {L : List (List (PySem.Str × β))} (h : PDi g H as L) (k : ∀ b kv, H b = some (.dK kv) → H' b = some (.dK kv)) : PDi g H' as L := ⟨h.1, fun i b t e1 e2 => k _ _ (h.2 i b t e1 e2)⟩
theorem PDi.app {β : Type} {g : β → V} {H : Hp} {as as' : List Addr} {L L' : List (List (PySem.Str × β))} (h : PDi g H as L) (h' : PDi g H as' L') : PDi g H (as ++ as') (L ++ L') := by
  refine ⟨by rw [List.length_append, List.length_append, h.1, h'.1], fun i b t e1 e2 => ?_⟩
  by_cases q : i < as.length
  · rw [List.getElem?_append_left q] at e1
    rw [List.getElem?_append_left (by rw [← h.1]; exact q)] at e2
    exact h.2 i b t e1 e2
  · rw [List.getElem?_append_right (by omega)] at e1
    rw [List.getElem?_append_right (by rw [← h.1]; omega)] at e2
    rw [← h.1] at e2
    exact h'.2 _ b t e1 e2
theorem pdi_of {α β : Type} {g : β → V} {H : Hp} {f : α → List (PySem.Str × β)} : ∀ {ys : List α} {us : List V}, Paired (fun y v => NewDct (fun y => kvT g (f y)) y v H) ys us → ∃ as : List Addr, us = as.map V.ref ∧ PDi g H as (ys.map f)
  | _, _, .nil => ⟨[], rfl, rfl, fun i b t e => by cases e⟩
  | _, _, .cons ⟨p, ep, hp⟩ t => by
    obtain ⟨as, e1, e2, e3⟩ := pdi_of t
    refine ⟨p :: as, by rw [ep, e1]; rfl, by rw [List.length_cons, e2]; rfl, fun i b t h1 h2 => ?_⟩
    cases i with
    | zero => cases Option.some.inj h1; cases Option.some.inj h2; exact hp
    | succ i => exact e3 i b t h1 h2
theorem PDi.filter {β : Type} {g : β → V} {H : Hp} {as : List Addr} {L : List (List (PySem.Str × β))} (h : PDi g H as L) (p : Addr × List (PySem.Str × β) → Bool) : PDi g H (((as.zip L).filter p).map Prod.fst) (((as.zip L).filter p).map Prod.snd) := by
  refine ⟨by rw [List.length_map, List.length_map], fun i b t e1 e2 => ?_⟩
  rw [List.getElem?_map] at e1 e2
  obtain ⟨x, hx, rfl⟩ := Option.map_eq_some_iff.mp e1
  rw [hx] at e2
  obtain rfl := Option.some.inj e2
  have hm := (List.mem_filter.mp (List.mem_of_getElem? hx)).1
  obtain ⟨j, hj⟩ := List.mem_iff_getElem?.mp hm
  obtain ⟨h1, h2⟩ := List.getElem?_zip_eq_some.mp hj
  exact h.2 j _ _ h1 h2
end Mc
/-! zip of a list and a locked dict: the list's items with the dict's keys -/
namespace Zld
open PySem PySem.Spec PyProof.Rows L2 RZ
section
variable {prog : Program} {w : World} {A : Around} {E : Value → Shared → Prop} {s : Shared}
theorem nextOf_key_end {it d : Addr} {i n ep : Nat} {od : Obj} {es : Array DictEntry} {Q : Value → Shared → Prop} (hh : A.handled = none) (hit : s.heap.IsKeyIter it d i n ep) (hod : s.heap.get? d = some od) (hdd : od.data = .dict es ep)
    (hsz : es.size = n) (hge : n ≤ i) (hE : ∀ h' e, Heap.ExtBut it s.heap h' → (∃ o, h'.get? e = some o ∧ o.cls = .type "StopIteration") → E (.ref e) { s with heap := h' }) :
    wpAny (model prog w) A (Builtin.SmallTypes.nextOf (.ref it)) Q E s := by
  obtain ⟨o, ho, hc, hd⟩ := id hit
  unfold Builtin.SmallTypes.nextOf
  refine wpAny_bind (wpAny_callSpecial?_slot (name := Str.ofString "__next__") hit.typeIs PySem.F.slot_dict_keyiterator_next
    (wpAny_call_entry PySem.F.slot_dict_keyiterator_next hit.typeIs PySem.F.entry_dict_keyiterator_next ?_ (PySem.F.args_dict_keyiterator_next_1 _)))
  refine wpAny_bind (wpAny_pure ?_)
  refine wpAny_bind ?_
  refine wpAny_bind ?_
  first | refine wpAny_bind (wpAny_typeNameOfWhole_keyiter hit.typeIs (wpAny_pure ?_)) | refine wpAny_bind (wpAny_typeNameOf_keyiter hit.typeIs (wpAny_pure ?_))
  refine wpAny_bind (wpAny_fieldsOf ho hd ?_)
  have hown : Builtin.Dict_items.ownsTuple "dict_keyiterator" = false := by decide
  simp only [hown, Bool.false_eq_true, if_false]
  show wpAny _ _ (if (Value.ref d == Value.none) = true then _ else _) _ _ s
  rw [if_neg (show ¬ ((Value.ref d == Value.none) = true) from Bool.false_ne_true)]
  refine wpAny_bind (wpAny_pure ?_)
  refine wpAny_bind (wpAny_dictEntries hod hdd ?_)
  rw [if_neg (by rw [hsz]; simp)]
  refine wpAny_bind (wpAny_pure ?_)
  refine wpAny_bind (wpAny_dictEpoch hod hdd ?_)
  rw [if_neg (by simp)]
  refine wpAny_pure ?_
  have hge' : es.size ≤ i := by rw [hsz]; exact hge
  simp only [show ¬ ((i : Int) < 0) from by omega, if_false, Int.toNat_natCast, Array.getElem?_eq_none hge']
  refine wpAny_bind ?_
  first | refine wpAny_bind (wpAny_typeNameOfWhole_keyiter hit.typeIs (wpAny_pure ?_)) | refine wpAny_bind (wpAny_typeNameOf_keyiter hit.typeIs (wpAny_pure ?_))
  show wpAny _ _ (setField (.ref it) 0 .none >>= _) _ _ s
  refine wpAny_bind (wpAny_setField ho hd (by simp) ?_)
  show wpAny _ _ (newExc (.type "StopIteration") [] >>= _) _ _ _
  refine wpAny_bind ?_
  simp only [newExc, newTuple]
  refine wpAny_bind (wpAny_newObj_type ?_ (by size_fits))
  refine wpAny_bind (m := firstArgMember _ _) (wpAny_of_eq (a := Value.none) (by first | rfl | (simp only [firstArgMember]; rfl)) ?_)
  refine wpAny_newObj_type ?_ (by size_fits)
  simp only [raiseNew]
  refine wpAny_bind (wpAny_handled ?_)
  first | rw [show A.in1.handled = none from hh] | rw [hh]
  refine wpAny_bind (wpAny_pure (wpAny_throw ?_))
  exact hE _ _ (((Heap.SameBut.update ..).extBut.push _).push _) ⟨_, Heap.get?_push_size _ rfl, rfl⟩
end
section
variable {prog : Program} {w : World} {A : Around} {K : Type} [DecidableEq K] {knd : KeyKind prog w K}
theorem draws_keys (hh : A.handled = none) (it d : Addr) (hne : d ≠ it) (kvs : List (K × Value)) (ep : Nat) :
    Draws prog w A it [it, d] kvs.length (fun i v => ∃ k x, kvs[i]? = some (k, x) ∧ knd.is k v = true) (fun i h => h.IsKeyIter it d i kvs.length ep ∧ h.DictAt knd d kvs ep) where
  live := fun _ _ st => let ⟨o, ho, _⟩ := st.1; ⟨o, ho⟩
  frame := fun _ h h' st hk => ⟨st.1.at fun o e => hk it (by simp) o e, let ⟨o, es, ho, r⟩ := st.2; ⟨o, es, hk d (by simp) o ho, r⟩⟩
  item := fun i s Q E hi st hQ => by
    unfold Builtin.SmallTypes.nextOf
    refine wpAny_bind (PySem.W.kdk_special st.1 st.2 (k := (kvs[i]).1) (x := (kvs[i]).2) (List.getElem?_eq_getElem hi) fun key h' hkey hit' hs' => ?_)
    refine wpAny_pure (hQ key h' s.toks ⟨_, _, List.getElem?_eq_getElem hi, hkey⟩ ⟨hit', ?_⟩ hs')
    obtain ⟨o, es, ho, r⟩ := st.2
    exact ⟨o, es, hs'.extBut _ _ hne ho, r⟩
  done := fun s Q E st hE => by
    obtain ⟨o, es, ho, hx, hd, hk, hp, hn⟩ := st.2
    exact nextOf_key_end hh st.1 ho hd (by rw [← hp.length]; simp) (Nat.le_refl _) hE
theorem begins_dict (d : Addr) (o : Obj) (es : Array DictEntry) (ep : Nat) (lo : (d == sysModules) = false) (hc : o.ExactDict) (hd : o.data = .dict es ep) :
    Begins (.ref d) { cls := .type "dict_keyiterator", data := .fields #[.ref d, .int 0 0, .int es.size 0, .int ep 0] } fun h => h.get? d = some o where
  iter := fun prog w A E s Q hm h => iter_keys lo hm hc hd h
  keeps := fun h h' x hk => hk d o x
  free := rfl
end
theorem sep2 (I a d : Nat) (h1 : a < I) (h2 : d < I) : ZipSep2 (I + 4) (I + 2) (I + 3) I (I + 1) [I, a] [I + 1, d] := by
  have e : ∀ {x y : Nat}, (x < y ∨ y < x) → x ≠ y := fun h => by omega
  have h3 : ∀ n, a ≠ I + n := fun n => e (.inl (Nat.lt_add_right n h1))
  have h4 : ∀ n, d ≠ I + n := fun n => e (.inl (Nat.lt_add_right n h2))
  have h5 : ∀ n, I + (n + 1) ≠ I := fun n => e (.inr (by omega))
  have h6 : ∀ n m : Nat, n ≠ m → I + n ≠ I + m := fun n m h => by omega
  exact { TIz := h6 2 4 (by decide), TOz := h6 3 4 (by decide), TITO := h6 2 3 (by decide), TIi1 := h5 1, mem1 := by simp, zf1 := fun h => by
            rcases List.mem_cons.mp h with q | q
            · exact h5 3 q
            · exact h3 4 (List.mem_singleton.mp q).symm,
          Tf1 := fun h => by
            rcases List.mem_cons.mp h with q | q
            · exact h5 2 q
            · exact h3 3 (List.mem_singleton.mp q).symm,
          TIi2 := h6 2 1 (by decide), mem2 := by simp, zf2 := fun h => by
            rcases List.mem_cons.mp h with q | q
            · exact h6 4 1 (by decide) q
            · exact h4 4 (List.mem_singleton.mp q).symm,
          Tf2 := fun h => by
            rcases List.mem_cons.mp h with q | q
            · exact h6 3 1 (by decide) q
            · exact h4 3 (List.mem_singleton.mp q).symm,
          sep1_2 := fun h => by
            rcases List.mem_cons.mp h with q | q
            · exact h5 0 q.symm
            · exact h4 0 (List.mem_singleton.mp q).symm,
          sep2_1 := fun h => by
            rcases List.mem_cons.mp h with q | q
            · exact h5 0 q
            · exact h3 1 (List.mem_singleton.mp q).symm }
/-- the list at a and the locked dict at d, item with key in new pairs -/
def ItzD (K : PySem.W.Frag) (a d : Addr) (o : Obj) (kvs : List (L2.Key × V)) : It :=
  ⟨fun i H => ∃ xs : List V, SqL K H a xs ∧ H d = some (.frz o (.dK kvs)) ∧ i < xs.length ∧ i < kvs.length,
    fun i H v H' => ∃ T x k w, v = .ref T ∧ H T = none ∧ H' = upd H T (.tup [x, kV k]) ∧ (∀ xs, SqL K H a xs → xs[i]? = some x) ∧ kvs[i]? = some (k, w),
    fun i H => ∃ xs : List V, SqL K H a xs ∧ H d = some (.frz o (.dK kvs)) ∧ i ≤ xs.length ∧ i ≤ kvs.length ∧ (i = xs.length ∨ i = kvs.length)⟩
theorem turn_zipD {P : Program} {w : World} {K : PySem.W.Frag} {elts : List Expr} {kk : Nat} {tpos : Pos} {a d : Addr} {I0 : Nat} {o : Obj} {es : Array DictEntry} {ep : Nat} {kvs : List (L2.Key × V)} (la : a < I0) (ld : d < I0) (hod : o.data = .dict es ep) :
    Turn P w K (.Tuple elts kk tpos) (ItzD K a d o kvs) [I0 + 4, I0 + 2, I0 + 3, I0, I0 + 1] (I0 + 4) (fun i h => IsZip h (I0 + 4) (I0 + 2) (I0 + 3) .none ∧ IsTupOf2 h (I0 + 2) (.ref I0) (.ref (I0 + 1)) ∧ (∃ x y, IsTupOf2 h (I0 + 3) x y) ∧ h.IsListIter I0 a i ∧ h.IsKeyIter (I0 + 1) d i kvs.length ep) where
  mem := by simp
  obj := fun i h st c hc => by
    obtain ⟨hz, hTI, ⟨x, y, hTO⟩, ⟨o1, e1, _, d1⟩, ⟨o2, e2, _, d2⟩⟩ := st
    have e' : c = I0 + 4 ∨ c = I0 + 2 ∨ c = I0 + 3 ∨ c = I0 ∨ c = I0 + 1 := by simpa using hc
    rcases e' with q | q | q | q | q
    · rw [q]; exact ⟨_, hz, fun v q => nomatch q⟩
    · rw [q]; exact ⟨_, hTI, fun v q => nomatch q⟩
    · rw [q]; exact ⟨_, hTO, fun v q => nomatch q⟩
    · rw [q]; exact ⟨o1, e1, fun v q => by rw [d1] at q; cases q⟩
    · rw [q]; exact ⟨o2, e2, fun v q => by rw [d2] at q; cases q⟩
  keep := fun i h h' st k => by
    obtain ⟨hz, hTI, ⟨x, y, hTO⟩, h1, h2⟩ := st
    exact ⟨k _ (by simp) _ hz, k _ (by simp) _ hTI, ⟨x, y, k _ (by simp) _ hTO⟩, h1.at fun o q => k _ (by simp) o q, h2.at fun o q => k _ (by simp) o q⟩
  item := by
    intro X hP hw hK hc i pins s σ H E I hf st hg
    subst hP hw hK
    obtain ⟨hz, hTI, ⟨x0, y0, hTO⟩, h1, h2⟩ := st
    obtain ⟨xs, hqx, hd, li, lk⟩ := hg
    obtain ⟨its, rv, p, _⟩ := I.list hqx
    obtain ⟨hs, hgd, hx, es', ep', vs, hdt, hsz, kv, hm⟩ := I.frzK hd
    obtain ⟨rfl, rfl⟩ := dict_ep hod hdt
    have S := sep2 I0 a d la ld
    have hl : kvs.length = vs.length := Paired.length kv
    rw [hl] at h2
    have hzl : I0 + 4 < s.heap.objs.size := Heap.lt_size hz
    have hin : X.A.in1.handled = none := I.ok.hd hc
    have ne1 : a ≠ I0 := Nat.ne_of_lt la
    have ne2 : d ≠ I0 + 1 := Nat.ne_of_lt (Nat.lt_succ_of_lt ld)
    refine wpAny_pyNext_zipD2_item S (Draws.list hin I0 a ne1 its.toArray) (draws_keys hin (I0 + 1) d ne2 vs _) hz hTI hTO ⟨h1, p.isList⟩ ⟨h2, hm⟩ (by rw [List.size_toArray, ← rv.length]; exact li) (hl ▸ lk) fun u1 u2 h' tk y1 y2 z' TO' s1 s2 hT hsz' hk => ?_
    refine ⟨_, rfl, wpAny_letOwnedTupleGo_zip (s := { s with heap := h', toks := tk }) z' fun h'' z'' sb => ?_⟩
    obtain ⟨k, w, ek, rk⟩ := y2
    obtain ⟨⟨k0, w0⟩, hkv⟩ : ∃ p, kvs[i]? = some p := ⟨kvs[i], List.getElem?_eq_getElem lk⟩
    obtain ⟨u, hu, ru⟩ := kv_get kv hkv
    rw [ek] at hu
    obtain ⟨rfl, rfl⟩ := Prod.mk.inj (Option.some.inj hu)
    have hxi : xs[i]? = some xs[i] := List.getElem?_eq_getElem li
    obtain ⟨u3, hu3, ru3⟩ := rv.get hxi
    have e3 : u3 = u1 := by
      have : its.toArray[i]? = some u3 := by simpa using hu3
      rw [show its.toArray[i]? = some u1 from y1] at this
      exact (Option.some.inj this).symm
    subst e3
    have hT2 : h''.get? s.heap.objs.size = some { cls := .type "tuple", data := .seq #[u3, u2] } := (sb.2 _ (Nat.ne_of_gt hzl)).trans hT
    have new : ObjOk X.prog X.w (upd H s.heap.objs.size (.tup [xs[i], kV k])) h'' s.heap.objs.size (.tup [xs[i], kV k]) :=
      ⟨by show 2 ≤ sizeLine; decide, [u3, u2], .cons ru3 (.cons (relV_key (show keyIs k u2 = true from rk)) .nil), ⟨_, hT2, rfl, _, rfl⟩⟩
    have I1 : Inv X pins σ (upd H s.heap.objs.size (.tup [xs[i], kV k])) { s with heap := h'', toks := tk } :=
      I.turnedNew (t' := tk) (ch := [I0 + 4, I0 + 2, I0 + 3, I0, I0 + 1]) (fun c o hb q => (sb.2 c (fun q' => hb (by simp [q']))).trans (hk c o (fun q' => hb (by simp [q'])) (fun q' => hb (by simp [q'])) (fun q' => hb (by simp [q'])) (fun q' => hb (by simp [q'])) q)) hf (Nat.le_refl _) new
    have lt : ∀ {c : Addr} {o : Obj}, s.heap.get? c = some o → c < s.heap.objs.size := fun e => Heap.lt_size e
    refine ⟨.ref s.heap.objs.size, _, I1, rfl, ⟨_, xs[i], k, w0, rfl, I.hok.fresh (Nat.le_refl _), rfl, fun l hl => by rw [I.list_inj hl hqx]; exact hxi, hkv⟩, ⟨z'', ?_, ⟨u3, u2, ?_⟩, ?_, ?_⟩, fun c hcm => ?_⟩
    · exact (sb.2 _ S.TIz).trans (hk _ _ S.TIz S.TITO S.TIi1 S.TIi2 hTI)
    · exact (sb.2 _ S.TOz).trans TO'
    · exact s1.1.at fun o q => (sb.2 _ S.zi1.symm).trans q
    · rw [hl]; exact s2.1.at fun o q => (sb.2 _ S.zi2.symm).trans q
    · have hlt : c < s.heap.objs.size := by
        have e' : c = I0 + 4 ∨ c = I0 + 2 ∨ c = I0 + 3 ∨ c = I0 ∨ c = I0 + 1 := by simpa using hcm
        rcases e' with q | q | q | q | q
        · rw [q]; exact hzl
        · rw [q]; exact Heap.lt_size hTI
        · rw [q]; exact Heap.lt_size hTO
        · rw [q]; obtain ⟨_, e1, _⟩ := h1; exact Heap.lt_size e1
        · rw [q]; obtain ⟨_, e2, _⟩ := h2; exact Heap.lt_size e2
      rw [upd_ne (Nat.ne_of_lt hlt)]
      exact (hf c hcm).1
  done := by
    intro X hP hw hK hc i pins s σ H E I hf st hg
    subst hP hw hK
    obtain ⟨hz, hTI, ⟨x0, y0, hTO⟩, h1, h2⟩ := st
    obtain ⟨xs, hqx, hd, li, lk, hend⟩ := hg
    obtain ⟨its, rv, p, _⟩ := I.list hqx
    obtain ⟨hs, hgd, hx, es', ep', vs, hdt, hsz, kv, hm⟩ := I.frzK hd
    obtain ⟨rfl, rfl⟩ := dict_ep hod hdt
    have S := sep2 I0 a d la ld
    have hl : kvs.length = vs.length := Paired.length kv
    rw [hl] at h2
    have hin : X.A.in1.handled = none := I.ok.hd hc
    have ne1 : a ≠ I0 := Nat.ne_of_lt la
    have ne2 : d ≠ I0 + 1 := Nat.ne_of_lt (Nat.lt_succ_of_lt ld)
    have sz : its.toArray.size = xs.length := by rw [List.size_toArray, ← rv.length]
    refine wpAny_pyNext_zipD2_end S (Draws.list hin I0 a ne1 its.toArray) (draws_keys hin (I0 + 1) d ne2 vs _) hz hTI hTO ⟨h1, p.isList⟩ ⟨h2, hm⟩ (by rw [sz]; exact li) (hl ▸ lk) (by rw [sz, ← hl]; exact hend) fun h' tk hk => ⟨rfl, I.turnedL (t' := tk) (ch := [I0 + 4, I0 + 2, I0 + 3, I0, I0 + 1]) (fun c o hb q =>
      hk c o (fun q' => hb (by simp [q'])) (fun q' => hb (by simp [q'])) (fun q' => hb (by simp [q'])) (fun q' => hb (by simp [q'])) q) hf⟩
  self := fun A i s Q E st h => wpAny_pyIter_zip st.1 h

def iZipD (K : PySem.W.Frag) (ta : TA) : TI := fun σ H R => ta σ H fun vs H1 => ∃ a d o xs kvs, vs = [.ref a, .ref d] ∧ SqL K H1 a xs ∧ H1 d = some (.frz o (.dK kvs)) ∧ R (ItzD K a d o kvs) H1
theorem pi_zipD {X : Cx} {e e2 : Expr} {ta : TA} {p pos tpos : Pos} {elts : List Expr} {kk : Nat} (hg : Gl X "zip") (hm : X.mg "zip" = none) (ha : PA X [e, e2] ta)
    (hs : starEach [e, e2] X.env = (false, eval e X.env) :: starEach [e2] X.env := by rfl) (hpl : (backTo pos (starEach [e2] X.env)).any (·.1) = false := by rfl) :
    PI X (.Tuple elts kk tpos) (.Call (.Name "zip" p) [e, e2] [] pos) (iZipD X.K ta) := by
  refine ⟨fun pins s σ H R I h => ?_⟩
  refine Call_ (ld_blt I hg hm PyProof.Rows.boot_zip (PyProof.Rows.callWith_type1 (thn (ha.run pos pins s σ H _ I h) fun us s1 ⟨vs, H1, I1, r1, q1⟩ => ?_) hs hpl))
  obtain ⟨a, d, o, xs, kvs, ex, hqx, hd, q⟩ := q1
  subst ex
  cases r1 with
  | cons r rr =>
    cases rr with
    | cons r' rr =>
      cases rr
      cases r
      cases r'
      have fresh5 : ∀ c, c ∈ [s1.heap.objs.size + 4, s1.heap.objs.size + 2, s1.heap.objs.size + 3, s1.heap.objs.size, s1.heap.objs.size + 1] → FpOk X pins H1 c := fun c hcm => by
        have e' : c = s1.heap.objs.size + 4 ∨ c = s1.heap.objs.size + 2 ∨ c = s1.heap.objs.size + 3 ∨ c = s1.heap.objs.size ∨ c = s1.heap.objs.size + 1 := by simpa using hcm
        have hle : s1.heap.objs.size ≤ c := by
          rcases e' with z | z | z | z | z
          · rw [z]; exact Nat.le_add_right _ _
          · rw [z]; exact Nat.le_add_right _ _
          · rw [z]; exact Nat.le_add_right _ _
          · rw [z]; exact Nat.le_refl _
          · rw [z]; exact Nat.le_add_right _ _
        exact I1.fpOk hle (I1.hok.fresh hle)
      obtain ⟨its, rv, p1, _⟩ := I1.list hqx
      obtain ⟨hs', hgd, hx, es, ep, vs, hdt, hsz, kv, hm'⟩ := I1.frzK hd
      refine zip_begins2 (begins_list a its.toArray) (begins_dict d o es ep hs' hx hdt) p1.isList hgd fun h' hz hTI hTO h1 h2 hsz' hk => wpAny_pyIter_zip hz ?_
      have I2 : Inv X pins σ H1 { s1 with heap := h' } := I1.kept (t' := s1.toks) hk
      exact ⟨s1.heap.objs.size + 4, [s1.heap.objs.size + 4, s1.heap.objs.size + 2, s1.heap.objs.size + 3, s1.heap.objs.size, s1.heap.objs.size + 1], _, _, H1, rfl, I2, turn_zipD p1.lt (Heap.lt_size hgd) hdt, ⟨hz, hTI, ⟨_, _, hTO⟩, ⟨_, h1, rfl, rfl⟩, ⟨_, h2, rfl, by rw [hsz] <;> rfl⟩⟩, fresh5, q⟩
end Zld
namespace Mc
open PySem L2 PySem.Spec PyProof.Rows Evl Zld
section
variable {K : PySem.W.Frag} {σ : L2.St} {H : Hp} {te : TE} {ta : TA} {a b : Addr} {β : Type} {g : β → V} {ps : List (V × (PySem.Str × β))} {o : Obj} {i j : Nat} {vs : List Nat}
/-- a list made over zip of a list and a dict that is locked -/
theorem el_zD {f : V × (PySem.Str × β) → V} (ha : EvA ta σ H [.ref a, .ref b]) (hq : SqL K H a (ps.map (·.1))) (h : H b = some (.frz o (.dK (kvT g (ps.map (·.2)))))) (hz : ps.length < 100000)
    (turn : ∀ (k : Nat) y, ps[k]? = some y → ∀ H', Ex H H' → Ev te (((wipe σ vs).set i (some y.1)).set j (some (.str y.2.1))) H' (f y)) (hw : ∀ u v, wipe (((wipe σ vs).set i (some u)).set j (some v)) vs = wipe σ vs := by intro _ _; rfl) :
    EvL (tLc (iZipD K ta) (gTup K 2 (gCons (gName i) (gCons (gName j) gNil))) tYes te vs) σ H (ps.map f) := fun H1 e Q q => ha H1 e _ fun H2 e2 => ⟨a, b, o, _, _, rfl, ex_l (e.trans e2) hq, e2 _ _ (e _ _ h), fun D hD => by
  have lk : (kvT g (ps.map (·.2))).length = ps.length := by unfold kvT; rw [List.length_map, List.length_map]
  have w : Walk (ItzD K a b o (kvT g (ps.map (·.2)))) ps.length (fun H => SqL K H a (ps.map (·.1)) ∧ H b = some (.frz o (.dK (kvT g (ps.map (·.2)))))) (YPair (fun i => (ps.map (·.1))[i]?) (fun i => (kvT g (ps.map (·.2)))[i]?.map fun kv => kV kv.1)) := by
    refine ⟨fun i _ hi q => ⟨_, q.1, q.2, by rw [List.length_map]; exact hi, by rw [lk]; exact hi⟩, fun _ q => ⟨_, q.1, q.2, by rw [List.length_map]; exact Nat.le_refl _, by rw [lk]; exact Nat.le_refl _, .inr lk.symm⟩, fun i H v H' _ q y => ?_⟩
    obtain ⟨T, x, k, w, h1, h2, h3, h4, h5⟩ := y
    exact ⟨T, x, kV k, h1, h2, h3, h4 _ q.1, by show Option.map _ _ = _; rw [h5]; rfl⟩
  refine lc_it w (fun n H' => Ex H2 H' ∧ H' D = some (.lst ((ps.take n).map f))) ⟨Ex.new hD, upd_same⟩ (fun n H' _ p => ⟨ex_l p.1 (ex_l (e.trans e2) hq), p.1 _ _ (e2 _ _ (e _ _ h))⟩) ?_ ?_
  · rintro n x H5 H6 hn ⟨s5, hD5⟩ ⟨T5, x1, x2, rfl, hT5, rfl, ex, ey⟩
    obtain ⟨z, hz', rfl, rfl⟩ : ∃ z, ps[n]? = some z ∧ x1 = z.1 ∧ x2 = .str z.2.1 := by
      replace ex : (ps.map (·.1))[n]? = some x1 := ex
      replace ey : ((kvT g (ps.map (·.2)))[n]?.map fun kv => kV kv.1) = some x2 := ey
      unfold kvT at ey
      rw [List.getElem?_map] at ex ey
      rw [List.getElem?_map] at ey
      cases e : ps[n]? with
      | none => rw [e] at ex; cases ex
      | some z => rw [e] at ex ey; exact ⟨z, rfl, (Option.some.inj ex).symm, (Option.some.inj ey).symm⟩
    have s6 := Ex.new (o := .tup [z.1, .str z.2.1]) hT5
    refine ⟨T5, [z.1, .str z.2.1], rfl, SqT.of upd_same, rfl, _, _, rfl, _, _, rfl, rfl, hw _ _, yes_ite ?_⟩
    refine turn n z hz' _ (((e.trans e2).trans s5).trans s6) _ (Ex.refl _) _ fun H7 x7 => ?_
    have hD7 := x7 _ _ (s6 _ _ hD5)
    refine ⟨_, hD7, ?_, fun b o z => by rw [upd_ne (ne_of_none z hD)]; exact x7 _ _ (s6 _ _ (s5 _ _ z)), ?_⟩
    · rw [List.length_map, List.length_take]
      exact sz_lt (by omega)
    · rw [upd_same, List.take_add_one, hz', List.map_append]; rfl
  · rintro H5 ⟨s5, hD5⟩
    rw [List.take_length] at hD5
    exact q D H5 (fresh_back e2 hD) (e2.trans s5) hD5⟩
end
end Mc
namespace Mc
open PySem L2 PySem.Spec PyProof.Rows Evl
/-! rows of wrong scenes -/
theorem nd1 {α : Type} (x : α) : [x].Nodup := List.pairwise_singleton _ _
structure Rw where
  ch : Addr
  cl : Addr
  chv : List (PySem.Str × V)
  cls : Cls'
  wd : V
def GoodRw (r : Rw) : Prop := (∃ wd, r.wd = .str wd ∧ OkX r.chv r.cls ∧ SceneBad r.chv r.cls wd) ∨ (r.wd = .non ∧ ∃ chs : Chs, kvT vV r.chv = kvT vI chs ∧ OkC chs r.cls)
structure RowAt (K : PySem.W.Frag) (CC : Addr) (H : Hp) (b : Addr) (r : Rw) : Prop where
  tup : H b = some (.tup [.ref r.ch, .ref r.cl, r.wd])
  ne : r.ch ≠ r.cl
  hch : H r.ch = some (.dK (kvT vV r.chv))
  hcl : H r.cl = some (.dK (kvT vO r.cls))
  cal : CallsH K CC H r.cls
  good : GoodRw r
def Apart (r r' : Rw) : Prop := r.ch ≠ r'.ch ∧ r.ch ≠ r'.cl ∧ r.cl ≠ r'.ch ∧ r.cl ≠ r'.cl
structure RowsAt (K : PySem.W.Frag) (CC : Addr) (H : Hp) (bs : List Addr) (rs : List Rw) : Prop where
  len : bs.length = rs.length
  row : ∀ (i : Nat) (b : Addr) (r : Rw), bs[i]? = some b → rs[i]? = some r → RowAt K CC H b r
  ap : ∀ (i j : Nat) (r r' : Rw), i < j → rs[i]? = some r → rs[j]? = some r' → Apart r r'
section
variable {K : PySem.W.Frag} {CC CS : Addr} {σ : L2.St} {H H' : Hp}
theorem RowAt.ex {b : Addr} {r : Rw} (R : RowAt K CC H b r) (e : Ex H H') : RowAt K CC H' b r := ⟨e _ _ R.tup, R.ne, e _ _ R.hch, e _ _ R.hcl, R.cal.same e, R.good⟩
theorem RowsAt.ex {bs : List Addr} {rs : List Rw} (R : RowsAt K CC H bs rs) (e : Ex H H') : RowsAt K CC H' bs rs := ⟨R.len, fun i b r h1 h2 => (R.row i b r h1 h2).ex e, R.ap⟩
/-- new rows, their dicts are new -/
def EvRow (K : PySem.W.Frag) (CC : Addr) (te : TE) (σ : L2.St) (H : Hp) : Prop := ∀ H1, Ex H H1 → ∀ Q : VK, (∀ b r H2, Ex H1 H2 → RowAt K CC H2 b r → H1 r.ch = none → H1 r.cl = none → Q (.ref b) H2) → te σ H1 Q
def EvRws (K : PySem.W.Frag) (CC : Addr) (n : Nat) (ta : TA) (σ : L2.St) (H : Hp) : Prop := ∀ H1, Ex H H1 → ∀ Q : List V → Hp → Prop, (∀ bs rs H2, Ex H1 H2 → bs.length = n → RowsAt K CC H2 bs rs → (∀ r ∈ rs, H1 r.ch = none ∧ H1 r.cl = none) → Q (bs.map V.ref) H2) → ta σ H1 Q
theorem er_nil : EvRws K CC 0 tNil σ H := fun H1 e Q q => q [] [] H1 (Ex.refl _) rfl ⟨rfl, fun i b r h => (nomatch h), fun i j r r' _ h => (nomatch h)⟩ (fun r h => (nomatch h))
theorem er_cons {n : Nat} {te : TE} {ta : TA} (hr : EvRow K CC te σ H) (hs : EvRws K CC n ta σ H) : EvRws K CC (n + 1) (tCons te ta) σ H := fun H1 e Q q =>
  hr H1 e _ fun b r H2 e2 R f1 f2 => hs H2 (e.trans e2) _ fun bs rs H3 e3 hn RS fr => q (b :: bs) (r :: rs) H3 (e2.trans e3) (by rw [List.length_cons, hn])
    ⟨by rw [List.length_cons, List.length_cons, RS.len], fun i b' r' h1 h2 => by
      cases i with
      | zero => cases Option.some.inj h1; cases Option.some.inj h2; exact R.ex e3
      | succ i => exact RS.row i b' r' h1 h2, fun i j r1 r2 hij h1 h2 => by
      cases j with
      | zero => omega
      | succ j =>
        cases i with
        | succ i => exact RS.ap i j r1 r2 (by omega) h1 h2
        | zero =>
          cases Option.some.inj h1
          obtain ⟨g1, g2⟩ := fr r2 (List.mem_of_getElem? h2)
          exact ⟨(fun z => by rw [← z, R.hch] at g1; cases g1), (fun z => by rw [← z, R.hch] at g2; cases g2), (fun z => by rw [← z, R.hcl] at g1; cases g1), (fun z => by rw [← z, R.hcl] at g2; cases g2)⟩⟩
    fun r' hr' => by
      rcases List.mem_cons.mp hr' with z | z
      · rw [z]; exact ⟨f1, f2⟩
      · exact ⟨fresh_back e2 (fr r' z).1, fresh_back e2 (fr r' z).2⟩
/-- wrong = [..] -/
theorem q_rows {n i : Nat} {ta : TA} {tz : TS} {D : Ends} (h : EvRws K CC n ta σ H) (hn : n ≤ 1000) (k : ∀ p bs rs H1, Ex H H1 → H1 p = some (.lst (bs.map V.ref)) → bs.length = n → RowsAt K CC H1 bs rs → tz D (σ.set i (some (.ref p))) H1) : tSeq (tAsg (tLst ta) (gName i)) tz D σ H :=
  h H (Ex.refl H) _ fun bs rs H2 e2 hl RS fr => ⟨by rw [List.length_map, hl]; exact sz_of (by omega), fun p hp => k p bs rs _ (e2.trans (Ex.new hp)) upd_same hl (RS.ex (Ex.new hp))⟩
/-- wrong = wrong + [..] -/
theorem q_rowsC {n m i : Nat} {ta : TA} {tz : TS} {D : Ends} {p0 : Addr} {bs0 : List Addr} {rs0 : List Rw} (hi : σ[i]? = some (some (.ref p0))) (h0 : H p0 = some (.lst (bs0.map V.ref))) (l0 : bs0.length = m) (R0 : RowsAt K CC H bs0 rs0) (h : EvRws K CC n ta σ H) (hn : n ≤ 1000) (hm : m ≤ 1000)
    (k : ∀ p bs rs H1, Ex H H1 → H1 p = some (.lst (bs.map V.ref)) → bs.length = m + n → RowsAt K CC H1 bs rs → tz D (σ.set i (some (.ref p))) H1) : tSeq (tAsg (tOp rCat (tVar i) (tLst ta)) (gName i)) tz D σ H :=
  ⟨_, hi, h H (Ex.refl H) _ fun bs rs H2 e2 hl RS fr => ⟨by rw [List.length_map, hl]; exact sz_of (by omega), fun b hb => by
    have e3 := Ex.new (o := .lst (bs.map V.ref)) hb
    refine ⟨p0, b, _, _, rfl, rfl, e3 _ _ (e2 _ _ h0), upd_same, by rw [List.length_map, List.length_map, l0, hl]; exact sz_of (by omega), fun p hp => ?_⟩
    have e4 := Ex.new (o := .lst (bs0.map V.ref ++ bs.map V.ref)) hp
    refine k p (bs0 ++ bs) (rs0 ++ rs) _ (e2.trans (e3.trans e4)) (by rw [upd_same, List.map_append]) (by rw [List.length_append, l0, hl]) ⟨by rw [List.length_append, List.length_append, R0.len, RS.len], fun i b' r' h1 h2 => ?_, fun i j r1 r2 hij h1 h2 => ?_⟩
    · by_cases hlt : i < bs0.length
      · rw [List.getElem?_append_left hlt] at h1
        rw [List.getElem?_append_left (by rw [← R0.len]; exact hlt)] at h2
        exact (R0.row i b' r' h1 h2).ex (e2.trans (e3.trans e4))
      · rw [List.getElem?_append_right (by omega)] at h1
        rw [List.getElem?_append_right (by rw [← R0.len]; omega), ← R0.len] at h2
        exact (RS.row _ b' r' h1 h2).ex (e3.trans e4)
    · by_cases hj : j < rs0.length
      · rw [List.getElem?_append_left hj] at h2
        rw [List.getElem?_append_left (by omega)] at h1
        exact R0.ap i j r1 r2 hij h1 h2
      · rw [List.getElem?_append_right (by omega)] at h2
        by_cases hi : i < rs0.length
        · rw [List.getElem?_append_left hi] at h1
          obtain ⟨b1, hb1⟩ : ∃ b1, bs0[i]? = some b1 := ⟨bs0[i]'(by rw [R0.len]; exact hi), List.getElem?_eq_getElem _⟩
          have Q1 := R0.row i b1 r1 hb1 h1
          obtain ⟨g1, g2⟩ := fr r2 (List.mem_of_getElem? h2)
          exact ⟨(fun z => by rw [← z, Q1.hch] at g1; cases g1), (fun z => by rw [← z, Q1.hch] at g2; cases g2), (fun z => by rw [← z, Q1.hcl] at g1; cases g1), (fun z => by rw [← z, Q1.hcl] at g2; cases g2)⟩
        · rw [List.getElem?_append_right (by omega)] at h1
          exact RS.ap _ _ r1 r2 (by omega) h1 h2⟩⟩
/-- {k: v}, v plain -/
theorem ed_disp1 {tv : TE} {k : PySem.Str} {v : V} (hv : Ev tv σ H v) : EvD (tDisp [(tC (.str k), tv)]) σ H [(Sum.inr k, v)] := fun H1 e Q q p hp => by
  refine hv _ (e.trans (Ex.new hp)) _ fun H2 e2 => ?_
  have h2 := e2 _ _ (show upd H1 p (.dK []) p = some (.dK []) from upd_same)
  refine ⟨h2, [(Sum.inr k, v)], rfl, (by show 1 ≤ 15; decide), q p _ hp (fun b o z => ?_) upd_same⟩
  rw [upd_ne (ne_of_none z hp)]
  exact e2 _ _ (Ex.new hp _ _ z)
/-- Call(n, [..]) -/
def EvCall (K : PySem.W.Frag) (CC : Addr) (te : TE) (σ : L2.St) (H : Hp) (n : Int) (hs : List PySem.Str) : Prop := ∀ H1, Ex H H1 → ∀ Q : VK, (∀ o ys H2, H1 o = none → Ex H1 H2 → CallH K CC H2 o n ys → ys.Perm hs → sortedS ys = true → Q (.ref o) H2) → te σ H1 Q
theorem ec_call {tn : TE} {ts : TA} {n : Int} {hs : List PySem.Str} (hn : Ev tn σ H (.int n)) (ht : EvA ts σ H (hs.map V.str)) (hl : hs.length < 64) : EvCall K CC (tMake CC (spCInit K CC) [] E0 (tCons tn (tCons (tLst ts) tNil))) σ H n hs := fun H1 e Q q =>
  hn H1 e _ fun H2 e2 => ht H2 (e.trans e2) _ fun H3 e3 => ⟨by rw [List.length_map]; exact sz_of (by omega), fun l hl0 x dx hx hdx hne => by
    have e4 := Ex.new (o := .lst (hs.map V.str)) hl0
    have hl4 : upd H3 l (.lst (hs.map V.str)) l = some (.lst (hs.map V.str)) := upd_same
    generalize upd H3 l (.lst (hs.map V.str)) = H4 at e4 hl4 hx hdx ⊢
    have s5 : Ex H4 (upd (upd H4 dx (.own x)) x (.ins CC dx [])) := fun b o z => by rw [upd_ne (ne_of_none z hx), upd_ne (ne_of_none z hdx)]; exact z
    refine ⟨x, dx, l, n, hs, rfl, upd_same, s5 _ _ hl4, hl, fun ys H' pm srt hC k => ⟨rfl, ?_⟩⟩
    have s6 : Ex H4 H' := fun b o z => k b o (s5 b o z) fun z2 => by rw [List.mem_singleton.mp z2, hx] at z; cases z
    exact q x ys H' (fresh_back (e2.trans (e3.trans e4)) hx) (e2.trans (e3.trans (e4.trans s6))) hC pm srt⟩
/-- {c: Call(..)} -/
theorem ecl_disp1 {tv : TE} {c : PySem.Str} {n : Int} {hs : List PySem.Str} (hv : EvCall K CC tv σ H n hs) : ∀ H1, Ex H H1 → ∀ Q : VK, (∀ p o ys H2, H1 p = none → Ex H1 H2 → H2 p = some (.dK (kvT vO [(c, (o, n, ys))])) → CallH K CC H2 o n ys → ys.Perm hs → Q (.ref p) H2) → tDisp [(tC (.str c), tv)] σ H1 Q := fun H1 e Q q p hp => by
  refine hv _ (e.trans (Ex.new hp)) _ fun o ys H2 ho e2 hC pm _ => ?_
  have h2 := e2 _ _ (show upd H1 p (.dK []) p = some (.dK []) from upd_same)
  refine ⟨h2, [(Sum.inr c, .ref o)], rfl, (by show 1 ≤ 15; decide), q p o ys _ hp (fun b o z => ?_) upd_same ?_ pm⟩
  · rw [upd_ne (ne_of_none z hp)]
    exact e2 _ _ (Ex.new hp _ _ z)
  · obtain ⟨dx, q', c1, c2⟩ := hC.here
    exact ⟨dx, q', by rw [upd_ne fun z => by rw [z, h2] at c1; cases c1]; exact c1, by rw [upd_ne fun z => by rw [z, h2] at c2; cases c2]; exact c2⟩
theorem kvT1 {β : Type} (f : β → V) (k : PySem.Str) (b : β) : kvT f [(k, b)] = [(Sum.inr k, f b)] := rfl
/-- ({k: v}, {}, w) -/
theorem er_mast {tv : TE} {k wd : PySem.Str} {v : V} (hv : Ev tv σ H v) (hl : k.length ≤ 100) (hs : ∀ s, v ≠ .str s) (hp : Plain v) (hw : chkM k v = some wd) : EvRow K CC (tTup (tCons (tDisp [(tC (.str k), tv)]) (tCons tDNewK (tCons (tC (.str wd)) tNil)))) σ H := fun H1 e Q q => by
  dsimp only [tTup, tCons, tNil]
  exact ed_disp1 (k := k) hv H1 e _ fun a H2 ha e2 h2 => fun b hb => ⟨by show 3 ≤ sizeLine; decide, fun t ht => by
    have e3 := Ex.new (o := .dK []) hb
    have hb3 : upd H2 b (.dK []) b = some (.dK []) := upd_same
    have ne : a ≠ b := fun z => by rw [← z, h2] at hb; cases hb
    generalize upd H2 b (.dK []) = H3 at e3 hb3 ht ⊢
    have e4 := Ex.new (o := .tup [.ref a, .ref b, .str wd]) ht
    refine q t ⟨a, b, [(k, v)], [], .str wd⟩ _ (e2.trans (e3.trans e4)) ⟨upd_same, ne, e4 _ _ (e3 _ _ h2), e4 _ _ hb3, fun x hx => (nomatch hx), .inl ⟨wd, rfl, ⟨nd1 _, List.nodup_nil, (by show 1 < 64; decide), (by show _ < 64; first | (show 0 < 64; decide) | (show 1 < 64; decide)), fun x hx => ?_, fun x hx => (nomatch hx)⟩, .inl ⟨0, (k, v), rfl, hw, fun j y hj => by omega⟩⟩⟩ ha (fresh_back e2 hb)
    cases List.mem_singleton.mp hx
    exact ⟨hl, hs, hp⟩⟩
/-- ({'m': 1}, {c: Call(..)}, w) -/
theorem er_call {tv tw : TE} {c : PySem.Str} {n : Int} {hs : List PySem.Str} {wd : V} (hv : EvCall K CC tv σ H n hs) (ht : Ev tw σ H wd) (hg : ∀ (a b o : Addr) (ys : List PySem.Str), ys.Perm hs → GoodRw ⟨a, b, [("m", .int 1)], [(c, (o, n, ys))], wd⟩) :
    EvRow K CC (tTup (tCons (tDisp [(tC (.str "m"), tC (.int 1))]) (tCons (tDisp [(tC (.str c), tv)]) (tCons tw tNil)))) σ H := fun H1 e Q q => by
  dsimp only [tTup, tCons, tNil]
  exact ed_disp1 (k := "m") (v := .int 1) ev_c H1 e _ fun a H2 ha e2 h2 => ecl_disp1 (c := c) hv H2 (e.trans e2) _ fun b o ys H3 hb e3 h3 hC pm => ht H3 (e.trans (e2.trans e3)) _ fun H4 e4 => ⟨by show 3 ≤ sizeLine; decide, fun t ht => by
    have e5 := Ex.new (o := .tup [.ref a, .ref b, wd]) ht
    have ne : a ≠ b := fun z => by rw [← z, h2] at hb; cases hb
    refine q t ⟨a, b, [("m", .int 1)], [(c, (o, n, ys))], wd⟩ _ (e2.trans (e3.trans (e4.trans e5))) ⟨upd_same, ne, e5 _ _ (e4 _ _ (e3 _ _ h2)), e5 _ _ (e4 _ _ h3), fun x hx => ?_, hg a b o ys pm⟩ ha (fresh_back e2 hb)
    cases List.mem_singleton.mp hx
    exact CallH.same hC (e4.trans e5)⟩
theorem mast1 : ∀ x ∈ ([("m", V.int 1)] : List (PySem.Str × V)), mastF x = none := fun x hx => by
  cases List.mem_singleton.mp hx
  show chkM "m" (.int 1) = none
  decide +kernel
theorem good_bad {c : PySem.Str} {n : Int} {ys : List PySem.Str} {wd : PySem.Str} {a b o : Addr} (hc : c.length ≤ 100) (hy : ys.length < 64) (h : chkC c (o, n, ys) ["m"] = some wd) : GoodRw ⟨a, b, [("m", .int 1)], [(c, (o, n, ys))], .str wd⟩ :=
  .inl ⟨wd, rfl, ⟨nd1 _, nd1 _, (by show 1 < 64; decide), (by show _ < 64; first | (show 0 < 64; decide) | (show 1 < 64; decide)), fun x hx => (by cases List.mem_singleton.mp hx; exact ⟨by decide +kernel, fun s => (fun z => by cases z), trivial⟩), fun x hx => (by cases List.mem_singleton.mp hx; exact ⟨hc, hy⟩)⟩,
    .inr ⟨mast1, 0, (c, (o, n, ys)), rfl, h, fun j y hj => by omega⟩⟩
end
end Mc
namespace Mc.Gd
section
variable {α : Type} [DecidableEq α]
/-! ### seatable rows: the exchange, the greedy row, what more room and fewer calls do -/
def cntF (A : List α) (f : α → α) (m : α) : Nat := (A.filter fun c => decide (f c = m)).length
theorem cntF_nil (f : α → α) (m : α) : cntF [] f m = 0 := rfl
theorem cntF_cons (a : α) (A : List α) (f : α → α) (m : α) : cntF (a :: A) f m = (if f a = m then 1 else 0) + cntF A f m := by
  unfold cntF
  rw [List.filter_cons]
  by_cases e : f a = m
  · rw [if_pos e, if_pos (decide_eq_true e), List.length_cons]; omega
  · rw [if_neg e, if_neg (by simp [e])]; omega
theorem cntF_app (A B : List α) (f : α → α) (m : α) : cntF (A ++ B) f m = cntF A f m + cntF B f m := by
  unfold cntF
  rw [List.filter_append, List.length_append]
theorem cntF_pos {A : List α} {f : α → α} {m : α} (h : 0 < cntF A f m) : ∃ a ∈ A, f a = m := by
  obtain ⟨a, ha⟩ := List.exists_mem_of_length_pos h
  exact ⟨a, (List.mem_filter.mp ha).1, of_decide_eq_true (List.mem_filter.mp ha).2⟩
theorem cntF_congr {A : List α} {f g : α → α} {m : α} (h : ∀ a ∈ A, f a = g a) : cntF A f m = cntF A g m := by
  unfold cntF
  rw [List.filter_congr fun a ha => by rw [h a ha]]
/-- counts at each place of R bound the lengths -/
theorem cnt_len (R : α → Prop) [DecidablePred R] (f g : α → α) : ∀ (B A : List α), (∀ b ∈ B, R (f b)) → (∀ m, R m → cntF B f m ≤ cntF A g m) → B.length ≤ (A.filter fun a => decide (R (g a))).length
  | [], _, _, _ => Nat.zero_le _
  | b :: B, A, h, k => by
    have hb := h b (by simp)
    have k0 := k _ hb
    rw [cntF_cons, if_pos rfl] at k0
    obtain ⟨a, ha, e⟩ := cntF_pos (A := A) (f := g) (m := f b) (by omega)
    obtain ⟨A1, A2, rfl⟩ := List.append_of_mem ha
    have ih := cnt_len R f g B (A1 ++ A2) (fun x hx => h x (List.mem_cons_of_mem _ hx)) fun m hm => by
      have := k m hm
      rw [cntF_cons, cntF_app, cntF_cons, e] at this
      rw [cntF_app]
      split at this <;> omega
    rw [List.filter_append, List.length_append] at ih ⊢
    rw [List.filter_cons, if_pos (by rw [e]; exact decide_eq_true hb), List.length_cons, List.length_cons]
    omega
/-- the masts that are come to in n moves from some calls Z, J seated by T -/
def Dl (X : Sc α) (Z J : List α) (T : α → α) : Nat → α → Prop
  | 0, m => ∃ z ∈ Z, m ∈ X.heard z
  | n + 1, m => ∃ c ∈ J, Dl X Z J T n (T c) ∧ m ∈ X.heard c
theorem right_cnt {X : Sc α} {J : List α} {T : α → α} (h : Right X J T) (m : α) : cntF J T m ≤ X.cap m := h.2 m
theorem cnt_set {J : List α} (nd : J.Nodup) {T : α → α} {c m : α} (hc : c ∈ J) (x : α) (hm : T c ≠ m) : cntF J (fun y => if y = c then m else T y) x = if x = m then cntF J T x + 1 else if x = T c then cntF J T x - 1 else cntF J T x := by
  obtain ⟨A, B, rfl⟩ := List.append_of_mem hc
  have h := List.nodup_append.mp nd
  have nA : ∀ y ∈ A, y ≠ c := fun y hy e => h.2.2 y hy c (by simp) e
  have nB : ∀ y ∈ B, y ≠ c := fun y hy e => (List.nodup_cons.mp h.2.1).1 (by rw [← e]; exact hy)
  have eA : cntF A (fun y => if y = c then m else T y) x = cntF A T x := cntF_congr fun a ha => if_neg (nA a ha)
  have eB : cntF B (fun y => if y = c then m else T y) x = cntF B T x := cntF_congr fun a ha => if_neg (nB a ha)
  rw [cntF_app, cntF_cons, cntF_app, cntF_cons, eA, eB, if_pos rfl]
  by_cases e1 : x = m
  · subst e1
    rw [if_pos rfl, if_pos rfl, if_neg hm]; omega
  · rw [if_neg (Ne.symm e1), if_neg e1]
    by_cases e2 : x = T c
    · rw [if_pos e2.symm, if_pos e2]; omega
    · rw [if_neg (Ne.symm e2), if_neg e2]
theorem Dl.moved {X : Sc α} {Z J : List α} {T : α → α} {c m : α} : ∀ {j : Nat} {x : α}, Dl X Z J T j x → (∀ i, i < j → ¬ Dl X Z J T i (T c)) → Dl X Z J (fun y => if y = c then m else T y) j x
  | 0, _, h, _ => h
  | j + 1, x, ⟨d, hd, h, hx⟩, k => by
    have ne : d ≠ c := fun e => by subst e; exact k j (Nat.lt_succ_self _) h
    refine ⟨d, hd, ?_, hx⟩
    show Dl X Z J _ j (if d = c then m else T d)
    rw [if_neg ne]
    exact Dl.moved h fun i hi => k i (Nat.lt_succ_of_lt hi)
theorem aug {X : Sc α} {Z J : List α} (nd : J.Nodup) : ∀ (n : Nat) (T : α → α) (m : α), Right X J T → Dl X Z J T n m → cntF J T m < X.cap m → (∀ z ∈ Z, z ∉ J) → ∃ z ∈ Z, Seatable X (J ++ [z]) := by
  intro n
  induction n using Nat.strongRecOn with
  | ind n ih =>
    intro T m hT hD hr hZ
    cases n with
    | zero =>
      obtain ⟨z, hz, hm⟩ := hD
      refine ⟨z, hz, fun y => if y = z then m else T y, fun c hc => ?_, fun x => ?_⟩
      · rcases List.mem_append.mp hc with h | h
        · show (if c = z then m else T c) ∈ _
          rw [if_neg (fun (e : c = z) => hZ z hz (e ▸ h))]
          exact hT.1 c h
        · obtain rfl := List.mem_singleton.mp h
          show (if c = c then m else T c) ∈ _
          rw [if_pos rfl]
          exact hm
      · show cntF (J ++ [z]) (fun y => if y = z then m else T y) x ≤ _
        rw [cntF_app, cntF_cons, cntF_nil, if_pos rfl, cntF_congr (g := T) fun a ha => if_neg (fun (e : a = z) => hZ z hz (e ▸ ha))]
        have := right_cnt hT x
        split
        · rename_i e; subst e; omega
        · omega
    | succ n =>
      obtain ⟨c, hc, hDc, hm⟩ := hD
      by_cases early : ∃ i, i < n + 1 ∧ ∃ m', Dl X Z J T i m' ∧ cntF J T m' < X.cap m'
      · obtain ⟨i, hi, m', h1, h2⟩ := early
        exact ih i hi T m' hT h1 h2 hZ
      · have no : ∀ i, i < n → ¬ Dl X Z J T i (T c) := fun i hi z => early ⟨i + 1, by omega, m, ⟨c, hc, z, hm⟩, hr⟩
        have full : ¬ cntF J T (T c) < X.cap (T c) := fun z => early ⟨n, Nat.lt_succ_self _, T c, hDc, z⟩
        have ne : T c ≠ m := fun e => full (by rw [e]; exact hr)
        refine ih n (Nat.lt_succ_self _) (fun y => if y = c then m else T y) (T c) ⟨fun y hy => ?_, fun x => ?_⟩ (Dl.moved hDc no) ?_ hZ
        · by_cases e : y = c
          · subst e
            show (if y = y then m else T y) ∈ _
            rw [if_pos rfl]; exact hm
          · show (if y = c then m else T y) ∈ _
            rw [if_neg e]; exact hT.1 y hy
        · show cntF J (fun y => if y = c then m else T y) x ≤ _
          rw [cnt_set nd hc x ne]
          have := right_cnt hT x
          split
          · rename_i e; subst e; omega
          · split <;> omega
        · rw [cnt_set nd hc (T c) ne, if_neg ne, if_pos rfl]
          have h1 := right_cnt hT (T c)
          have h2 : 0 < cntF J T (T c) := by
            unfold cntF
            exact List.length_pos_of_mem (List.mem_filter.mpr ⟨hc, by simp⟩)
          omega
/-- what is come to is full, where nobody of Z can be added -/
theorem full_of {X : Sc α} {Z J : List α} (nd : J.Nodup) {T : α → α} (hT : Right X J T) (hZ : ∀ z ∈ Z, z ∉ J) (no : ∀ z ∈ Z, ¬ Seatable X (J ++ [z])) {m : α} (h : ∃ n, Dl X Z J T n m) : X.cap m ≤ cntF J T m := by
  obtain ⟨n, h⟩ := h
  refine Nat.le_of_not_lt fun z => ?_
  obtain ⟨y, hy, q⟩ := aug nd n T m hT h z hZ
  exact no y hy q
open Classical in
theorem exch {X : Sc α} {A B : List α} (na : A.Nodup) (nb : B.Nodup) (hA : Seatable X A) (hB : Seatable X B) (hl : A.length < B.length) : ∃ b ∈ B, b ∉ A ∧ Seatable X (A ++ [b]) := by
  refine Classical.byContradiction fun con => ?_
  obtain ⟨T, hT⟩ := hA
  obtain ⟨U, hU⟩ := hB
  have hZ : ∀ z ∈ B.filter (fun b => decide (b ∉ A)), z ∉ A := fun z hz => of_decide_eq_true (List.mem_filter.mp hz).2
  have no : ∀ z ∈ B.filter (fun b => decide (b ∉ A)), ¬ Seatable X (A ++ [z]) := fun z hz q => con ⟨z, (List.mem_filter.mp hz).1, hZ z hz, q⟩
  let R : α → Prop := fun m => ∃ n, Dl X (B.filter (fun b => decide (b ∉ A))) A T n m
  have hfull : ∀ m, R m → X.cap m ≤ cntF A T m := fun m hm => full_of na hT hZ no hm
  have hsrc : ∀ b ∈ B, b ∉ A → R (U b) := fun b hb hn => ⟨0, b, List.mem_filter.mpr ⟨hb, decide_eq_true hn⟩, hU.1 b hb⟩
  have hclo : ∀ b ∈ B, b ∈ A → R (T b) → R (U b) := fun b hb ha ⟨n, hn⟩ => ⟨n + 1, b, ha, hn, hU.1 b hb⟩
  have l1 := cnt_len R U T (B.filter fun b => decide (R (U b))) A (fun b hb => of_decide_eq_true (List.mem_filter.mp hb).2) fun m hm => by
    refine Nat.le_trans ?_ (Nat.le_trans (hU.2 m) (hfull m hm))
    unfold cntF
    exact len_sub ((nb.filter _).filter _) fun x hx => List.mem_filter.mpr ⟨(List.mem_filter.mp (List.mem_filter.mp hx).1).1, (List.mem_filter.mp hx).2⟩
  have l2 : (B.filter fun b => !decide (R (U b))).length ≤ (A.filter fun a => !decide (R (T a))).length := len_sub (nb.filter _) fun x hx => by
    have h1 := List.mem_filter.mp hx
    have h2 : ¬ R (U x) := by simpa using h1.2
    have ha : x ∈ A := Classical.byContradiction fun z => h2 (hsrc x h1.1 z)
    exact List.mem_filter.mpr ⟨ha, by simpa using fun z => h2 (hclo x h1.1 ha z)⟩
  have sp : ∀ (L : List α) (p : α → Bool), L.length = (L.filter p).length + (L.filter fun a => !p a).length := by
    intro L p
    induction L with
    | nil => rfl
    | cons x L ih =>
      rw [List.filter_cons, List.filter_cons, List.length_cons]
      cases p x <;> simp <;> omega
  have e1 := sp B fun b => decide (R (U b))
  have e2 := sp A fun b => decide (R (T b))
  omega
theorem seat_sub {X : Sc α} {a b : List α} (nd : a.Nodup) (h : ∀ x ∈ a, x ∈ b) : Seatable X b → Seatable X a := fun ⟨T, t1, t2⟩ =>
  ⟨T, fun c hc => t1 c (h c hc), fun m => Nat.le_trans (len_sub (nd.filter _) fun x hx => List.mem_filter.mpr ⟨h x (List.mem_filter.mp hx).1, (List.mem_filter.mp hx).2⟩) (t2 m)⟩
theorem seat_nil {X : Sc α} : Seatable X [] := ⟨id, fun _ h => (nomatch h), fun _ => Nat.zero_le _⟩
theorem seat_congr {X Y : Sc α} {L : List α} (hc : ∀ m, X.cap m = Y.cap m) (hh : ∀ c ∈ L, X.heard c = Y.heard c) : Seatable X L ↔ Seatable Y L :=
  ⟨fun ⟨T, h1, h2⟩ => ⟨T, fun c h => by rw [← hh c h]; exact h1 c h, fun m => by rw [← hc m]; exact h2 m⟩, fun ⟨T, h1, h2⟩ => ⟨T, fun c h => by rw [hh c h]; exact h1 c h, fun m => by rw [hc m]; exact h2 m⟩⟩
open Classical in
noncomputable def grS (X : Sc α) (L : List α) (c : α) : List α := if Seatable X (L ++ [c]) then L ++ [c] else L
/-- the greedy row -/
noncomputable def gr (X : Sc α) (P : List α) : List α := P.foldl (grS X) []
theorem gr_nil (X : Sc α) : gr X [] = [] := rfl
theorem gr_snoc (X : Sc α) (P : List α) (c : α) : gr X (P ++ [c]) = grS X (gr X P) c := by
  unfold gr
  rw [List.foldl_append]
  rfl
theorem gr_yes {X : Sc α} {P : List α} {c : α} (h : Seatable X (gr X P ++ [c])) : gr X (P ++ [c]) = gr X P ++ [c] := by
  rw [gr_snoc]
  exact if_pos h
theorem gr_no {X : Sc α} {P : List α} {c : α} (h : ¬ Seatable X (gr X P ++ [c])) : gr X (P ++ [c]) = gr X P := by
  rw [gr_snoc]
  exact if_neg h
theorem snoc_ind {motive : List α → Prop} (h0 : motive []) (hs : ∀ P c, motive P → motive (P ++ [c])) (P : List α) : motive P := by
  have : ∀ n (P : List α), P.length = n → motive P := by
    intro n
    induction n with
    | zero => intro P h; rw [List.eq_nil_of_length_eq_zero h]; exact h0
    | succ n ih =>
      intro P h
      have hne : P ≠ [] := fun e => by rw [e] at h; simp at h
      rw [← List.dropLast_concat_getLast hne]
      exact hs _ _ (ih _ (by rw [List.length_dropLast, h]; rfl))
  exact this _ P rfl
theorem gr_sub (X : Sc α) (P : List α) : ∀ y ∈ gr X P, y ∈ P := by
  induction P using snoc_ind with
  | h0 => intro y h; cases h
  | hs P c ih =>
    intro y h
    by_cases q : Seatable X (gr X P ++ [c])
    · rw [gr_yes q] at h
      rcases List.mem_append.mp h with h | h
      · exact List.mem_append_left _ (ih y h)
      · exact List.mem_append_right _ h
    · rw [gr_no q] at h
      exact List.mem_append_left _ (ih y h)
theorem gr_seat (X : Sc α) (P : List α) : Seatable X (gr X P) := by
  induction P using snoc_ind with
  | h0 => exact seat_nil
  | hs P c ih =>
    by_cases q : Seatable X (gr X P ++ [c])
    · rw [gr_yes q]; exact q
    · rw [gr_no q]; exact ih
theorem nd_snoc {P : List α} {c : α} (h : (P ++ [c]).Nodup) : P.Nodup ∧ c ∉ P := by
  have := List.nodup_append.mp h
  exact ⟨this.1, fun z => this.2.2 c z c (by simp) rfl⟩
theorem snoc_nd {P : List α} {c : α} (h : P.Nodup) (k : c ∉ P) : (P ++ [c]).Nodup := List.nodup_append.mpr ⟨h, by simp, fun a ha b hb e => by rw [List.mem_singleton.mp hb] at e; exact k (e ▸ ha)⟩
theorem gr_nd {X : Sc α} {P : List α} : P.Nodup → (gr X P).Nodup := by
  induction P using snoc_ind with
  | h0 => intro _; exact List.nodup_nil
  | hs P c ih =>
    intro h
    obtain ⟨h1, h2⟩ := nd_snoc h
    by_cases q : Seatable X (gr X P ++ [c])
    · rw [gr_yes q]; exact snoc_nd (ih h1) fun z => h2 (gr_sub X P c z)
    · rw [gr_no q]; exact ih h1
theorem gr_keep {X : Sc α} {P : List α} {y : α} (Q : List α) (h : y ∈ gr X P) : y ∈ gr X (P ++ Q) := by
  induction Q using snoc_ind with
  | h0 => rw [List.append_nil]; exact h
  | hs Q c ih =>
    rw [← List.append_assoc]
    by_cases q : Seatable X (gr X (P ++ Q) ++ [c])
    · rw [gr_yes q]; exact List.mem_append_left _ ih
    · rw [gr_no q]; exact ih
theorem gr_none {X : Sc α} {P : List α} {y : α} {Q : List α} (hn : y ∉ Q) (h : y ∈ gr X (P ++ Q)) : y ∈ gr X P := by
  induction Q using snoc_ind with
  | h0 => rw [List.append_nil] at h; exact h
  | hs Q c ih =>
    have n1 : y ∉ Q := fun z => hn (List.mem_append_left _ z)
    have n2 : y ≠ c := fun e => hn (by simp [e])
    rw [← List.append_assoc] at h
    by_cases q : Seatable X (gr X (P ++ Q) ++ [c])
    · rw [gr_yes q] at h
      rcases List.mem_append.mp h with h | h
      · exact ih n1 h
      · exact absurd (List.mem_singleton.mp h) n2
    · rw [gr_no q] at h; exact ih n1 h
/-- who is kept: whoever can be added to the row of the earlier ones -/
theorem gr_iff {X : Sc α} {P Q : List α} {x : α} (h : (P ++ x :: Q).Nodup) : x ∈ gr X (P ++ x :: Q) ↔ Seatable X (gr X P ++ [x]) := by
  have h1 := List.nodup_append.mp h
  have h2 := List.nodup_cons.mp h1.2.1
  have hp : x ∉ P := fun z => h1.2.2 x z x (by simp) rfl
  have e : P ++ x :: Q = (P ++ [x]) ++ Q := by simp
  rw [e]
  refine ⟨fun z => ?_, fun z => gr_keep Q (by rw [gr_yes z]; simp)⟩
  have z1 := gr_none h2.1 z
  refine Classical.byContradiction fun n => ?_
  rw [gr_no n] at z1
  exact hp (gr_sub X P x z1)
theorem gr_max {X : Sc α} {P : List α} : P.Nodup → ∀ j ∈ P, j ∉ gr X P → ¬ Seatable X (gr X P ++ [j]) := by
  intro nd j hj hn hs
  obtain ⟨A, B, rfl⟩ := List.append_of_mem hj
  have nA := (List.nodup_append.mp nd).1
  refine hn ((gr_iff nd).mpr (seat_sub (snoc_nd (gr_nd nA) fun z => (List.nodup_append.mp nd).2.2 j (gr_sub X A j z) j (by simp) rfl) (fun y hy => ?_) hs))
  rcases List.mem_append.mp hy with h | h
  · exact List.mem_append_left _ (gr_keep _ h)
  · exact List.mem_append_right _ h
/-- a row as long as the greater one, and who stands in it -/
theorem fill {X : Sc α} {I : List α} (hI : Seatable X I) (nI : I.Nodup) : ∀ (n : Nat) (J : List α), Seatable X J → J.Nodup → J.length + n = I.length → ∃ L, Seatable X L ∧ L.Nodup ∧ (∀ y ∈ J, y ∈ L) ∧ (∀ y ∈ L, y ∈ J ∨ y ∈ I) ∧ L.length = I.length
  | 0, J, h, nd, e => ⟨J, h, nd, fun _ z => z, fun _ z => .inl z, e⟩
  | n + 1, J, h, nd, e => by
    obtain ⟨b, hb, hn, hs⟩ := exch nd nI h hI (by omega)
    obtain ⟨L, a1, a2, a3, a4, a5⟩ := fill hI nI n (J ++ [b]) hs (snoc_nd nd hn) (by rw [List.length_append, List.length_singleton]; omega)
    refine ⟨L, a1, a2, fun y hy => a3 y (List.mem_append_left _ hy), fun y hy => ?_, a5⟩
    rcases a4 y hy with z | z
    · rcases List.mem_append.mp z with z | z
      · exact .inl z
      · rw [List.mem_singleton.mp z]; exact .inr hb
    · exact .inr z
/-- whoever can't be added to a row of earlier calls can't be added to the greedy row -/
theorem span {X : Sc α} {P J : List α} {x : α} (nP : P.Nodup) (nJ : J.Nodup) (hJ : ∀ y ∈ J, y ∈ P) (hx : x ∉ P) (sJ : Seatable X J) (no : ¬ Seatable X (J ++ [x])) : ¬ Seatable X (gr X P ++ [x]) := by
  intro yes
  have nG : (gr X P).Nodup := gr_nd nP
  have nI : (gr X P ++ [x]).Nodup := snoc_nd nG fun z => hx (gr_sub X P x z)
  have le : J.length ≤ (gr X P ++ [x]).length := by
    refine Nat.le_of_not_lt fun z => ?_
    obtain ⟨b, hb, hn, hs⟩ := exch nG nJ (gr_seat X P) sJ (by rw [List.length_append, List.length_singleton] at z; omega)
    exact gr_max nP b (hJ b hb) hn hs
  obtain ⟨L, a1, a2, a3, a4, a5⟩ := fill yes nI ((gr X P ++ [x]).length - J.length) J sJ nJ (by omega)
  have hxL : x ∉ L := fun z => no (seat_sub (snoc_nd nJ fun w => hx (hJ x w)) (fun y hy => by
    rcases List.mem_append.mp hy with h | h
    · exact a3 y h
    · rw [List.mem_singleton.mp h]; exact z) a1)
  obtain ⟨b, hb, hn, hs⟩ := exch nG a2 (gr_seat X P) a1 (by rw [a5, List.length_append, List.length_singleton]; omega)
  have hbP : b ∈ P := by
    rcases a4 b hb with h | h
    · exact hJ b h
    · rcases List.mem_append.mp h with h | h
      · exact gr_sub X P b h
      · exact absurd (List.mem_singleton.mp h ▸ hb) hxL
  exact gr_max nP b hbP hn hs
/-- fewer earlier calls -/
theorem gr_fewer {X : Sc α} {P P' : List α} {x : α} (nP : P.Nodup) (nP' : P'.Nodup) (hs : ∀ y ∈ P', y ∈ P) (hx : x ∉ P) (h : Seatable X (gr X P ++ [x])) : Seatable X (gr X P' ++ [x]) :=
  Classical.byContradiction fun no => span nP (gr_nd nP') (fun y hy => hs y (gr_sub X P' y hy)) hx (gr_seat X P') no h
theorem gr_congr {X Y : Sc α} {P : List α} (hc : ∀ m, X.cap m = Y.cap m) : (∀ c ∈ P, X.heard c = Y.heard c) → gr X P = gr Y P := by
  induction P using snoc_ind with
  | h0 => intro _; rfl
  | hs P c ih =>
    intro hh
    have e := ih fun y hy => hh y (List.mem_append_left _ hy)
    have q : Seatable X (gr X P ++ [c]) ↔ Seatable Y (gr Y P ++ [c]) := by
      rw [e]
      refine seat_congr hc fun y hy => hh y ?_
      rcases List.mem_append.mp hy with z | z
      · exact List.mem_append_left _ (gr_sub Y P y z)
      · exact List.mem_append_right _ z
    by_cases z : Seatable X (gr X P ++ [c])
    · rw [gr_yes z, gr_yes (q.mp z), e]
    · rw [gr_no z, gr_no fun w => z (q.mpr w), e]
open Classical in
/-- one channel more -/
theorem gr_more {X Y : Sc α} {P : List α} {x m0 : α} (nP : P.Nodup) (hx : x ∉ P) (hc : ∀ m, Y.cap m = X.cap m + if m = m0 then 1 else 0) (hh : ∀ c, Y.heard c = X.heard c) (h : Seatable X (gr X P ++ [x])) : Seatable Y (gr Y P ++ [x]) := by
  refine Classical.byContradiction fun no => ?_
  have nJ : (gr Y P).Nodup := gr_nd nP
  have hJP := gr_sub Y P
  obtain ⟨T, hT⟩ := gr_seat Y P
  generalize gr Y P = J at no nJ hJP hT
  have hxJ : x ∉ J := fun z => hx (hJP x z)
  let R : α → Prop := fun m => ∃ n, Dl Y [x] J T n m
  have hfull : ∀ m, R m → Y.cap m ≤ cntF J T m := fun m hm => full_of nJ hT (fun z hz => by rw [List.mem_singleton.mp hz]; exact hxJ) (fun z hz => by rw [List.mem_singleton.mp hz]; exact no) hm
  have hsrc : ∀ m ∈ Y.heard x, R m := fun m hm => ⟨0, x, by simp, hm⟩
  have hclo : ∀ c ∈ J, R (T c) → ∀ m ∈ Y.heard c, R m := fun c hc ⟨n, hn⟩ m hm => ⟨n + 1, c, hc, hn, hm⟩
  -- the calls that sit in R, but one at m0
  obtain ⟨B, nB, hBJ, hBR, hBc⟩ : ∃ B : List α, B.Nodup ∧ (∀ b ∈ B, b ∈ J) ∧ (∀ b ∈ B, R (T b)) ∧ ∀ m, R m → X.cap m ≤ cntF B T m ∧ cntF B T m ≤ cntF J T m - if m = m0 then 1 else 0 := by
    have cR : ∀ m, R m → cntF (J.filter fun c => decide (R (T c))) T m = cntF J T m := fun m hm => by
      unfold cntF
      rw [List.filter_filter]
      refine congrArg List.length (List.filter_congr fun c _ => ?_)
      by_cases e : T c = m
      · have : R (T c) := by rw [e]; exact hm
        simp [e, hm]
      · simp [e]
    by_cases r0 : R m0
    · have p0 : 0 < cntF (J.filter fun c => decide (R (T c))) T m0 := by
        have := hfull m0 r0
        rw [hc, if_pos rfl] at this
        rw [cR m0 r0]; omega
      obtain ⟨b0, hb0, e0⟩ := cntF_pos p0
      have nF : (J.filter fun c => decide (R (T c))).Nodup := nJ.filter _
      have memF : ∀ c ∈ J.filter (fun c => decide (R (T c))), c ∈ J ∧ R (T c) := fun c hc => ⟨(List.mem_filter.mp hc).1, of_decide_eq_true (List.mem_filter.mp hc).2⟩
      generalize J.filter (fun c => decide (R (T c))) = F at cR hb0 nF memF p0
      obtain ⟨A1, A2, rfl⟩ := List.append_of_mem hb0
      refine ⟨A1 ++ A2, nF.sublist (List.Sublist.append (List.Sublist.refl _) (List.sublist_cons_self _ _)), fun b hb => (memF b ?_).1, fun b hb => (memF b ?_).2, fun m hm => ?_⟩
      · rcases List.mem_append.mp hb with z | z
        · exact List.mem_append_left _ z
        · exact List.mem_append_right _ (List.mem_cons_of_mem _ z)
      · rcases List.mem_append.mp hb with z | z
        · exact List.mem_append_left _ z
        · exact List.mem_append_right _ (List.mem_cons_of_mem _ z)
      · have h1 := cR m hm
        have h2 := hfull m hm
        rw [hc] at h2
        rw [cntF_app, cntF_cons, e0] at h1
        rw [cntF_app]
        by_cases e : m = m0
        · rw [if_pos e] at h2 ⊢
          rw [if_pos e.symm] at h1
          omega
        · rw [if_neg e] at h2 ⊢
          rw [if_neg (Ne.symm e)] at h1
          omega
    · refine ⟨J.filter fun c => decide (R (T c)), nJ.filter _, fun b hb => (List.mem_filter.mp hb).1, fun b hb => of_decide_eq_true (List.mem_filter.mp hb).2, fun m hm => ?_⟩
      have e : m ≠ m0 := fun e => r0 (e ▸ hm)
      have h2 := hfull m hm
      rw [hc, if_neg e] at h2
      rw [cR m hm, if_neg e]
      omega
  have sB : Seatable X B := ⟨T, fun c hc => by rw [← hh]; exact hT.1 c (hBJ c hc), fun m => by
    show cntF B T m ≤ _
    by_cases r : R m
    · have h1 := (hBc m r).2
      have h2 := right_cnt hT m
      rw [hc] at h2
      split at h1
      · rename_i e; rw [if_pos e] at h2; omega
      · rename_i e; rw [if_neg e] at h2; omega
    · have : cntF B T m = 0 := Classical.byContradiction fun z => by
        obtain ⟨a, ha, e⟩ := cntF_pos (Nat.pos_of_ne_zero z)
        exact r (by rw [← e]; exact hBR a ha)
      omega⟩
  have noB : ¬ Seatable X (B ++ [x]) := by
    rintro ⟨U, hU⟩
    have := cnt_len R U T (B ++ [x]) B (fun b hb => ?_) fun m hm => Nat.le_trans (hU.2 m) (hBc m hm).1
    · have h2 : (B.filter fun a => decide (R (T a))).length ≤ B.length := List.length_filter_le _ _
      rw [List.length_append, List.length_singleton] at this
      omega
    · have hu := hU.1 b hb
      rw [← hh] at hu
      rcases List.mem_append.mp hb with z | z
      · exact hclo b (hBJ b z) (hBR b z) _ hu
      · rw [List.mem_singleton.mp z] at hu ⊢
        exact hsrc _ hu
  exact span nP nB (fun y hy => hJP y (hBJ y hy)) hx sB noB h
end
end Mc.Gd
namespace Mc
open PySem L2 PySem.Spec PyProof.Rows
abbrev sRank : Stmt := inClass (top 13) 3
abbrev sOrder : Stmt := inClass (top 13) 2
structure TxO (K : PySem.W.Frag) (mg : PySem.Str → Option Value) (CS CC : Addr) : Prop where
  clS : Cls K CS
  nCa : NoAttr K CS "calls"
  clC : Cls K CC
  nW : NoAttr K CC "worth"
  sorted : mg "sorted" = none
/-- how worthy the call of that name is -/
def wOf (cls : Cls') (x : PySem.Str) : Int := ((getT cls x).map (·.2.1)).getD 0
def spRank (K : PySem.W.Frag) (CS CC : Addr) : Sp := fun vs H Q _ => ∃ (sc dx a y : Addr) (cls : Cls') (x : PySem.Str), vs = [.ref sc, .str x] ∧ H sc = some (.ins CS dx [("channels", .ref a), ("calls", .ref y)]) ∧ Rd H y (.dK (kvT vO cls)) ∧ CallsH K CC H cls ∧ x ∈ keysT cls ∧
  ∀ p, H p = none → Q (.ref p) (upd H p (.tup [.int (-wOf cls x), .str x]))
def rkO (cls : Cls') (x : PySem.Str) : Int := -wOf cls x
def spOrder (K : PySem.W.Frag) (CS CC : Addr) : Sp := fun vs H Q _ => ∃ (sc : Addr) (chs : Chs) (cls : Cls'), vs = [.ref sc] ∧ SceneH K CS CC H sc chs cls ∧ OkC chs cls ∧
  ∀ (p : Addr) (ys : List PySem.Str) (H' : Hp), ys.Perm (keysT cls) → ys.Pairwise (rkLe (rkO cls)) → Same H H' → H' p = none → Q (.ref p) (upd H' p (.lst (ys.map V.str)))
section
variable {P : Program} {w : World} {K : PySem.W.Frag} {mg : PySem.Str → Option Value} {base : Heap}
theorem scRank : FnScope ["self", "name"] ["self", "name"] (defScope sRank) := ⟨rfl, rfl, rfl, by decide +kernel, rfl, by decide +kernel, by decide +kernel⟩
theorem ok_rank {f CS CC : Addr} {fd : FuncData} (F : Fun K "rank" "Scene.rank" sRank f fd) (T : TxO K mg CS CC) : FnOk P w K mg base CX0 1 f fd ["self", "name"] (spRank K CS CC) := by
  refine F.ok scRank (fun vs H Q E h => ?_) (fun cdv A outer s H vs Q E hr h => ?_)
  · obtain ⟨sc, dx, a, y, cls, x, rfl, _⟩ := h
    rfl
  · obtain ⟨sc, dx, a, y, cls, x, rfl, h1, h2, hC, hx, q⟩ := h
    have hu := hu_of hr
    refine ⟨_, (pss_one (ps_ret (pe_tup (pa_cons (pe_un un_neg (pe_fld (pe_dget hu (pe_fld (pv 0) rfl) (pv 1) (fun _ _ => rfl)) rfl)) (pa_cons (pv 1) pa_nil))))), ?_⟩
    cases e : getT cls x with
    | none => exact absurd hx (getT_none.mp e)
    | some cd =>
      obtain ⟨dxc, hh, c1, c2⟩ := (hC _ (getT_in e)).here
      have ew : wOf cls x = cd.2.1 := by unfold wOf; rw [e]; rfl
      rw [ew] at q
      refine ⟨_, rfl, sc, CS, dx, _, _, rfl, h1, T.clS, T.nCa, rfl, _, rfl, y, _, rfl, dgetT h2 e, ?_⟩
      refine ⟨cd.1, CC, dxc, _, _, rfl, c1, T.clC, T.nW, rfl, cd.2.1, rfl, ?_⟩
      exact ⟨_, rfl, (by show 2 ≤ sizeLine; decide), q⟩
theorem scOrder : FnScope ["self"] ["self"] (defScope sOrder) := ⟨rfl, rfl, rfl, by decide +kernel, rfl, by decide +kernel, by decide +kernel⟩
theorem kvT_keys {β : Type} (f : β → V) (l : List (PySem.Str × β)) : (kvT f l).map (·.1) = (keysT l).map Sum.inr := by unfold kvT keysT; rw [List.map_map, List.map_map]; rfl
theorem ok_order {f CS CC : Addr} {fd : FuncData} (F : Fun K "order" "Scene.order" sOrder f fd) (T : TxO K mg CS CC) (c_rank : CalB P w K mg base CS 1 "rank" ["self", "name"] (spRank K CS CC)) : FnOk P w K mg base CX0 4 f fd ["self"] (spOrder K CS CC) := by
  refine F.ok scOrder (fun vs H Q E h => ?_) (fun cdv A outer s H vs Q E hr h => ?_)
  · obtain ⟨sc, chs, cls, rfl, _⟩ := h
    rfl
  · obtain ⟨sc, chs, cls, rfl, hC, ok, q⟩ := h
    refine ⟨_, (pss_one (ps_ret (pe_srtM rfl T.clS c_rank (hr.mono (by decide)) (by rfl) T.sorted (pe_fld (pv 0) rfl) (pv 0)))), ?_⟩
    obtain ⟨dx, a, b, h1, h2, h3⟩ := hC.here
    refine ⟨_, rfl, sc, CS, dx, _, _, rfl, h1, T.clS, T.nCa, rfl, _, rfl, b, sc, dx, kvT vO cls, _, keysT cls, rkO cls, rfl, rfl, h1, rfl, h3, kvT_keys _ _, by unfold keysT; rw [List.length_map]; exact ok.lenc, fun x hx H' s1 => ?_, fun ys p H' s1 pm pw hp => ?_⟩
    · exact ⟨sc, dx, a, b, cls, x, rfl, s1 _ _ h1, rd_same h3 s1, hC.calls.same s1, hx, fun p hp => ⟨p, rfl, hp, rfl⟩⟩
    · exact q p ys H' pm pw s1 hp
end
end Mc
namespace Mc
open PySem L2 PySem.Spec PyProof.Rows
/-! ### sets of texts whose table can be walked: set(xs), sorted(s) -/
def txtOf (e : Int × Value) : PySem.Str := match e.2 with
  | .str x _ => x
  | _ => ""
def TxtE (P : Program) (w : World) (e : Int × Value) : Prop := ∃ x tk, e.2 = Value.str x tk ∧ e.1 = (mixKind P w).hash (Sum.inr x)
/-- the set of texts at a: its members are those of ys -/
structure SetX (P : Program) (w : World) (h : Heap) (a : Addr) (ys : List PySem.Str) (n : Nat) (o : Obj) (es : Array (Int × Value)) (ep : Nat) (t : SetTable) : Prop where
  at_ : h.get? a = some o
  ex : o.ExactSet
  dat : o.data = .set es ep t
  good : ∀ e ∈ es.toList, TxtE P w e
  nd : (es.toList.map txtOf).Nodup
  mem : ∀ k, k ∈ ys ↔ k ∈ es.toList.map txtOf
  room : es.size < scanBound
  fits : t.fits es.size = true
  num : es.size = n
  ris : Ris t.place.toList
  led : w.params.followText "set-order" = true ∨ t.led = true
def SetXs (P : Program) (w : World) (h : Heap) (a : Addr) (ys : List PySem.Str) (n : Nat) : Prop := ∃ o es ep t, SetX P w h a ys n o es ep t
section
variable {P : Program} {w : World} {A : Around} {E : Value → Shared → Prop} {s : Shared} {a : Addr} {ys : List PySem.Str} {n : Nat} {h h' : Heap}
theorem SetXs.at (R : SetXs P w h a ys n) (k : ∀ o, h.get? a = some o → h'.get? a = some o) : SetXs P w h' a ys n := by
  obtain ⟨o, es, ep, t, r⟩ := R
  exact ⟨o, es, ep, t, k o r.at_, r.ex, r.dat, r.good, r.nd, r.mem, r.room, r.fits, r.num, r.ris, r.led⟩
theorem txt_elems {l : List (Int × Value)} (g : ∀ e ∈ l, TxtE P w e) : ElemsOf (mixKind P w) l := fun e he => by
  obtain ⟨x, tk, h1, h2⟩ := g e he
  exact ⟨⟨Sum.inr x, by rw [h1]; exact beq_self_eq_true x, h2⟩, by rw [h1]; rfl⟩
theorem txt_is {e : Int × Value} (g : TxtE P w e) (k : PySem.Str) : (mixKind P w).is (Sum.inr k) e.2 = true ↔ txtOf e = k := by
  obtain ⟨x, tk, h1, _⟩ := g
  unfold txtOf
  rw [h1]
  show ((x == k) = true) ↔ x = k
  exact beq_iff_eq
theorem txt_mem {l : List (Int × Value)} (g : ∀ e ∈ l, TxtE P w e) (k : PySem.Str) : k ∈ l.map txtOf ↔ ∃ e ∈ l, (mixKind P w).is (Sum.inr k) e.2 = true := by
  rw [List.mem_map]
  exact ⟨fun ⟨e, he, q⟩ => ⟨e, he, (txt_is (g e he) k).2 q⟩, fun ⟨e, he, q⟩ => ⟨e, he, (txt_is (g e he) k).1 q⟩⟩
/-- behind the laying: the table may grow -/
theorem setX_tail {g : Bool → Sem Unit} (hg : ∀ (b : Bool) (s₁ : Shared) (Q' : Unit → Shared → Prop), Q' () s₁ → wpAny (model P w) A (g b) Q' E s₁) {o : Obj} {es : Array (Int × Value)} {ep : Nat} {t : SetTable} (ho : s.heap.get? a = some o) (hex : o.ExactSet)
    (hd : o.data = .set es ep t) {e1 : Array (Int × Value)} {t2 : SetTable} {zs : List PySem.Str} (g1 : ∀ e ∈ e1.toList, TxtE P w e) (nd1 : (e1.toList.map txtOf).Nodup) (m1 : ∀ k, k ∈ zs ↔ k ∈ e1.toList.map txtOf) (hb1 : e1.size < scanBound) (hf2 : t2.fits e1.size = true)
    (hr : Ris t2.place.toList) (hl : w.params.followText "set-order" = true ∨ t2.led = true) {dum : Bool} {R : Option Bool → Shared → Prop} (hR : ∀ h', Heap.SameBut a s.heap h' → SetXs P w h' a zs e1.size → R (some true) { s with heap := h' }) :
    wpAny (model P w) A (do
        storeSet a e1 t2
        if (!dum && t2.tooFull) = true then do
            g (relayAll t2 e1 (SetTable.grown e1.size)).2.2
            storeSet a (relayAll t2 e1 (SetTable.grown e1.size)).1 (relayAll t2 e1 (SetTable.grown e1.size)).2.1
            pure (some true)
          else pure (some true)) R E s := by
  refine wpAny_bind (wpAny_storeSet_of ho hd ?_ (fits_of_scanBound hb1))
  have at1 := store_at (es' := e1) (t' := t2) ho hd
  have sb1 := Heap.SameBut.update s.heap a (Obj.putSet e1 t2)
  split
  · have pm := relayAll_perm t2 e1 (SetTable.grown e1.size)
    have f3 := relayAll_fits t2 e1 (SetTable.grown e1.size)
    have r3 := relayAll_ris t2 e1 (SetTable.grown e1.size)
    have l3 := relayAll_led t2 e1 (SetTable.grown e1.size)
    generalize relayAll t2 e1 (SetTable.grown e1.size) = Z at pm f3 r3 l3 ⊢
    obtain ⟨e2, t3, gave⟩ := Z
    dsimp only at pm f3 r3 l3 ⊢
    have hsz : e2.size = e1.size := by rw [← Array.length_toList, pm.length_eq, Array.length_toList]
    refine wpAny_bind (hg _ _ _ (wpAny_bind (wpAny_storeSet_of at1 rfl ?_ (fits_of_scanBound (by rw [hsz]; exact hb1)))))
    refine wpAny_pure (hR _ (sb1.trans (Heap.SameBut.update _ a _)) ⟨_, e2, _, t3, store_at (es' := e2) (t' := t3) at1 rfl, hex, rfl, fun e he => g1 e (pm.mem_iff.mp he), (pm.map txtOf).nodup_iff.mpr nd1, fun k => (m1 k).trans (pm.map txtOf).mem_iff.symm, by rw [hsz]; exact hb1, f3, hsz, r3, hl.imp id fun z => by rw [l3]; exact z⟩)
  · exact wpAny_pure (hR _ sb1 ⟨_, e1, _, t2, at1, hex, rfl, g1, nd1, m1, hb1, hf2, rfl, hr, hl⟩)
theorem setX_add {k : PySem.Str} {tk : Tok} {Q : Bool → Shared → Prop} (R : SetXs P w s.heap a ys n) (room : n + 1 < scanBound)
    (hQ : ∀ b h' n', Heap.SameBut a s.heap h' → SetXs P w h' a (ys ++ [k]) n' → n' ≤ n + 1 → Q b { s with heap := h' }) : wpAny (model P w) A (setAddHashed a (.str k tk) ((mixKind P w).hash (Sum.inr k))) Q E s := by
  obtain ⟨o, es, ep, t, R⟩ := R
  have ho := R.at_
  have hd := R.dat
  have hkey : (mixKind P w).is (Sum.inr k) (.str k tk) = true := beq_self_eq_true k
  have hsc : (Value.str k tk).scannable = true := rfl
  have hel : ElemsOf (mixKind P w) es.toList := txt_elems R.good
  unfold setAddHashed setAddHashedIn
  refine wpAny_holding (wpAny_bind (wpAny_setState_of ho hd R.fits ?_))
  dsimp only
  rw [byScan_of hsc R.room hel]
  simp only [↓reduceIte]
  unfold setAddByScan
  refine wpAny_bind (wpAny_bind (wpAny_rule (wpAny_bind (wpAny_setScan_of hkey ho hd R.fits hel ?_))))
  cases hfi : List.findIdx? (fun e => (mixKind P w).is (Sum.inr k) e.2) es.toList with
  | some j =>
    dsimp only
    obtain ⟨hj, pj, _⟩ := List.findIdx?_eq_some_iff_getElem.mp hfi
    have hk : k ∈ ys := (R.mem k).2 ((txt_mem (P := P) (w := w) R.good k).2 ⟨es.toList[j], List.getElem_mem hj, pj⟩)
    refine wpAny_pure (wpAny_pure ?_)
    exact hQ _ s.heap n (Heap.SameBut.refl a s.heap) ⟨o, es, ep, t, ho, R.ex, hd, R.good, R.nd, fun i => by
      rw [List.mem_append, List.mem_singleton, ← R.mem i]
      exact ⟨fun z => z.elim id (fun e => e ▸ hk), .inl⟩, R.room, R.fits, R.num, R.ris, R.led⟩ (Nat.le_succ _)
  | none =>
    dsimp only
    have hnk : k ∉ es.toList.map txtOf := fun z => by
      obtain ⟨e, he, q⟩ := (txt_mem (P := P) (w := w) R.good k).1 z
      have c := List.findIdx?_eq_none_iff.mp hfi e he
      rw [q] at c
      cases c
    have hgw : ∀ (b : Bool) {s₁ : Shared} {Q' : Unit → Shared → Prop}, Q' () s₁ → wpAny (model P w) A (match b with | true => rule "set.scan.the-table-gave-way" | false => pure ()) Q' E s₁ :=
      fun b s₁ Q' q => by cases b <;> first | exact wpAny_pure q | exact wpAny_rule q
    have pm := layNew_perm t es ((mixKind P w).hash (Sum.inr k)) (.str k tk)
    have f1 := layNew_fits t es ((mixKind P w).hash (Sum.inr k)) (.str k tk)
    have r1 := layNew_ris t es ((mixKind P w).hash (Sum.inr k)) (.str k tk) R.ris
    have l1 := layNew_led t es ((mixKind P w).hash (Sum.inr k)) (.str k tk)
    generalize layNew t es ((mixKind P w).hash (Sum.inr k)) (.str k tk) = Z at pm f1 r1 l1 ⊢
    obtain ⟨e1, t1, dum, gave⟩ := Z
    dsimp only at pm f1 r1 l1 ⊢
    rw [Array.toList_push] at pm
    have pc : e1.toList.Perm (((mixKind P w).hash (Sum.inr k), Value.str k tk) :: es.toList) := pm.trans (List.perm_append_singleton _ _)
    have pk : (e1.toList.map txtOf).Perm (k :: es.toList.map txtOf) := pc.map txtOf
    have g1 : ∀ e ∈ e1.toList, TxtE P w e := fun e he => by
      rcases List.mem_cons.mp (pc.mem_iff.mp he) with z | z
      · rw [z]; exact ⟨k, tk, rfl, rfl⟩
      · exact R.good e z
    have nd1 : (e1.toList.map txtOf).Nodup := pk.nodup_iff.mpr (List.nodup_cons.mpr ⟨hnk, R.nd⟩)
    have m1 : ∀ i, i ∈ ys ++ [k] ↔ i ∈ e1.toList.map txtOf := fun i => by
      rw [List.mem_append, List.mem_singleton, R.mem i, pk.mem_iff, List.mem_cons]
      exact Or.comm
    have hsz : e1.size = n + 1 := by rw [← Array.length_toList, pc.length_eq, List.length_cons, Array.length_toList, R.num]
    have hb1 : e1.size < scanBound := by rw [hsz]; exact room
    have hled : w.params.followText "set-order" = true ∨ t1.led = true := R.led.imp id fun z => by rw [l1]; exact z
    have fin : ∀ b h', Heap.SameBut a s.heap h' → SetXs P w h' a (ys ++ [k]) e1.size → Q b { s with heap := h' } := fun b h' sb r => hQ b h' _ sb r (Nat.le_of_eq hsz)
    refine wpAny_bind (hgw _ ?_)
    split
    · refine wpAny_bind ?_
      rw [hashByValue_scannable 8 hsc]
      refine wpAny_pure ?_
      refine setX_tail ?_ ho R.ex hd g1 nd1 m1 hb1 ?_ ?_ ?_ ?_
      · intro b s₁ Q' q; cases b <;> first | exact wpAny_pure q | exact wpAny_rule q
      · first | (split <;> first | exact f1 | exact SetTable.fits_plain_off f1) | exact f1
      · first | (split <;> exact r1) | exact r1
      · first | (split <;> exact hled) | exact hled
      · intro h' sb r; dsimp only; exact wpAny_pure (fin _ h' sb r)
    · refine wpAny_bind (wpAny_pure ?_)
      simp only [↓reduceIte]
      refine setX_tail ?_ ho R.ex hd g1 nd1 m1 hb1 f1 r1 hled ?_
      · intro b s₁ Q' q; cases b <;> first | exact wpAny_pure q | exact wpAny_rule q
      · intro h' sb r; dsimp only; exact wpAny_pure (fin _ h' sb r)
end

/-- a set under way: it holds the first i of ys -/
def PartX (P : Program) (w : World) (ys : List PySem.Str) (a : Addr) (h : Heap) (i : Nat) (c : Nat) : Prop := SetXs P w h a (ys.take i) c ∧ c ≤ i
section
variable {P : Program} {w : World} {A : Around} {E : Value → Shared → Prop} {s : Shared} {ys : List PySem.Str}
theorem PartX.at {a : Addr} {h h' : Heap} {i c : Nat} (p : PartX P w ys a h i c) (k : ∀ o, h.get? a = some o → h'.get? a = some o) : PartX P w ys a h' i c := ⟨p.1.at k, p.2⟩
theorem PartX.start {h : Heap} {a : Addr} (ho : h.get? a = some (so (!w.params.followText "set-order"))) : PartX P w ys a h 0 0 :=
  ⟨⟨_, #[], 0, _, ho, ⟨rfl, rfl, rfl⟩, rfl, (fun e he => by simp at he), (by simp), (fun k => by simp), (by decide), (by rfl), rfl, List.Pairwise.nil, by
    show _ ∨ (!w.params.followText "set-order") = true
    cases w.params.followText "set-order"
    · exact .inr rfl
    · exact .inl rfl⟩, Nat.le_refl _⟩
theorem code_setX1 (x : Value) {Q₁ : Value → Shared → Prop} (h : Q₁ (.ref s.heap.objs.size) { s with heap := s.heap.push (so (!w.params.followText "set-order")) }) :
    codeAny (model P w) A (.call (.builtin "set.__new__") ⟨[.type "set", x], []⟩) (wants Q₁ E) s := by
  refine codeAny_of_tree ?_
  show wpAny _ A.in1 (checkBuiltinCall "set.__new__" ⟨[.type "set", x], []⟩ >>= fun _ => again (.builtin "set.__new__" ⟨[.type "set", x], []⟩)) _ _ s
  refine wpAny_bind (wpAny_of_eq (PySem.F.newCall_set_1 x) (wpAny_pure ⟨plainId_quiet PySem.F.plain_set_new _, codeAny_builtin PySem.F.entry_set_new ?_⟩))
  rw [Around.under_plainId PySem.F.plain_set_new _]
  unfold Builtin.«set.__new__» Builtin.Frozenset.newClass
  have hsub := sub_set_self
  obtain ⟨hp, g, d, tk, os⟩ := s
  dsimp only
  wp_walk
  refine wpAny_askSetting (wpAny_pure ?_)
  dsimp only
  simp only [newObj]
  exact wpAny_bind (wpAny_alloc (wpAny_pure (wpAny_pure h)))
theorem fillX {I : Addr} {fp wr : List Addr} {G : Array GenState → Array GenState → Prop} {n : Nat} {Pv : Nat → Value → Prop} {St : Nat → Shared → Prop} {R : Result → Shared → Prop} (W : WalksS P w A.in1 I fp wr G n Pv St)
    {a : Addr} (ha : a ∉ fp) (hn : n = ys.length) (hb : n + 1 < scanBound) (hv : ∀ i v, Pv i v → ∃ y t, ys[i]? = some y ∧ v = .str y t) (fin : ∀ s' c, Moved (a :: wr) G s s' → PartX P w ys a s'.heap n c → R (.ok (.ret .none)) s') :
    ∀ (k i c : Nat) (s1 : Shared), i + k = n → St i s1 → PartX P w ys a s1.heap i c → Moved (a :: wr) G s s1 → codeAny (model P w) A (.builtin "set.update.loop" ⟨[.ref a, .ref I], []⟩) R s1
  | 0, i, c, s1, e, st, p, mv => codeAny_builtin F.entry_set_update_loop <| by
    cases (Nat.add_zero i).symm.trans e
    rw [Around.under_plainId F.plain_set_update_loop _]
    refine wpAny_bind (m := pyNext (.ref I)) (W.done s1 _ _ st fun s2 hm => wpAny_pure ?_)
    exact fin s2 c (mv.trans W.gtrans (hm.mono fun b z => .tail _ z)) (p.at fun o => hm.heap a o fun z => ha (W.sub _ z))
  | k + 1, i, c, s1, e, st, p, mv => codeAny_builtin F.entry_set_update_loop <| by
    rw [Around.under_plainId F.plain_set_update_loop _]
    refine wpAny_bind (m := pyNext (.ref I)) (W.item i s1 _ _ (by omega) st fun v s2 pv st2 hm => ?_)
    obtain ⟨y, t, hy, ev⟩ := hv i v pv
    subst ev
    have p2 := p.at fun o => hm.heap a o fun z => ha (W.sub _ z)
    refine wpAny_bind (m := holding [Value.str y t] (setAdd a (.str y t))) (wpAny_holding (wpAny_holding ?_))
    refine wpAny_bind ((mixKind P w).pyHash (k := Sum.inr y) (beq_self_eq_true y) ?_)
    refine setX_add (s := { s2 with toks := s2.toks + 1 }) p2.1 (by have := p2.2; omega) fun bb h' c' but so' le' => wpAny_pure ?_
    have p3 : PartX P w ys a h' (i + 1) c' := ⟨by rw [List.take_add_one, hy]; exact so', by have := p2.2; omega⟩
    have far : ∀ b, b ≠ a → ∀ o, s2.heap.get? b = some o → h'.get? b = some o := fun b ne o z => (but.2 b ne).trans z
    refine ⟨plainId_quiet F.plain_set_update_loop _, fillX W ha hn hb hv fin k (i + 1) c' _ (by omega) ?_ p3 ?_⟩
    · exact W.frame _ s2 _ _ st2 (Nat.le_succ _) fun b hb o z => far b (fun q => ha (by rw [← q]; exact hb)) o z
    · exact mv.trans W.gtrans (((hm.mono fun b z => .tail _ z)).then_heap (Nat.le_succ _) fun b o hb z => far b (fun q => hb (by rw [q]; exact .head _)) o z)
set_option maxHeartbeats 6400000 in
theorem call_setX {l : Addr} {its : Array Value} {Q : Value → Shared → Prop} (hh : A.handled = none) (hl : s.heap.IsList l its) (hv : ∀ (i : Nat) v, its[i]? = some v → ∃ y t, ys[i]? = some y ∧ v = .str y t) (hn : its.size = ys.length) (hb : its.size + 1 < scanBound)
    (fin : ∀ (h' : Heap) (tk c : Nat), PartX P w ys s.heap.objs.size h' ys.length c → (∀ b o, s.heap.get? b = some o → h'.get? b = some o) → Q (.ref s.heap.objs.size) { s with heap := h', toks := tk }) :
    wpAny (model P w) A (call (.type "set") [.ref l]) Q E s := by
  have F0 := PySem.F.called_set
  obtain ⟨cc, tl, m1⟩ := F0.mro
  have m2 := F0.made
  have m3 := F0.sub
  have m4 := F0.notType
  have m5 := F0.canCreate
  have m6 := PySem.F.typeCall_set_1 (.ref l)
  refine wpAny_call <| codeAny_of_tree <| wpAny_pure ⟨Code.quiet_builtin _ (by decide +kernel), codeAny_builtin PySem.F.entry_type_call <| by
    rw [Around.under_plain (weight_type_call_type "set" [.ref l] []) rfl]
    repeat (any_goals (first | assumption | wp_step))
    refine codeAny_mono (code_setX1 (.ref l) (E := E) (Q₁ := fun v s1 => v = .ref s.heap.objs.size ∧ s1 = { s with heap := s.heap.push (so (!w.params.followText "set-order")) }) ⟨rfl, rfl⟩) ?_
    intro r s1 hr
    match r, hr with
    | .error e, hr => exact hr
    | .ok (.ret v), ⟨e1, e2⟩ =>
      subst e1; subst e2
      have at0 : (s.heap.push (so (!w.params.followText "set-order"))).get? s.heap.objs.size = some (so (!w.params.followText "set-order")) := Heap.get?_push_size _ rfl
      have ty : Shared.TypeIs { s with heap := s.heap.push (so (!w.params.followText "set-order")) } (.ref s.heap.objs.size) "set" := ⟨_, at0, rfl⟩
      have n1 := F0.init.lookup
      have n2 := F0.init.bind (.ref s.heap.objs.size)
      repeat (any_goals (first | assumption | wp_step))
      refine codeAny_mono (codeAny_call_builtin (R := wants (fun r s2 => r = .none ∧ ∃ h' tk c, s2 = { s with heap := h', toks := tk } ∧ PartX P w ys s.heap.objs.size h' ys.length c ∧ ∀ b o, s.heap.get? b = some o → h'.get? b = some o) E) F0.init.plain PySem.F.entry_set_init (check_set_init_1 ty ?_)) ?_
      rotate_left 1
      · intro r2 s2 hr2
        match r2, hr2 with
        | .error e, hr2 => exact hr2
        | .ok (.ret r), ⟨e1, h', tk, c, e2, pt, kp⟩ =>
          subst e1; subst e2
          repeat (any_goals (first | assumption | wp_step))
          exact fin h' _ c pt kp
      · have pre : ∀ b o, s.heap.get? b = some o → (s.heap.push (so (!w.params.followText "set-order"))).get? b = some o := fun b o z => Heap.get?_push_of_some _ z
        obtain ⟨ob, hob, hc, nn, hd⟩ := hl
        obtain ⟨c0, d0, dat, sl0⟩ := ob
        cases hc; cases hd
        have hob1 := pre _ _ hob
        have il : (s.heap.push (so (!w.params.followText "set-order"))).IsList l its := ⟨_, hob1, rfl, nn, rfl⟩
        have q1 := PySem.F.sub_list_set
        have q2 := PySem.F.sub_list_frozenset
        have q3 : (Value.type "list" == Value.type "dict") = false := by decide
        unfold Builtin.«set.__init__» noKeywords Builtin.Frozenset.updateFrom
        generalize hPI : pyIter = PI
        wp_walk
        cases hPI
        refine wpAny_pyIter_list il (wpAny_bind (wpAny_runValue ?_))
        have z1 : (s.heap.push (so (!w.params.followText "set-order"))).objs.size = s.heap.objs.size + 1 := Heap.size_push ..
        have z2 : l < s.heap.objs.size := Heap.lt_size hob
        have ne : l ≠ (s.heap.push (so (!w.params.followText "set-order"))).objs.size := by rw [z1]; exact Nat.ne_of_lt (Nat.lt_succ_of_lt z2)
        have out : s.heap.objs.size ∉ [(s.heap.push (so (!w.params.followText "set-order"))).objs.size, l] := by
          rw [z1]; simp only [List.mem_cons, List.not_mem_nil, or_false, not_or]; exact ⟨Nat.ne_of_lt (Nat.lt_succ_self _), Nat.ne_of_gt z2⟩
        have hd3 : A.in1.in1.in1.handled = none := by simp [hh]
        refine fillX (ys := ys) ((Walks.list hd3 _ l ne its).toS) out hn hb hv ?_ its.size 0 0 _ (Nat.zero_add _) ⟨⟨_, Heap.get?_push_size _ rfl, rfl, rfl⟩, il.push _⟩ (PartX.start (Heap.get?_push_of_some _ at0)) (Moved.refl fun _ => rfl)
        rintro ⟨h', g', d', tk', os'⟩ c mv pt
        cases show g' = s.gens from mv.gens
        cases show d' = s.drawn from mv.drawn
        cases show os' = s.os from mv.os
        refine wpAny_pure (wpAny_pure ⟨rfl, h', tk', c, rfl, hn ▸ pt, fun b o z => ?_⟩)
        have lt : b < s.heap.objs.size := Heap.lt_size z
        refine mv.heap b o ?_ (Heap.get?_push_of_some _ (pre b o z))
        rw [z1]; simp only [List.mem_cons, List.not_mem_nil, or_false, not_or]; exact ⟨Nat.ne_of_lt lt, Nat.ne_of_lt (Nat.lt_succ_of_lt lt)⟩
  ⟩
end
section
variable {X : Cx}
/-- the set of texts at p: its members are those of ys -/
def SetXO (P : Program) (w : World) (p : Addr) (ys : List PySem.Str) (n : Nat) : HO := .ext fun h => SetXs P w h p ys n
def rSetX (K : PySem.W.Frag) (P : Program) (w : World) : List V → Hp → VK → Prop := fun xs H Q => ∃ (l : Addr) (ys : List PySem.Str), xs = [.ref l] ∧ SqL K H l (ys.map V.str) ∧ ys.length < 64 ∧ ∀ (p : Addr) (n : Nat), H p = none → n ≤ ys.length → Q (.ref p) (upd H p (SetXO P w p ys n))
theorem setX_new {P : Program} {w : World} {H : Hp} {h : Heap} {a : Addr} {ys : List PySem.Str} {n : Nat} (R : SetXs P w h a ys n) : ObjOk P w H h a (SetXO P w a ys n) := by
  have ⟨o, _, _, _, r⟩ := R
  exact ⟨R, ⟨o, r.at_⟩, fun h1 h2 p k => SetXs.at p k⟩
theorem cr_setX (hc : X.calm = true) : CallR X (.type "set") (rSetX X.K X.prog X.w) := by
  intro pins s σ H xs us Q I r ⟨l, ys, e, hl, h64, q⟩
  subst e
  obtain ⟨u, eu, ru⟩ := r.one
  subst eu; cases ru
  obtain ⟨its, rv, pl, hz⟩ := I.list hl
  have hlen : its.toArray.size = ys.length := by rw [List.size_toArray, ← rv.length, List.length_map]
  refine call_setX (ys := ys) (I.ok.hd hc) pl.isList (fun i v hv => ?_) hlen (by rw [hlen]; unfold scanBound; omega) fun h' tk c pt kp => ?_
  · have hv' : its[i]? = some v := by simpa using hv
    cases hy : ys[i]? with
    | none => rw [rv.none_of (by rw [List.getElem?_map, hy]; rfl)] at hv'; cases hv'
    | some y =>
      obtain ⟨v', h1, ⟨t, h2⟩⟩ := rv.get (i := i) (x := .str y) (by rw [List.getElem?_map, hy]; rfl)
      rw [hv'] at h1; cases h1
      exact ⟨y, t, rfl, h2⟩
  · have e1 : ys.take ys.length = ys := List.take_length
    have po := pt.1
    rw [e1] at po
    exact ⟨.ref _, upd H s.heap.objs.size (SetXO X.prog X.w s.heap.objs.size ys c), I.laid (t' := tk) kp (Nat.le_refl _) (setX_new po), rfl, q _ c (I.hok.fresh (Nat.le_refl _)) pt.2⟩
end
end Mc
namespace Mc
open PySem L2 PySem.Spec PyProof.Rows
/-! ### sorted(a set of texts), sorted(a tuple of texts) -/
section
variable {P : Program} {w : World} {A : Around} {E : Value → Shared → Prop} {s : Shared} {a : Addr} {ys : List PySem.Str} {n : Nat}
theorem strs_txt : ∀ (l : List Value), (∀ v ∈ l, ∃ x tk, v = Value.str x tk) → ∃ xs, StrsAre l xs ∧ xs = l.map fun v => txtOf (0, v)
  | [], _ => ⟨[], .nil, rfl⟩
  | v :: l, h => by
    obtain ⟨x, tk, rfl⟩ := h v List.mem_cons_self
    obtain ⟨xs, h1, h2⟩ := strs_txt l fun u hu => h u (List.mem_cons_of_mem _ hu)
    exact ⟨x :: xs, .cons x tk h1, by rw [List.map_cons, ← h2]; rfl⟩
/-- the tail of sorted: the new list is sorted -/
theorem srt_tail {vs : List Value} {xs : List PySem.Str} {Q : Value → Shared → Prop} (hS : StrsAre vs xs) (h64 : xs.length < 64)
    (fin : ∀ (h' : Heap) (p : Addr) (out : List Value) (c : Nat) (zs : List PySem.Str), (∀ b o, s.heap.get? b = some o → h'.get? b = some o) → s.heap.objs.size ≤ p → h'.get? p = some (seqObj "list" out.toArray c) → StrsAre out zs → zs.Perm xs → sortedS zs = true → Q (.ref p) { s with heap := h' }) :
    wpAny (model P w) A (newList vs >>= fun l => holding [l] (call (.builtin "list.sort") [l] []) >>= fun _ => ret l) (fun f s' => ∃ v, f = Fin.done (.ret v) ∧ Q v s') E s := by
  have hl : vs.length = xs.length := hS.len_eq
  refine wpAny_bind (wpAny_newList ?_ (by rw [hl, sizeLine_eq]; omega))
  have hoL : (s.heap.push (seqObj "list" vs.toArray 0)).get? s.heap.objs.size = some (seqObj "list" vs.toArray 0) := Heap.get?_push_size _ rfl
  refine wpAny_bind (wpAny_holding (wpAny_call_entry slot_list_sort ⟨_, hoL, rfl⟩ entry_list_sort
    (list_sort_treeK strKind_oneLt (s := { s with heap := s.heap.push (seqObj "list" vs.toArray 0) }) hoL hS.keysOf (fun v₁ v₂ rest e => keyKind_strs (by rw [← e]; exact hS)) (by rw [hl]; exact h64) fun st' hp hs => ⟨_, rfl, ?_⟩) (args_list_sort _)))
  obtain ⟨zs, g1, g2, g3⟩ := sorted_out_str hS hp hs
  obtain ⟨c, hc⟩ := sortedHeap_at (vs := vs) (out := (arrOf st').map (·.2)) hoL
  refine wpAny_pure ⟨_, rfl, fin _ s.heap.objs.size ((arrOf st').map (·.2)).toList c zs (fun b o e => ?_) (Nat.le_refl _) (by rw [Array.toArray_toList]; exact hc) g1 g2 g3⟩
  have hb := Heap.lt_size e
  rw [sortedHeap_old (Nat.ne_of_lt hb) (by rw [size_push']; exact Nat.lt_succ_of_lt hb)]
  exact Heap.get?_push_of_some _ e
end
section
variable {X : Cx}
def rSrtX (P : Program) (w : World) : List V → Hp → VK → Prop := fun xs H Q => ∃ (a : Addr) (ys : List PySem.Str) (n : Nat), xs = [.ref a] ∧ H a = some (SetXO P w a ys n) ∧ n < 64 ∧
  ∀ (zs : List PySem.Str) (p : Addr), zs.Nodup → (∀ x, x ∈ zs ↔ x ∈ ys) → sortedS zs = true → H p = none → Q (.ref p) (upd H p (.lst (zs.map V.str)))
theorem cr_srtX (hc : X.calm = true) : CallR X (.builtin "sorted") (rSrtX X.prog X.w) := by
  intro pins s σ H xs us Q I r h
  obtain ⟨a, ys, n, rfl, ha, h64, q⟩ := h
  obtain rfl := Vals.ref1 r
  obtain ⟨o, es, ep, t, R⟩ := ((I.hok a _ ha).1 : SetXs X.prog X.w s.heap a ys n)
  refine Calls.call_function_entry kind_sorted plain_sorted entry_sorted (args_sorted1 _) ?_
  unfold Builtin.«sorted»
  refine wpAny_bind (m := checkCount "sorted" 1 1 _) (wpAny_pure ?_)
  refine wpAny_bind (collect_set (A := X.A.in1) (I.ok.hd hc) ⟨o, R.at_, R.ex.1, R.dat⟩ R.fits R.room R.ris R.led fun s1 vs k1 hz g1 o1 pm => ?_)
  have hvt : ∀ v ∈ vs, ∃ x tk, v = Value.str x tk := fun v hv => by
    obtain ⟨e, he, q⟩ := List.mem_map.mp (pm.mem_iff.mp hv)
    obtain ⟨x, tk, h1, _⟩ := R.good e he
    exact ⟨x, tk, by rw [← q]; exact h1⟩
  obtain ⟨xs, hS, ex⟩ := strs_txt vs hvt
  have pk : xs.Perm (es.toList.map txtOf) := by
    have z := pm.map fun v => txtOf (0, v)
    rw [List.map_map] at z
    rw [ex]
    exact z
  have hlx : xs.length = n := by rw [pk.length_eq, List.length_map, Array.length_toList]; exact R.num
  refine wpAny_mono (srt_tail (A := X.A.in1) (Q := EP X pins σ Q) hS (by rw [hlx]; exact h64) fun h' p out c zs k hp hg hz' pz sz => ?_) (fun _ _ z => z) fun _ _ z => z
  have hlen : (zs.map V.str).length ≤ sizeLine := by rw [List.length_map, pz.length_eq, hlx, sizeLine_eq]; omega
  have hp' : s.heap.objs.size ≤ p := Nat.le_trans hz hp
  have kk : ∀ b u, s.heap.get? b = some u → h'.get? b = some u := fun b u z => k b u (k1 b u z)
  have hn : H p = none := I.hok.fresh hp'
  have J : Inv X pins σ (upd H p (.lst (zs.map V.str))) { s with heap := h', gens := s1.gens, drawn := s1.drawn, toks := s1.toks } :=
    I.call (ch := []) (Un.laid kk hp' hn) (I.hok.laid kk hp' ⟨hlen, out, c, vals_of_strs hz', hg⟩) (by rw [g1]; exact I.bare) (fun _ z => nomatch z)
  have e : { s1 with heap := h' } = { s with heap := h', gens := s1.gens, drawn := s1.drawn, toks := s1.toks } := by
    cases s1
    cases s
    cases o1
    rfl
  rw [e]
  refine ⟨.ref p, _, J, rfl, q zs p (((pz.trans pk).nodup_iff).mpr R.nd) (fun x => ?_) sz hn⟩
  rw [(pz.trans pk).mem_iff, R.mem x]
/-- sorted(t), t a tuple of texts -/
def rSrtT (K : PySem.W.Frag) : List V → Hp → VK → Prop := fun vs H Q => ∃ (a : Addr) (xs : List PySem.Str), vs = [V.ref a] ∧ SqT K H a (xs.map V.str) ∧ xs.length < 64 ∧ ∀ (ys : List PySem.Str) (p : Addr), ys.Perm xs → sortedS ys = true → H p = none → Q (.ref p) (upd H p (.lst (ys.map V.str)))
theorem cr_srtT : CallR X (.builtin "sorted") (rSrtT X.K) := by
  intro pins s σ H vs us Q I r h
  obtain ⟨a, xs, rfl, ha, h64, q⟩ := h
  obtain rfl := Vals.ref1 r
  obtain ⟨its, rv, pl, hz⟩ := I.tuple ha
  obtain ⟨ob, ho, hcl, nn, hdt⟩ := pl
  have hS : StrsAre its xs := strs_of_vals rv
  have hl : its.length = xs.length := hS.len_eq
  refine Calls.call_function_entry kind_sorted plain_sorted entry_sorted (args_sorted1 _) ?_
  unfold Builtin.«sorted»
  refine wpAny_bind (m := checkCount "sorted" 1 1 _) (wpAny_pure ?_)
  refine wpAny_bind (collect_tupE ho hcl hdt (by rw [hl, sizeLine_eq]; omega) ?_)
  have k' : ∀ b o, s.heap.get? b = some o → ((s.heap.push (seqObj "list" #[] 0)).update s.heap.objs.size (Obj.mapSeq (· ++ its.toArray))).get? b = some o := fun b o z => by
    rw [Heap.get?_update_ne _ _ _ _ (Nat.ne_of_lt (Heap.lt_size z))]
    exact Heap.get?_push_of_some _ z
  have I1 : Inv X pins σ H { s with heap := (s.heap.push (seqObj "list" #[] 0)).update s.heap.objs.size (Obj.mapSeq (· ++ its.toArray)) } := I.kept (t' := s.toks) k'
  refine wpAny_mono (srt_tail (A := X.A.in1) (Q := EP X pins σ Q) hS h64 fun h' p out c zs k hp hg hz' pz sz => ?_) (fun _ _ z => z) fun _ _ z => z
  have hlen : (zs.map V.str).length ≤ sizeLine := by rw [List.length_map, pz.length_eq, sizeLine_eq]; omega
  exact ⟨.ref p, upd H p (.lst (zs.map V.str)), I1.laid (t' := s.toks) k hp ⟨hlen, out, c, vals_of_strs hz', hg⟩, rfl, q zs p pz sz (I1.hok.fresh hp)⟩
end
end Mc
namespace Mc
open PySem L2 PySem.Spec PyProof.Rows PpSet
/-! ### set comprehensions, of one clause or two, over any kind of set that can be told -/
/-- a kind of set under way: what is told of it, the empty one, what an item asks, what comes of it -/
structure SK where
  β : Type
  O : Program → World → Addr → β → HO
  b0 : β
  pre : V → β → Prop
  nxt : V → β → β → Prop
structure SKOk (S : SK) : Prop where
  new : ∀ (P : Program) (w : World) (H : Hp) (h : Heap), ObjOk P w H (h.push (so (!w.params.followText "set-order"))) h.objs.size (S.O P w h.objs.size S.b0)
  add : ∀ (X : Cx) (pins : List (Addr × Obj)) (σ : L2.St) (H : Hp) (s : Shared) (E : Value → Shared → Prop) (D : Addr) (b : S.β) (y : V) (v : Value) (Q : Value → Shared → Prop), Inv X pins σ H s → H D = some (S.O X.prog X.w D b) → S.pre y b → RelV y v →
    (∀ s' b', S.nxt y b b' → Inv X pins σ (upd H D (S.O X.prog X.w D b')) s' → Q .none s') → wpAny (model X.prog X.w) X.A (call (.builtin "set.add") [.ref D, v]) Q E s
/-- sets of texts -/
abbrev skT : SK := ⟨List PySem.Str × Nat, fun P w D b => SetXO P w D b.1 b.2, ([], 0), fun y b => (∃ x, y = .str x) ∧ b.2 < 1000, fun y b b' => (∃ x, y = .str x ∧ b'.1 = b.1 ++ [x]) ∧ b'.2 ≤ b.2 + 1⟩
theorem skT_ok : SKOk skT := by
  refine ⟨fun P w H h => ?_, fun X pins σ H s E D b y v Q I hD hp rv hQ => ?_⟩
  · have at0 : (h.push (so (!w.params.followText "set-order"))).get? h.objs.size = some (so (!w.params.followText "set-order")) := Heap.get?_push_size _ rfl
    exact setX_new (PartX.start (ys := []) at0).1
  · obtain ⟨⟨x, rfl⟩, hn⟩ := hp
    obtain ⟨t, rfl⟩ := rv
    have R : SetXs X.prog X.w s.heap D b.1 b.2 := (I.hok D _ hD).1
    obtain ⟨o, es, ep, tb, R1⟩ := id R
    refine wpAny_call_entry F.slot_set_add (s := s) ⟨o, R1.at_, R1.ex.1⟩ F.entry_set_add ?_ (F.args_set_add_2 _ _)
    unfold Builtin.«set.add» Builtin.Frozenset.oneOther
    simp only [List.isEmpty_nil, bind_assoc]
    unfold Builtin.Frozenset.addrOf setAdd
    refine wpAny_bind (wpAny_pure ?_)
    try dsimp only
    refine wpAny_bind (wpAny_pure ?_)
    try dsimp only
    refine wpAny_bind (wpAny_holding (wpAny_bind ((mixKind X.prog X.w).pyHash (k := Sum.inr x) (beq_self_eq_true x) ?_)))
    refine setX_add (s := { s with toks := s.toks + 1 }) R (by unfold scanBound; omega) fun bb h' n' but so' le' => ?_
    show wpAny _ _ (ret Value.none) _ _ _
    obtain ⟨o', _, _, _, R2⟩ := id so'
    exact wpAny_pure ⟨_, rfl, hQ _ (b.1 ++ [x], n') ⟨⟨x, rfl, rfl⟩, le'⟩ (I.write (e := D) (t' := s.toks + 1) (by rw [hD]; trivial) (.inl rfl) (fun c u hc hu => (but.2 c hc).trans hu) ⟨o', R2.at_⟩ (setX_new so'))⟩
/-! ### the loops' turns -/
section
variable {P : Program} {w : World} {A : Around} {R : Result → Shared → Prop} {s : Shared} {elt t0 i0 t1 i1 : Expr} {fs fs1 : List Expr} {sc : Scope} {pos : Pos} {it acc : Value} {env : Env}
/-- the clauses' tests, one behind the other -/
abbrev allT (fs : List Expr) (env : Env) : Sem Bool := forIn fs true fun c r => if r = true then do let ok ← isTrue c env (eval c env); pure (ForInStep.yield ok) else pure (ForInStep.yield r)
/-- what a turn's item asks: stored, tested, and the rest -/
def TurnOf (P : Program) (w : World) (A : Around) (tg : Expr) (fs : List Expr) (it : Value) (env : Env) (yes no : Shared → Prop) (E : Value → Shared → Prop) (v : Value) (s : Shared) : Prop :=
  wpAny (model P w) A (letOwnedTupleGo tg it v) (fun _ a => wpAny (model P w) A (assign tg env v) (fun _ b => wpAny (model P w) A (allT fs env) (fun ok c => if ok = true then yes c else no c) E b) E a) E s
abbrev E2 (P : Program) (w : World) (A : Around) (env : Env) (R : Result → Shared → Prop) : Value → Shared → Prop := notedBy (model P w) A env fun e s' => R (.error e) s'
theorem turn_outer (el : Expr) : compTurn (.SetComp el [⟨t0, i0, fs, 0⟩, ⟨t1, i1, fs1, 0⟩] sc pos) 0 it acc env = (do
      standAt i0.pos
      match ← pyNext it with
      | none => pure (.done .next)
      | some v =>
        letOwnedTupleGo t0 it v
        assign t0 env v
        let mut ok := true
        for c in fs do
          if ok then ok ← isTrue c env (eval c env)
        if ok then
          let x ← eval i1 env
          standAt i1.pos
          let x ← foldedSetIterable i1 env x
          let _ ← runOwn (.compStart (.SetComp el [⟨t0, i0, fs, 0⟩, ⟨t1, i1, fs1, 0⟩] sc pos) 1 (← holding [x] (pyIter x)) acc env) env
        again (.compLoop (.SetComp el [⟨t0, i0, fs, 0⟩, ⟨t1, i1, fs1, 0⟩] sc pos) 0 it acc env)) := by rfl
theorem turn_inner (g0 : Comprehension) : compTurn (.SetComp elt [g0, ⟨t1, i1, fs1, 0⟩] sc pos) 1 it acc env = (do
      standAt i1.pos
      match ← pyNext it with
      | none => pure (.done .next)
      | some v =>
        letOwnedTupleGo t1 it v
        assign t1 env v
        let mut ok := true
        for c in fs1 do
          if ok then ok ← isTrue c env (eval c env)
        if ok then
          (do let v ← eval elt env; standAt elt.pos; let _ ← call (.builtin "set.add") [acc, v])
        again (.compLoop (.SetComp elt [g0, ⟨t1, i1, fs1, 0⟩] sc pos) 1 it acc env)) := by rfl
theorem loop_outer (hs : ∀ x, foldedSetIterable i1 env x = pure x) (J : Nat → Shared → Prop)
    (turn : ∀ n a, J n a → wpAny (model P w) A (pyNext it) (fun r b => match r with
      | none => R (.ok .next) b
      | some v => TurnOf P w A t0 fs it env (fun c => wpAny (model P w) A (eval i1 env) (fun x d => wpAny (model P w) A (pyIter x) (fun j e => codeAny (model P w) A (.compStart (.SetComp elt [⟨t0, i0, fs, 0⟩, ⟨t1, i1, fs1, 0⟩] sc pos) 1 j acc env) (fun r f => match r with
          | .ok _ => ∃ m, m < n ∧ J m f
          | .error _ => False) e) (E2 P w A env R) d) (E2 P w A env R) c) (fun c => ∃ m, m < n ∧ J m c) (E2 P w A env R) v b) (E2 P w A env R) a) (n : Nat) (h : J n s) :
    codeAny (model P w) A (.compLoop (.SetComp elt [⟨t0, i0, fs, 0⟩, ⟨t1, i1, fs1, 0⟩] sc pos) 0 it acc env) R s := codeAny_loop rfl J (fun n a ha => by
  change wpAny (model P w) A ((compTurn (.SetComp elt [⟨t0, i0, fs, 0⟩, ⟨t1, i1, fs1, 0⟩] sc pos) 0 it acc env).onRaise (fun x => do noteFrame x env; theTreesLotGoes x)) _ _ a
  refine wpAny_noted ?_
  rw [turn_outer]
  refine wpAny_bind (wpAny_standAt (wpAny_bind (wpAny_mono (turn n a ha) (fun r b hb => ?_) fun _ _ z => z)))
  rcases r with _ | v
  · exact wpAny_pure hb
  · refine wpAny_bind (wpAny_mono hb (fun _ c hc => wpAny_bind (wpAny_mono hc (fun _ d hd => wpAny_bind (wpAny_mono hd (fun ok e he => ?_) fun _ _ z => z)) fun _ _ z => z)) fun _ _ z => z)
    rcases ok with _ | _
    · exact wpAny_pure ⟨rfl, he⟩
    · refine wpAny_bind (wpAny_mono he (fun x f hf => wpAny_bind (wpAny_standAt (wpAny_bind (wpAny_of_eq (hs x) (wpAny_bind (wpAny_holding (wpAny_mono hf (fun j g hg => ?_) fun _ _ z => z))))))) fun _ _ z => z)
      refine wpAny_bind (wpAny_runOwn ?_)
      rw [Around.mark_none]
      refine codeAny_mono hg fun r' k hk => ?_
      rcases r' with e | f'
      · exact hk.elim
      · first | exact wpAny_pure ⟨rfl, hk⟩ | exact wpAny_bind (wpAny_pure (wpAny_pure ⟨rfl, hk⟩))) n h
theorem loop_inner {g0 : Comprehension} (J : Nat → Shared → Prop)
    (turn : ∀ n a, J n a → wpAny (model P w) A (pyNext it) (fun r b => match r with
      | none => R (.ok .next) b
      | some v => TurnOf P w A t1 fs1 it env (fun c => wpAny (model P w) A (eval elt env) (fun x d => wpAny (model P w) A (call (.builtin "set.add") [acc, x]) (fun _ e => ∃ m, m < n ∧ J m e) (E2 P w A env R) d) (E2 P w A env R) c) (fun c => ∃ m, m < n ∧ J m c) (E2 P w A env R) v b) (E2 P w A env R) a) (n : Nat) (h : J n s) :
    codeAny (model P w) A (.compLoop (.SetComp elt [g0, ⟨t1, i1, fs1, 0⟩] sc pos) 1 it acc env) R s := codeAny_loop rfl J (fun n a ha => by
  change wpAny (model P w) A ((compTurn (.SetComp elt [g0, ⟨t1, i1, fs1, 0⟩] sc pos) 1 it acc env).onRaise (fun x => do noteFrame x env; theTreesLotGoes x)) _ _ a
  refine wpAny_noted ?_
  rw [turn_inner]
  refine wpAny_bind (wpAny_standAt (wpAny_bind (wpAny_mono (turn n a ha) (fun r b hb => ?_) fun _ _ z => z)))
  rcases r with _ | v
  · exact wpAny_pure hb
  · refine wpAny_bind (wpAny_mono hb (fun _ c hc => wpAny_bind (wpAny_mono hc (fun _ d hd => wpAny_bind (wpAny_mono hd (fun ok e he => ?_) fun _ _ z => z)) fun _ _ z => z)) fun _ _ z => z)
    rcases ok with _ | _
    · exact wpAny_pure ⟨rfl, he⟩
    · exact wpAny_bind (wpAny_bind (wpAny_mono he (fun x f hf => wpAny_bind (wpAny_standAt (wpAny_bind (wpAny_mono hf (fun _ g hg => wpAny_pure (wpAny_pure ⟨rfl, hg⟩)) fun _ _ z => z)))) fun _ _ z => z))) n h
/-- the second clause begins -/
theorem start_inner {g0 : Comprehension} (a : codeAny (model P w) A (.compLoop (.SetComp elt [g0, ⟨t1, i1, fs1, 0⟩] sc pos) 1 it acc env) R s)
    (b : wpAny (model P w) A (pyIter it) (fun j f => codeAny (model P w) A (.compLoop (.SetComp elt [g0, ⟨t1, i1, fs1, 0⟩] sc pos) 1 j acc env) R f) (E2 P w A env R) s) :
    codeAny (model P w) A (.compStart (.SetComp elt [g0, ⟨t1, i1, fs1, 0⟩] sc pos) 1 it acc env) R s := codeAny_of_tree <| by
  change wpAny (model P w) A ((compStart (.SetComp elt [g0, ⟨t1, i1, fs1, 0⟩] sc pos) 1 it acc env).onRaise (fun x => do noteFrame x env; standAt theWindowsPlace)) _ _ s
  refine wpAny_notedAt ?_
  unfold compStart
  change wpAny _ _ (ask >>= _) _ _ s
  refine wpAny_bind (wpAny_askSetting (wpAny_ite ?_))
  split
  · first | exact wpAny_bind (wpAny_pure (wpAny_pure ⟨rfl, a⟩)) | exact wpAny_pure ⟨rfl, a⟩
  · first
      | exact wpAny_bind (wpAny_rule (wpAny_bind (wpAny_standAt (wpAny_bind (wpAny_mono b (fun j f hf => wpAny_pure ⟨rfl, hf⟩) fun _ _ z => z)))))
      | (refine wpAny_bind (wpAny_rule ?_); change wpAny _ _ (standAt i1.pos >>= _) _ _ s; exact wpAny_bind (wpAny_standAt (wpAny_bind (wpAny_mono b (fun j f hf => wpAny_pure ⟨rfl, hf⟩) fun _ _ z => z))))
end
/-! ### the blocks -/
section
variable {X : Cx} {S : SK}
/-- what a block of a set comprehension asks behind its beginning -/
structure InBlk (X : Cx) (σ : L2.St) (own : List (PySem.Str × Nat)) (tg : Expr) (scope : Scope) (J : It) (D : Addr) (H3 : Hp) (s3 : Shared) (fp : List Addr) (it : Addr) (tn : Nat → Heap → Prop) (ce : Env) (s4 : Shared) : Prop where
  turn : Turn X.prog X.w X.K tg J fp it tn
  start : tn 0 s4.heap
  inv : Inv (X.blk s3 H3 scope ce fp) [] (wipe σ (own.map (·.2))) H3 s4
  none : ∀ b ∈ fp, H3 b = none
theorem InBlk.fp {X : Cx} {σ σ' : L2.St} {own : List (PySem.Str × Nat)} {tg : Expr} {scope : Scope} {J : It} {D : Addr} {H3 H' : Hp} {s3 s4 s' : Shared} {fp : List Addr} {it : Addr} {tn : Nat → Heap → Prop} {ce : Env} (_ : InBlk X σ own tg scope J D H3 s3 fp it tn ce s4)
    (I : Inv (X.blk s3 H3 scope ce fp) [] σ' H' s') (hn : ∀ b ∈ fp, H' b = Option.none) : ∀ b ∈ fp, FpOk (X.blk s3 H3 scope ce fp) [] H' b := fun b hb =>
  ⟨hn b hb, (I.ok.exf b hb).1, I.ok.exfs b hb, .inl hb, fun x c e => (I.ok.exf b hb).2 x c e, fun p hp => absurd (show p ∈ ([] : List (Addr × Obj)) ++ [] from hp) (by simp)⟩
/-- into the block of {elt for tg in iter ..}, and back -/
theorem sc_enter (kk : SKOk S) {pins : List (Addr × Obj)} {s : Shared} {σ : L2.St} {H : Hp} {Q : VK} {elt tg iter : Expr} {fs : List Expr} {rest : List Comprehension} {scope : Scope} {own : List (PySem.Str × Nat)} {pos pos' : Pos} {wi : TI} {rd : It → Hp → Prop}
    (hN : X.N.Nodup) (I : Inv X pins σ H s) (hi : PI X tg iter wi) (ok : BlkOk X.N X.env.scope scope own) (hs : ∀ x, foldedSetIterable iter X.env x = pure x) (h : wi σ H rd)
    (go : ∀ (J : It) (H2 : Hp) (D : Addr) (s3 : Shared) (C : Addr) (cl : List (PySem.Str × Addr)) (fp : List Addr) (it : Addr) (tn : Nat → Heap → Prop) (s4 : Shared), rd J H2 → H2 D = none →
      InBlk X σ own tg scope J D (upd H2 D (S.O X.prog X.w D S.b0)) s3 fp it tn (compEnvC scope cl C X.env) s4 →
      codeAny (model X.prog X.w) X.A (.compLoop (.SetComp elt (⟨tg, iter, fs, 0⟩ :: rest) scope pos) 0 (.ref it) (.ref D) (compEnvC scope cl C X.env)) (fun r s' => match r with
        | .ok .next => ∃ H', Inv (X.blk s3 (upd H2 D (S.O X.prog X.w D S.b0)) scope (compEnvC scope cl C X.env) fp) [] (wipe σ (own.map (·.2))) H' s' ∧ Q (.ref D) H'
        | _ => False) s4) :
    wpAny (model X.prog X.w) X.A (comprehension (.SetComp elt (⟨tg, iter, fs, 0⟩ :: rest) scope pos) scope X.env pos' (newSet (.type "set")) false (eval iter X.env) none) (EP X pins σ Q) X.xe s := by
  have cap : ∀ y ∈ scope.names, y.2 = .free → ∃ c, X.env.cells.lookup y.1 = some c := fun y hy e => (ok.free y hy e).elim (fun z => I.ok.has _ (.inl z)) fun z => I.ok.has _ (.inr z)
  refine wpAny_comprehension_free (use := none) rfl hs (closure_ok cap) ok.kind (fun y hy e => by rw [ok.uniq y hy, e]) (thn (hi.run pins s σ H rd I h) fun _ _ hx => thn hx fun _ s2 hit => ?_)
  obtain ⟨it, fp, tn, J, H2, rfl, I2, T, b0, ff, q⟩ := hit
  refine newSet_ok (newEnv_comp ?_)
  have dn : H2 s2.heap.objs.size = none := I2.hok.fresh (Nat.le_refl _)
  have at3 : ∀ b o, s2.heap.get? b = some o → (s2.heap.push (so (!X.w.params.followText "set-order"))).get? b = some o := fun b o e => Heap.get?_push_of_some _ e
  have I3 : Inv X pins σ (upd H2 s2.heap.objs.size (S.O X.prog X.w s2.heap.objs.size S.b0)) { s2 with heap := s2.heap.push (so (!X.w.params.followText "set-order")) } := I2.laid (t' := s2.toks) at3 (Nat.le_refl _) (kk.new _ _ _ _)
  have low : ∀ b ∈ fp, b < s2.heap.objs.size := fun b hb => by
    obtain ⟨o, e, _⟩ := T.obj _ _ b0 b hb
    exact Heap.lt_size e
  have f3 : ∀ b ∈ fp, FpOk X pins (upd H2 s2.heap.objs.size (S.O X.prog X.w s2.heap.objs.size S.b0)) b ∧ b < (s2.heap.push (so (!X.w.params.followText "set-order"))).objs.size := fun b hb =>
    ⟨⟨by rw [upd_ne (Nat.ne_of_lt (low b hb))]; exact (ff b hb).1, (ff b hb).2⟩, by rw [Heap.size_push]; exact Nat.lt_succ_of_lt (low b hb)⟩
  have I4 := block_start I3 ok hN f3
  have b4 : tn 0 (pushCells ((s2.heap.push (so (!X.w.params.followText "set-order"))).push { cls := .type "dict", data := .dict #[] }) scope.names) := T.keep _ _ _ b0 fun b _ o e => pushCells_keeps _ _ _ _ (Heap.get?_push_of_some _ (at3 b o e))
  generalize hDD : s2.heap.objs.size = D at dn I3 f3 I4 ⊢
  generalize hss : ({ s2 with heap := s2.heap.push (so (!X.w.params.followText "set-order")) } : Shared) = s3 at I3 I4
  have hh3 : s2.heap.push (so (!X.w.params.followText "set-order")) = s3.heap := by rw [← hss]
  rw [hh3] at f3 b4
  have e4 : ({ s2 with heap := pushCells ((s2.heap.push (so (!X.w.params.followText "set-order"))).push { cls := .type "dict", data := .dict #[] }) scope.names } : Shared) = { s3 with heap := pushCells (s3.heap.push { cls := .type "dict", data := .dict #[] }) scope.names } := by rw [← hss]
  have B := go J H2 D s3 s3.heap.objs.size (cellsFrom (s3.heap.objs.size + 1) scope.names (cloFrom X.env.cells scope.names [])) fp it tn _ q dn ⟨T, b4, I4, fun b hb => (f3 b hb).1.1⟩
  have B' := codeAny_mono (R' := compPost (model X.prog X.w) X.A X.xe none (EP X pins σ Q) (.ref D) s3.heap.objs.size) B fun r s' hr => by
    match r, hr with
    | .ok .next, ⟨H', I', q'⟩ =>
      have Ib : Inv X pins σ H' s' := I3.call' (ch := fp) I'.os I'.base I'.hok I'.bare fun b hb => ⟨(f3 b hb).1.2.2.2.1, (f3 b hb).1.2.1, (f3 b hb).1.2.2.2.2.1, (f3 b hb).1.2.2.2.2.2⟩
      have nC : H' s3.heap.objs.size = Option.none := I'.free
      obtain ⟨m, hn, _⟩ := I'.loc
      obtain ⟨f0, f1, _, f3', f4, f5⟩ := I3.fpOk (Nat.le_refl _) nC
      refine ⟨m, hn, fun h'' sb => ⟨.ref D, H', Ib.turned (t' := s'.toks) (fun b o hb e => (sb.2 b hb).trans e) f0 f1 f3' f4 f5, rfl, q'⟩⟩
  have W := codeAny_compStart_set B' (T.self X.A 0 _ _ _ b4 B')
  have fin : ∀ (s5 : Shared) (ce : Env), s5 = { s3 with heap := pushCells (s3.heap.push { cls := .type "dict", data := .dict #[] }) scope.names } → ce = compEnvC scope (cellsFrom (s3.heap.objs.size + 1) scope.names (cloFrom X.env.cells scope.names [])) s3.heap.objs.size X.env →
      codeAny (model X.prog X.w) X.A (.compStart (.SetComp elt (⟨tg, iter, fs, 0⟩ :: rest) scope pos) 0 (.ref it) (.ref D) ce) (compPost (model X.prog X.w) X.A X.xe none (EP X pins σ Q) (.ref D) s3.heap.objs.size) s5 := fun s5 ce e1 e2 => by
    subst e1; subst e2
    exact W
  subst hss
  exact fin _ _ rfl rfl
/-- a turn within a block: an item comes, is stored and tested -/
theorem blk_turn {s3 : Shared} {H3 : Hp} {scope : Scope} {ce : Env} {f0 : List Addr} {pb : List (Addr × Obj)} {σb : L2.St} {H5 : Hp} {s5 : Shared} {tg : Expr} {fs : List Expr} {J : It} {fp : List Addr} {it : Addr} {tn : Nat → Heap → Prop} {i : Nat} {g : TG} {tt : TT}
    {rd : L2.St → Prop} {YES : L2.St → Hp → Prop} {NO : Hp → Prop} {E E' : Value → Shared → Prop} {none' yes no : Shared → Prop}
    (hc : X.calm = true) (T : Turn X.prog X.w X.K tg J fp it tn) (I : Inv (X.blk s3 H3 scope ce f0) pb σb H5 s5) (ff : ∀ H', (∀ b ∈ fp, H' b = none) → ∀ b ∈ fp, FpOk (X.blk s3 H3 scope ce f0) pb H' b) (h5 : ∀ b ∈ fp, H5 b = none) (st : tn i s5.heap) (hgo : J.go i H5)
    (pg : PG (X.blk s3 H3 scope ce f0) tg g) (pt : PTs (X.blk s3 H3 scope ce f0) fs tt)
    (step : ∀ x H', J.yld i H5 x H' → g x σb H' fun σ2 H2 => rd σ2 ∧ tt σ2 H2 fun b H3 => if b = true then YES σ2 H3 else NO H3)
    (fin : ∀ (pins : List (Addr × Obj)) (σ8 : L2.St) (H9 : Hp) (s9 : Shared), Inv (X.blk s3 H3 scope ce f0) (pb ++ pins) σ8 H9 s9 → rd σ8 →
      (∀ σ' H' s', Inv (X.blk s3 H3 scope ce f0) (pb ++ pins) σ' H' s' → Inv (X.blk s3 H3 scope ce f0) pb σ' H' s' ∧ tn (i + 1) s'.heap ∧ ∀ b ∈ fp, H' b = none) → (YES σ8 H9 → yes s9) ∧ (NO H9 → no s9)) :
    wpAny (model X.prog X.w) X.A (pyNext (.ref it)) (fun r b => match r with
      | none => none' b
      | some v => TurnOf X.prog X.w X.A tg fs (.ref it) ce yes no E v b) E' s5 := by
  refine thnF (T.item (X.blk s3 H3 scope ce f0) rfl rfl rfl hc i pb s5 σb H5 (fun _ _ => False) I (ff H5 h5) st hgo) fun r a hr => ?_
  obtain ⟨u, rfl, hr⟩ := hr
  refine thnF hr fun _ b hb => ?_
  obtain ⟨x, H7, I7, rx, yx, t7, n7⟩ := hb
  have I7p := I7.pinned (ff H7 n7) (T.obj _ _ t7)
  refine thnF (pg.run _ b σb H7 x u _ I7p rx (step x H7 yx)) fun _ c hc' => ?_
  obtain ⟨σ8, H8, I8, w8, q8⟩ := hc'
  refine thnF (pt.run _ c σ8 H8 _ I8 q8) fun ok d hd => ?_
  obtain ⟨H9, I9, q9⟩ := hd
  obtain ⟨fy, fn⟩ := fin _ σ8 H9 d I9 w8 fun σ' H' s' I' => by
    have pin' : ∀ b' ∈ fp, ∀ o, b.heap.get? b' = some o → s'.heap.get? b' = some o ∧ H' b' = none := fun b' hb' o e =>
      have z := I'.pin (b', o) (List.mem_append_right _ (List.mem_append_right _ (mem_pinsAt hb' e)))
      ⟨z.1, z.2.1⟩
    refine ⟨I'.unpinned, T.keep _ _ _ t7 fun b' hb' o e => (pin' b' hb' o e).1, fun b' hb' => ?_⟩
    obtain ⟨o, e, _⟩ := T.obj _ _ t7 b' hb'
    exact (pin' b' hb' o e).2
  cases ok with
  | true => exact fy (by rw [if_pos rfl] at q9; exact q9)
  | false => exact fn (by rw [if_neg Bool.false_ne_true] at q9; exact q9)
/-- {elt for tg in iter if ..} -/
def tS1 (S : SK) (P : Program) (w : World) (wi : TI) (g : TG) (tt : TT) (te : TE) (vs : List Nat) : TE := fun σ H Q => wi σ H fun J H1 => ∀ D, H1 D = none → ∃ W : Nat → Nat → Hp → Prop, (∃ m, W 0 m (upd H1 D (S.O P w D S.b0))) ∧ ∀ i m H, W i m H →
  (J.stop i H ∧ Q (.ref D) H) ∨ (J.go i H ∧ ∃ Nx : Hp → Prop, (∀ H', Nx H' → ∃ m', m' < m ∧ W (i + 1) m' H') ∧ ∀ x H', J.yld i H x H' → g x (wipe σ vs) H' fun σ2 H2 => wipe σ2 vs = wipe σ vs ∧ tt σ2 H2 fun b H3 =>
    if b = true then te σ2 H3 fun y H4 => ∃ c, H4 D = some (S.O P w D c) ∧ S.pre y c ∧ ∀ c', S.nxt y c c' → Nx (upd H4 D (S.O P w D c')) else Nx H3)
/-- {elt for tg in iter if .. for tg1 in iter1 if ..} -/
def tS2 (S : SK) (P : Program) (w : World) (wi : TI) (g : TG) (tt : TT) (wi1 : TI) (g1 : TG) (tt1 : TT) (te : TE) (vs vs1 : List Nat) : TE := fun σ H Q => wi σ H fun J H1 => ∀ D, H1 D = none → ∃ W : Nat → Nat → Hp → Prop, (∃ m, W 0 m (upd H1 D (S.O P w D S.b0))) ∧ ∀ i m H, W i m H →
  (J.stop i H ∧ Q (.ref D) H) ∨ (J.go i H ∧ ∃ Nx : Hp → Prop, (∀ H', Nx H' → ∃ m', m' < m ∧ W (i + 1) m' H') ∧ ∀ x H', J.yld i H x H' → g x (wipe σ vs) H' fun σ2 H2 => wipe σ2 vs = wipe σ vs ∧ tt σ2 H2 fun b H3 =>
    if b = true then wi1 σ2 H3 fun J1 H4 => ∃ W1 : Nat → Nat → Hp → Prop, (∃ m, W1 0 m H4) ∧ ∀ j k H, W1 j k H →
      (J1.stop j H ∧ Nx H) ∨ (J1.go j H ∧ ∃ Nx1 : Hp → Prop, (∀ H', Nx1 H' → ∃ k', k' < k ∧ W1 (j + 1) k' H') ∧ ∀ x H', J1.yld j H x H' → g1 x (wipe σ2 vs1) H' fun σ3 H5 => wipe σ3 vs1 = wipe σ2 vs1 ∧ tt1 σ3 H5 fun b H6 =>
        if b = true then te σ3 H6 fun y H7 => ∃ c, H7 D = some (S.O P w D c) ∧ S.pre y c ∧ ∀ c', S.nxt y c c' → Nx1 (upd H7 D (S.O P w D c')) else Nx1 H6)
    else Nx H3)
theorem wipe_weak {σ τ : L2.St} {vs : List Nat} (h : wipe τ vs = wipe σ vs) : (wipe σ vs).length = τ.length ∧ ∀ (j : Nat) v, (wipe σ vs)[j]? = some (some v) → τ[j]? = some (some v) := by
  rw [← h]
  exact ⟨wipe_length _ _, fun j v e => (wipe_some e).1⟩
section
variable {elt tg iter tg1 iter1 : Expr} {fs fs1 : List Expr} {scope : Scope} {own : List (PySem.Str × Nat)} {vs1 : List Nat} {pos : Pos} {wi wi1 : TI} {g g1 : TG} {tt tt1 : TT} {te : TE}
theorem pe_sc1 (kk : SKOk S) (hc : X.calm = true) (hN : X.N.Nodup) (hi : PI X tg iter wi) (ok : BlkOk X.N X.env.scope scope own)
    (pg : ∀ (s : Shared) (H : Hp) (C : Addr) (cl : List (PySem.Str × Addr)) (fp : List Addr), PG (X.blk s H scope (compEnvC scope cl C X.env) fp) tg g)
    (pt : ∀ (s : Shared) (H : Hp) (C : Addr) (cl : List (PySem.Str × Addr)) (fp : List Addr), PTs (X.blk s H scope (compEnvC scope cl C X.env) fp) fs tt)
    (pe : ∀ (s : Shared) (H : Hp) (C : Addr) (cl : List (PySem.Str × Addr)) (fp : List Addr), PE (X.blk s H scope (compEnvC scope cl C X.env) fp) elt te) (hs : ∀ x, foldedSetIterable iter X.env x = pure x := by intro _; rfl) :
    PE X (.SetComp elt [⟨tg, iter, fs, 0⟩] scope pos) (tS1 S X.prog X.w wi g tt te (own.map (·.2))) := ⟨fun pins s σ H Q I h => by
  rw [eval_SetComp]
  refine sc_enter kk hN I hi ok hs h fun J H2 D s3 C cl fp it tn s4 q dn B => ?_
  obtain ⟨W, ⟨m0, w0⟩, turn⟩ := q D dn
  refine compLoopS_any (fun n a => ∃ i H', Inv (X.blk s3 (upd H2 D (S.O X.prog X.w D S.b0)) scope (compEnvC scope cl C X.env) fp) [] (wipe σ (own.map (·.2))) H' a ∧ tn i a.heap ∧ (∀ b ∈ fp, H' b = none) ∧ W i n H') ?_ m0 ⟨0, _, B.inv, B.start, B.none, w0⟩
  rintro n a ⟨i, H5, I5, t5, n5, w5⟩
  rcases turn i n H5 w5 with ⟨stop, qq⟩ | ⟨hgo, Nx, hNx, step⟩
  · refine thnF (B.turn.done (X.blk s3 (upd H2 D (S.O X.prog X.w D S.b0)) scope (compEnvC scope cl C X.env) fp) rfl rfl rfl hc i [] a _ H5 (fun _ _ => False) I5 (B.fp I5 n5) t5 stop) fun r b hb => ?_
    obtain ⟨rfl, I6⟩ := hb
    exact ⟨H5, I6, qq⟩
  · refine blk_turn (pb := []) hc B.turn I5 (fun H' hn b hb => ⟨hn b hb, (B.fp I5 n5 b hb).2⟩) n5 t5 hgo (pg _ _ _ _ _) (pt _ _ _ _ _) step fun pl σ8 H9 s9 I9 w8 back => ⟨fun hy => ?_, fun hn => ?_⟩
    · refine thnF ((pe _ _ _ _ _).run _ s9 σ8 H9 _ I9 hy) fun z c hz => ?_
      obtain ⟨y, H10, I10, ry, cc, hD, hp, nx⟩ := hz
      refine kk.add (X.blk s3 (upd H2 D (S.O X.prog X.w D S.b0)) scope (compEnvC scope cl C X.env) fp) _ _ _ _ _ D cc y z _ I10 hD hp ry fun s' c' hn I' => ?_
      obtain ⟨m', hm, w'⟩ := hNx _ (nx c' hn)
      obtain ⟨I'', t'', n''⟩ := back _ _ _ I'
      exact ⟨m', hm, i + 1, _, I''.weak (wipe_weak w8).1 (wipe_weak w8).2, t'', n'', w'⟩
    · obtain ⟨m', hm, w'⟩ := hNx _ hn
      obtain ⟨I'', t'', n''⟩ := back _ _ _ I9
      exact ⟨m', hm, i + 1, _, I''.weak (wipe_weak w8).1 (wipe_weak w8).2, t'', n'', w'⟩⟩
theorem pe_sc2 (kk : SKOk S) (hc : X.calm = true) (hN : X.N.Nodup) (hi : PI X tg iter wi) (ok : BlkOk X.N X.env.scope scope own) (hv : ∀ i ∈ vs1, i ∈ own.map (·.2))
    (pg : ∀ (s : Shared) (H : Hp) (C : Addr) (cl : List (PySem.Str × Addr)) (fp : List Addr), PG (X.blk s H scope (compEnvC scope cl C X.env) fp) tg g)
    (pt : ∀ (s : Shared) (H : Hp) (C : Addr) (cl : List (PySem.Str × Addr)) (fp : List Addr), PTs (X.blk s H scope (compEnvC scope cl C X.env) fp) fs tt)
    (pi1 : ∀ (s : Shared) (H : Hp) (C : Addr) (cl : List (PySem.Str × Addr)) (fp : List Addr), PI (X.blk s H scope (compEnvC scope cl C X.env) fp) tg1 iter1 wi1)
    (pg1 : ∀ (s : Shared) (H : Hp) (C : Addr) (cl : List (PySem.Str × Addr)) (fp : List Addr), PG (X.blk s H scope (compEnvC scope cl C X.env) fp) tg1 g1)
    (pt1 : ∀ (s : Shared) (H : Hp) (C : Addr) (cl : List (PySem.Str × Addr)) (fp : List Addr), PTs (X.blk s H scope (compEnvC scope cl C X.env) fp) fs1 tt1)
    (pe : ∀ (s : Shared) (H : Hp) (C : Addr) (cl : List (PySem.Str × Addr)) (fp : List Addr), PE (X.blk s H scope (compEnvC scope cl C X.env) fp) elt te) (hs : ∀ x, foldedSetIterable iter X.env x = pure x := by intro _; rfl) (hs1 : ∀ env x, foldedSetIterable iter1 env x = pure x := by intro _ _; rfl) :
    PE X (.SetComp elt [⟨tg, iter, fs, 0⟩, ⟨tg1, iter1, fs1, 0⟩] scope pos) (tS2 S X.prog X.w wi g tt wi1 g1 tt1 te (own.map (·.2)) vs1) := ⟨fun pins s σ H Q I h => by
  rw [eval_SetComp]
  refine sc_enter kk hN I hi ok hs h fun J H2 D s3 C cl fp it tn s4 q dn B => ?_
  obtain ⟨W, ⟨m0, w0⟩, turn⟩ := q D dn
  refine loop_outer (hs1 _) (fun n a => ∃ i H', Inv (X.blk s3 (upd H2 D (S.O X.prog X.w D S.b0)) scope (compEnvC scope cl C X.env) fp) [] (wipe σ (own.map (·.2))) H' a ∧ tn i a.heap ∧ (∀ b ∈ fp, H' b = none) ∧ W i n H') ?_ m0 ⟨0, _, B.inv, B.start, B.none, w0⟩
  rintro n a ⟨i, H5, I5, t5, n5, w5⟩
  rcases turn i n H5 w5 with ⟨stop, qq⟩ | ⟨hgo, Nx, hNx, step⟩
  · refine thnF (B.turn.done (X.blk s3 (upd H2 D (S.O X.prog X.w D S.b0)) scope (compEnvC scope cl C X.env) fp) rfl rfl rfl hc i [] a _ H5 (fun _ _ => False) I5 (B.fp I5 n5) t5 stop) fun r b hb => ?_
    obtain ⟨rfl, I6⟩ := hb
    exact ⟨H5, I6, qq⟩
  · refine blk_turn (pb := []) hc B.turn I5 (fun H' hn b hb => ⟨hn b hb, (B.fp I5 n5 b hb).2⟩) n5 t5 hgo (pg _ _ _ _ _) (pt _ _ _ _ _) step fun pl σ8 H9 s9 I9 w8 back => ⟨fun hy => ?_, fun hn => ?_⟩
    · have k8 := wipe_weak w8
      have k9 : ∀ (j : Nat) v, (wipe σ (own.map (·.2)))[j]? = some (some v) → (wipe σ8 vs1)[j]? = some (some v) := fun j v e => by
        rw [← w8] at e
        obtain ⟨e1, e2⟩ := wipe_some e
        rw [wipe_out fun z => e2 (hv j z)]
        exact e1
      refine thnF ((pi1 _ _ _ _ _).run _ s9 σ8 H9 _ I9 hy) fun xv c hx => thnF hx fun itv d hd => ?_
      obtain ⟨it1, fp1, tn1, J1, H11, rfl, I11, T1, t11, f11, W1, ⟨m1, w1⟩, turn1⟩ := hd
      have L : codeAny (model X.prog X.w) X.A (.compLoop (.SetComp elt [⟨tg, iter, fs, 0⟩, ⟨tg1, iter1, fs1, 0⟩] scope pos) 1 (.ref it1) (.ref D) (compEnvC scope cl C X.env)) (fun r f => match r with
          | .ok _ => ∃ m, m < n ∧ ∃ i H', Inv (X.blk s3 (upd H2 D (S.O X.prog X.w D S.b0)) scope (compEnvC scope cl C X.env) fp) [] (wipe σ (own.map (·.2))) H' f ∧ tn i f.heap ∧ (∀ b ∈ fp, H' b = none) ∧ W i m H'
          | .error _ => False) d := by
        refine loop_inner (fun k f => ∃ j H', Inv (X.blk s3 (upd H2 D (S.O X.prog X.w D S.b0)) scope (compEnvC scope cl C X.env) fp) ([] ++ pl) (wipe σ8 vs1) H' f ∧ tn1 j f.heap ∧ (∀ b ∈ fp1, H' b = none) ∧ W1 j k H') ?_ m1 ⟨0, H11, I11.weak (wipe_length _ _) (fun j v e => (wipe_some e).1), t11, fun b hb => (f11 b hb).1, w1⟩
        rintro k f ⟨j, H12, I12, t12, n12, w12⟩
        rcases turn1 j k H12 w12 with ⟨stop1, nx1⟩ | ⟨go1, Nx1, hNx1, step1⟩
        · refine thnF (T1.done (X.blk s3 (upd H2 D (S.O X.prog X.w D S.b0)) scope (compEnvC scope cl C X.env) fp) rfl rfl rfl hc j _ f (wipe σ8 vs1) H12 (fun _ _ => False) I12 (fun b hb => ⟨n12 b hb, (f11 b hb).2⟩) t12 stop1) fun r e he => ?_
          obtain ⟨rfl, I13⟩ := he
          obtain ⟨m', hm, w'⟩ := hNx _ nx1
          obtain ⟨I'', t'', n''⟩ := back _ _ _ I13
          exact ⟨m', hm, i + 1, _, I''.weak (k8.1.trans (wipe_length σ8 vs1).symm) k9, t'', n'', w'⟩
        · refine blk_turn hc T1 I12 (fun H' hn b hb => ⟨hn b hb, (f11 b hb).2⟩) n12 t12 go1 (pg1 _ _ _ _ _) (pt1 _ _ _ _ _) step1 fun pl1 σ15 H16 s16 I16 w15 back1 => ⟨fun hy1 => ?_, fun hn1 => ?_⟩
          · refine thnF ((pe _ _ _ _ _).run _ s16 σ15 H16 _ I16 hy1) fun z e hz => ?_
            obtain ⟨y, H17, I17, ry, cc, hD, hp, nx⟩ := hz
            refine kk.add (X.blk s3 (upd H2 D (S.O X.prog X.w D S.b0)) scope (compEnvC scope cl C X.env) fp) _ _ _ _ _ D cc y z _ I17 hD hp ry fun s' c' hn I' => ?_
            obtain ⟨m', hm, w'⟩ := hNx1 _ (nx c' hn)
            obtain ⟨I'', t'', n''⟩ := back1 _ _ _ I'
            exact ⟨m', hm, j + 1, _, I''.weak (wipe_weak w15).1 (wipe_weak w15).2, t'', n'', w'⟩
          · obtain ⟨m', hm, w'⟩ := hNx1 _ hn1
            obtain ⟨I'', t'', n''⟩ := back1 _ _ _ I16
            exact ⟨m', hm, j + 1, _, I''.weak (wipe_weak w15).1 (wipe_weak w15).2, t'', n'', w'⟩
      exact start_inner L (T1.self X.A 0 _ _ _ t11 L)
    · obtain ⟨m', hm, w'⟩ := hNx _ hn
      obtain ⟨I'', t'', n''⟩ := back _ _ _ I9
      exact ⟨m', hm, i + 1, _, I''.weak (wipe_weak w8).1 (wipe_weak w8).2, t'', n'', w'⟩⟩
end
end
end Mc
namespace Mc
open PySem L2 PySem.Spec PyProof.Rows
/-! walks within set comprehensions -/
section
variable {S : SK} {P : Program} {w : World} {J J1 : It} {n n1 : Nat} {G G1 : Hp → Prop} {Y Y1 : Nat → Hp → V → Hp → Prop} {g g1 : TG} {tt tt1 : TT} {te : TE} {wi1 : TI} {vs vs1 : List Nat} {σ σ2 : L2.St} {H0 H4 : Hp} {D : Addr} {Qd Nx : Hp → Prop}
theorem sc_it (k : Walk J n G Y) (Pv : Nat → Hp → Prop) (h0 : Pv 0 H0) (hG : ∀ i H, i ≤ n → Pv i H → G H)
    (hs : ∀ i x H H', i < n → Pv i H → Y i H x H' → g x (wipe σ vs) H' fun σ2 H2 => wipe σ2 vs = wipe σ vs ∧ tt σ2 H2 fun b H3 => if b = true then te σ2 H3 fun y H4 => ∃ c, H4 D = some (S.O P w D c) ∧ S.pre y c ∧ ∀ c', S.nxt y c c' → Pv (i + 1) (upd H4 D (S.O P w D c')) else Pv (i + 1) H3)
    (hd : ∀ H, Pv n H → Qd H) : ∃ W : Nat → Nat → Hp → Prop, (∃ m, W 0 m H0) ∧ ∀ i m H, W i m H →
  (J.stop i H ∧ Qd H) ∨ (J.go i H ∧ ∃ Nx : Hp → Prop, (∀ H', Nx H' → ∃ m', m' < m ∧ W (i + 1) m' H') ∧ ∀ x H', J.yld i H x H' → g x (wipe σ vs) H' fun σ2 H2 => wipe σ2 vs = wipe σ vs ∧ tt σ2 H2 fun b H3 =>
    if b = true then te σ2 H3 fun y H4 => ∃ c, H4 D = some (S.O P w D c) ∧ S.pre y c ∧ ∀ c', S.nxt y c c' → Nx (upd H4 D (S.O P w D c')) else Nx H3) := by
  refine ⟨fun i m H => m = n - i ∧ i ≤ n ∧ Pv i H, ⟨n, by simp, Nat.zero_le _, h0⟩, ?_⟩
  rintro i m H ⟨rfl, hi, p⟩
  by_cases hlt : i < n
  · exact .inr ⟨k.goes i H hlt (hG i H hi p), Pv (i + 1), fun H' p' => ⟨n - (i + 1), by omega, rfl, hlt, p'⟩, fun x H' y => hs i x H H' hlt p (k.yields i H x H' hlt (hG i H hi p) y)⟩
  · obtain rfl : i = n := by omega
    exact .inl ⟨k.stops H (hG _ H hi p), hd H p⟩
theorem sc2_out (k : Walk J n G Y) (Pv : Nat → Hp → Prop) (h0 : Pv 0 H0) (hG : ∀ i H, i ≤ n → Pv i H → G H)
    (hs : ∀ i x H H', i < n → Pv i H → Y i H x H' → g x (wipe σ vs) H' fun σ2 H2 => wipe σ2 vs = wipe σ vs ∧ tt σ2 H2 fun b H3 => if b = true then wi1 σ2 H3 fun J1 H4 => ∃ W1 : Nat → Nat → Hp → Prop, (∃ m, W1 0 m H4) ∧ ∀ j k H, W1 j k H →
      (J1.stop j H ∧ Pv (i + 1) H) ∨ (J1.go j H ∧ ∃ Nx1 : Hp → Prop, (∀ H', Nx1 H' → ∃ k', k' < k ∧ W1 (j + 1) k' H') ∧ ∀ x H', J1.yld j H x H' → g1 x (wipe σ2 vs1) H' fun σ3 H5 => wipe σ3 vs1 = wipe σ2 vs1 ∧ tt1 σ3 H5 fun b H6 =>
        if b = true then te σ3 H6 fun y H7 => ∃ c, H7 D = some (S.O P w D c) ∧ S.pre y c ∧ ∀ c', S.nxt y c c' → Nx1 (upd H7 D (S.O P w D c')) else Nx1 H6) else Pv (i + 1) H3) (hd : ∀ H, Pv n H → Qd H) :
    ∃ W : Nat → Nat → Hp → Prop, (∃ m, W 0 m H0) ∧ ∀ i m H, W i m H →
  (J.stop i H ∧ Qd H) ∨ (J.go i H ∧ ∃ Nx : Hp → Prop, (∀ H', Nx H' → ∃ m', m' < m ∧ W (i + 1) m' H') ∧ ∀ x H', J.yld i H x H' → g x (wipe σ vs) H' fun σ2 H2 => wipe σ2 vs = wipe σ vs ∧ tt σ2 H2 fun b H3 =>
    if b = true then wi1 σ2 H3 fun J1 H4 => ∃ W1 : Nat → Nat → Hp → Prop, (∃ m, W1 0 m H4) ∧ ∀ j k H, W1 j k H →
      (J1.stop j H ∧ Nx H) ∨ (J1.go j H ∧ ∃ Nx1 : Hp → Prop, (∀ H', Nx1 H' → ∃ k', k' < k ∧ W1 (j + 1) k' H') ∧ ∀ x H', J1.yld j H x H' → g1 x (wipe σ2 vs1) H' fun σ3 H5 => wipe σ3 vs1 = wipe σ2 vs1 ∧ tt1 σ3 H5 fun b H6 =>
        if b = true then te σ3 H6 fun y H7 => ∃ c, H7 D = some (S.O P w D c) ∧ S.pre y c ∧ ∀ c', S.nxt y c c' → Nx1 (upd H7 D (S.O P w D c')) else Nx1 H6)
    else Nx H3) := by
  refine ⟨fun i m H => m = n - i ∧ i ≤ n ∧ Pv i H, ⟨n, by simp, Nat.zero_le _, h0⟩, ?_⟩
  rintro i m H ⟨rfl, hi, p⟩
  by_cases hlt : i < n
  · exact .inr ⟨k.goes i H hlt (hG i H hi p), Pv (i + 1), fun H' p' => ⟨n - (i + 1), by omega, rfl, hlt, p'⟩, fun x H' y => hs i x H H' hlt p (k.yields i H x H' hlt (hG i H hi p) y)⟩
  · obtain rfl : i = n := by omega
    exact .inl ⟨k.stops H (hG _ H hi p), hd H p⟩
theorem sc2_in (k : Walk J1 n1 G1 Y1) (Pj : Nat → Hp → Prop) (h0 : Pj 0 H4) (hG : ∀ i H, i ≤ n1 → Pj i H → G1 H)
    (hs : ∀ j x H H', j < n1 → Pj j H → Y1 j H x H' → g1 x (wipe σ2 vs1) H' fun σ3 H5 => wipe σ3 vs1 = wipe σ2 vs1 ∧ tt1 σ3 H5 fun b H6 => if b = true then te σ3 H6 fun y H7 => ∃ c, H7 D = some (S.O P w D c) ∧ S.pre y c ∧ ∀ c', S.nxt y c c' → Pj (j + 1) (upd H7 D (S.O P w D c')) else Pj (j + 1) H6)
    (hd : ∀ H, Pj n1 H → Nx H) :
    ∃ W1 : Nat → Nat → Hp → Prop, (∃ m, W1 0 m H4) ∧ ∀ j k H, W1 j k H →
      (J1.stop j H ∧ Nx H) ∨ (J1.go j H ∧ ∃ Nx1 : Hp → Prop, (∀ H', Nx1 H' → ∃ k', k' < k ∧ W1 (j + 1) k' H') ∧ ∀ x H', J1.yld j H x H' → g1 x (wipe σ2 vs1) H' fun σ3 H5 => wipe σ3 vs1 = wipe σ2 vs1 ∧ tt1 σ3 H5 fun b H6 =>
        if b = true then te σ3 H6 fun y H7 => ∃ c, H7 D = some (S.O P w D c) ∧ S.pre y c ∧ ∀ c', S.nxt y c c' → Nx1 (upd H7 D (S.O P w D c')) else Nx1 H6) := by
  refine ⟨fun i m H => m = n1 - i ∧ i ≤ n1 ∧ Pj i H, ⟨n1, by simp, Nat.zero_le _, h0⟩, ?_⟩
  rintro i m H ⟨rfl, hi, p⟩
  by_cases hlt : i < n1
  · exact .inr ⟨k.goes i H hlt (hG i H hi p), Pj (i + 1), fun H' p' => ⟨n1 - (i + 1), by omega, rfl, hlt, p'⟩, fun x H' y => hs i x H H' hlt p (k.yields i H x H' hlt (hG i H hi p) y)⟩
  · obtain rfl : i = n1 := by omega
    exact .inl ⟨k.stops H (hG _ H hi p), hd H p⟩
end
end Mc
namespace Mc
open PySem L2 PySem.Spec PyProof.Rows
abbrev sMastsOf : Stmt := inClass (top 13) 5
abbrev sSRoom : Stmt := inClass (top 13) 4
theorem pi_tupK {X : Cx} {K : PySem.W.Frag} {tg l : Expr} {tl : TE} (h : X.K = K) (hl : PE X l tl) : PI X tg l (iTup K tl) := by
  subst h
  exact pi_tup hl
structure TxMo (K : PySem.W.Frag) (mg : PySem.Str → Option Value) (CS CC : Addr) : Prop where
  clS : Cls K CS
  nCh : NoAttr K CS "channels"
  nCa : NoAttr K CS "calls"
  clC : Cls K CC
  nH : NoAttr K CC "heard"
  tuple : mg "tuple" = none
  sorted : mg "sorted" = none
  sum : mg "sum" = none
def hdO (cls : Cls') (x : PySem.Str) : List PySem.Str := ((getT cls x).map (·.2.2)).getD []
/-- masts_of: the lot is a tuple (q true) or a list -/
def spMastsOf (K : PySem.W.Frag) (CS CC : Addr) (isT : Bool) : Sp := fun vs H Q _ => ∃ (sc l : Addr) (chs : Chs) (cls : Cls') (ns : List PySem.Str), vs = [.ref sc, .ref l] ∧ SceneH K CS CC H sc chs cls ∧ OkC chs cls ∧ (if isT = true then H l = some (.tup (ns.map V.str)) else H l = some (.lst (ns.map V.str))) ∧ (∀ x ∈ ns, x ∈ keysT cls) ∧ ns.length * chs.length < 64 ∧
  ∀ (t : Addr) (M : List PySem.Str) (H' : Hp), M.Nodup → sortedS M = true → (∀ m, m ∈ M ↔ ∃ y ∈ ns, m ∈ hdO cls y) → Same H H' → H t = none → H' t = some (.tup (M.map V.str)) → Q (.ref t) H'
/-- room: the masts stand in a list or a tuple -/
def spSRoom (K : PySem.W.Frag) (CS CC : Addr) (isT : Bool) : Sp := fun vs H Q _ => ∃ (sc l : Addr) (chs : Chs) (cls : Cls') (M : List PySem.Str), vs = [.ref sc, .ref l] ∧ SceneH K CS CC H sc chs cls ∧ OkC chs cls ∧ (if isT = true then H l = some (.tup (M.map V.str)) else H l = some (.lst (M.map V.str))) ∧ (∀ x ∈ M, x ∈ keysT chs) ∧ M.length < 1000 ∧
  ∀ H', Same H H' → Q (.int (M.map fun m => (getT chs m).getD 0).sum) H'
section
variable {P : Program} {w : World} {K : PySem.W.Frag} {mg : PySem.Str → Option Value} {base : Heap}
theorem scMastsOf : FnScope ["self", "names", "mast", "name"] ["self", "names"] (defScope sMastsOf) := ⟨rfl, rfl, rfl, by decide +kernel, rfl, by decide +kernel, by decide +kernel⟩
theorem scSRoom : FnScope ["self", "masts", "mast"] ["self", "masts"] (defScope sSRoom) := ⟨rfl, rfl, rfl, by decide +kernel, rfl, by decide +kernel, by decide +kernel⟩
theorem ok_mastsofT {f CS CC : Addr} {fd : FuncData} (F : Fun K "masts_of" "Scene.masts_of" sMastsOf f fd) (T : TxMo K mg CS CC) : FnOk P w K mg base CX0 1 f fd ["self", "names"] (spMastsOf K CS CC true) := by
  refine F.ok scMastsOf (fun vs H Q E h => ?_) (fun cdv A outer s H vs Q E hr h => ?_)
  · obtain ⟨sc, l, chs, cls, ns, rfl, _⟩ := h
    rfl
  · obtain ⟨sc, l, chs, cls, ns, rfl, hC, ok, hl, hns, hlen, q⟩ := h
    have hu := hu_of hr
    replace hl : H l = some (.tup (ns.map V.str)) := hl
    refine ⟨_, (pss_one (ps_ret (pe_tupleOf (by rfl) T.tuple (pe_callB (cr_srtX rfl) (by rfl) T.sorted boot_sorted (pa_cons
      (pe_sc2 skT_ok (own := [("name", 3), ("mast", 2)]) (vs1 := [2]) (g := gName 3) (g1 := gName 2) (tt := tYes) (tt1 := tYes) rfl scMastsOf.nd (pi_tup (pv 1)) (blkOk_by (own := [("name", 3), ("mast", 2)]) (N := ["self", "names", "mast", "name"]) (sc := defScope sMastsOf) (by decide +kernel)) (by decide)
          (fun _ _ _ _ _ => pg_name (i := 3) scMastsOf.nd rfl (Or.inl rfl)) (fun _ _ _ _ _ => pts_nil) (fun _ _ _ _ _ => pi_tupK (K := K) rfl (pe_fldK (K := K) rfl (pe_dget hu (pe_fldK (K := K) rfl (pv 0) rfl) (pv 3) (fun _ _ => rfl)) rfl)) (fun _ _ _ _ _ => pg_name (i := 2) scMastsOf.nd rfl (Or.inl rfl)) (fun _ _ _ _ _ => pts_nil) (fun _ _ _ _ _ => pv 2)) pa_nil))))), ?_⟩
    obtain ⟨dx, a, y, h1, h2, h3⟩ := hC.here
    refine ⟨_, rfl, l, rfl, ⟨_, SqT.of hl⟩, fun D hD => ?_⟩
    have hx : ∀ x ∈ ns, ∃ cd, getT cls x = some cd := fun x hx => getT_key (hns x hx)
    have hlx : ∀ x ∈ ns, (hdO cls x).length ≤ chs.length := fun x hx0 => by
      obtain ⟨cd, e⟩ := hx x hx0
      unfold hdO
      rw [e]
      have c := ok.cl _ (getT_in e)
      have := len_sub c.2.2.2.1 c.2.2.2.2.2
      unfold keysT at this
      rw [List.length_map] at this
      exact this
    have fl : ∀ i, i ≤ ns.length → ((ns.take i).flatMap (hdO cls)).length ≤ i * chs.length := fun i => by
      induction i with
      | zero => intro _; simp
      | succ i ih =>
        intro hi
        have h0 := ih (by omega)
        have e : ns[i]? = some (ns[i]'hi) := by simp [hi]
        rw [List.take_add_one, e, List.flatMap_append, List.length_append]
        have := hlx _ (List.getElem_mem hi)
        simp only [Option.toList_some, List.flatMap_cons, List.flatMap_nil, List.append_nil]
        rw [Nat.succ_mul]
        omega
    refine sc2_out (walk_tup (xs := ns.map V.str)) (fun i H' => ∃ n, Kp [] H H' ∧ H' D = some (SetXO P w D ((ns.take i).flatMap (hdO cls)) n) ∧ n ≤ ((ns.take i).flatMap (hdO cls)).length) ⟨0, fun b o z _ => by rw [upd_ne (ne_of_none z hD)]; exact z, upd_same, Nat.zero_le _⟩ (fun i H' _ ⟨_, k, _⟩ => SqT.of (k _ _ hl (by simp))) ?_ ?_
    · rintro i v _ H2 hi ⟨n, k2, hD2, hn⟩ ⟨rfl, hv⟩
      rw [List.getElem?_map] at hv
      rw [List.length_map] at hi
      have e : ns[i]? = some (ns[i]'hi) := by simp [hi]
      rw [e] at hv
      obtain rfl := Option.some.inj hv
      have hm : ns[i]'hi ∈ ns := List.getElem_mem hi
      generalize ns[i]'hi = x at e hm ⊢
      obtain ⟨cd, ec⟩ := hx x hm
      obtain ⟨dxc, hh, c1, c2⟩ := (hC.calls _ (getT_in ec)).here
      have eh : hdO cls x = cd.2.2 := by unfold hdO; rw [ec]; rfl
      have et : (ns.take (i + 1)).flatMap (hdO cls) = (ns.take i).flatMap (hdO cls) ++ cd.2.2 := by rw [List.take_add_one, e, List.flatMap_append]; simp [eh]
      have bd : ((ns.take i).flatMap (hdO cls) ++ cd.2.2).length < 64 := by
        rw [← et]
        have := fl (i + 1) hi
        have h4 := Nat.mul_le_mul_right chs.length (show i + 1 ≤ ns.length from hi)
        omega
      refine ⟨rfl, yes_ite ?_⟩
      refine ⟨_, rfl, sc, CS, dx, _, _, rfl, k2 _ _ h1 (by simp), T.clS, T.nCa, rfl, _, rfl, y, _, rfl, dgetT (rd_kp h3 k2 (by simp)) ec, cd.1, CC, dxc, _, _, rfl, k2 _ _ c1 (by simp), T.clC, T.nH, rfl, hh, rfl, ⟨_, SqT.of (k2 _ _ c2 (by simp))⟩, ?_⟩
      refine sc2_in (walk_tup (xs := cd.2.2.map V.str)) (fun j H' => ∃ n, Kp [] H H' ∧ H' D = some (SetXO P w D ((ns.take i).flatMap (hdO cls) ++ cd.2.2.take j) n) ∧ n ≤ ((ns.take i).flatMap (hdO cls) ++ cd.2.2.take j).length) ⟨n, k2, by rw [List.take_zero, List.append_nil]; exact hD2, by rw [List.take_zero, List.append_nil]; exact hn⟩ (fun j H' _ ⟨_, k, _⟩ => SqT.of (k _ _ c2 (by simp))) ?_ ?_
      · rintro j v _ H3 hj ⟨n3, k3, hD3, hn3⟩ ⟨rfl, hv⟩
        rw [List.getElem?_map] at hv
        cases ej : cd.2.2[j]? with
        | none => rw [ej] at hv; cases hv
        | some m =>
          rw [ej] at hv
          obtain rfl := Option.some.inj hv
          have ej2 : cd.2.2.take (j + 1) = cd.2.2.take j ++ [m] := by rw [List.take_add_one, ej]; rfl
          have lt : n3 < 1000 := by
            rw [List.length_append, List.length_take] at hn3
            rw [List.length_append] at bd
            omega
          refine ⟨rfl, yes_ite ?_⟩
          refine ⟨_, rfl, (_, n3), hD3, ⟨⟨m, rfl⟩, lt⟩, ?_⟩
          rintro ⟨ys', n'⟩ ⟨⟨_, e1, e2⟩, e3⟩
          cases e1
          obtain rfl : ys' = _ := e2
          refine ⟨n', fun b o z _ => ?_, ?_, ?_⟩
          · rw [upd_ne (ne_of_none z hD)]; exact k3 _ _ z (by simp)
          · rw [upd_same, ej2, List.append_assoc]
            rfl
          · have e3 : n' ≤ n3 + 1 := e3
            rw [ej2, ← List.append_assoc, List.length_append, List.length_singleton]
            omega
      · rintro H3 ⟨n3, k3, hD3, hn3⟩
        rw [List.length_map, List.take_length] at hD3 hn3
        exact ⟨n3, k3, by rw [et]; exact hD3, by rw [et]; exact hn3⟩
    · rintro H2 ⟨n, k2, hD2, hn⟩
      rw [List.length_map, List.take_length] at hD2 hn
      have bd := fl ns.length (Nat.le_refl _)
      rw [List.take_length] at bd
      refine ⟨D, _, n, rfl, hD2, by omega, fun zs p nz hz sz hp => ?_⟩
      refine .inl ⟨p, zs.map V.str, rfl, SqL.of upd_same, fun t ht => ?_⟩
      have st : Same H (upd (upd H2 p (.lst (zs.map V.str))) t (.tup (zs.map V.str))) := fun b o z => by
        have z2 := k2 _ _ z (by simp)
        have z3 : upd H2 p (.lst (zs.map V.str)) b = some o := by rw [upd_ne (ne_of_none z2 hp)]; exact z2
        rw [upd_ne (ne_of_none z3 ht)]; exact z3
      refine q t zs _ nz sz (fun m => ?_) st ?_ upd_same
      · rw [hz m, List.mem_flatMap]
      · cases e : H t with
        | none => rfl
        | some o =>
          have z2 := k2 _ _ e (by simp)
          have z3 : upd H2 p (.lst (zs.map V.str)) t = some o := by rw [upd_ne (ne_of_none z2 hp)]; exact z2
          rw [z3] at ht; cases ht
theorem ok_sroomT {f CS CC : Addr} {fd : FuncData} (F : Fun K "room" "Scene.room" sSRoom f fd) (T : TxMo K mg CS CC) : FnOk P w K mg base CX0 1 f fd ["self", "masts"] (spSRoom K CS CC true) := by
  refine F.ok scSRoom (fun vs H Q E h => ?_) (fun cdv A outer s H vs Q E hr h => ?_)
  · obtain ⟨sc, l, chs, cls, M, rfl, _⟩ := h
    rfl
  · obtain ⟨sc, l, chs, cls, M, rfl, hC, ok, hl, hM, hlen, q⟩ := h
    have hu := hu_of hr
    replace hl : H l = some (.tup (M.map V.str)) := hl
    refine ⟨_, (pss_one (ps_ret (pe_callB (cr_sum rfl) (by rfl) T.sum boot_sum (pa_cons
      (pe_lc (own := [("mast", 2)]) (g := gName 2) (tt := tYes) rfl scSRoom.nd (pi_tup (pv 1)) (blkOk_by (own := [("mast", 2)]) (N := ["self", "masts", "mast"]) (sc := defScope sSRoom) (by decide +kernel)) (fun _ _ _ _ _ => pg_name (i := 2) scSRoom.nd rfl (Or.inl rfl)) (fun _ _ _ _ _ => pts_nil) (fun _ _ _ _ _ => (pe_dget hu (pe_fldK (K := K) rfl (pv 0) rfl) (pv 2) (fun _ _ => rfl)))) pa_nil)))), ?_⟩
    obtain ⟨dx, a, y, h1, h2, h3⟩ := hC.here
    refine ⟨_, rfl, l, rfl, ⟨_, SqT.of hl⟩, fun D hD => lc_it (walk_tup (xs := M.map V.str)) (fun i H' => Same H H' ∧ H' D = some (.lst ((M.take i).map fun m => V.int ((getT chs m).getD 0)))) ⟨fun b o z => by rw [upd_ne (ne_of_none z hD)]; exact z, upd_same⟩ (fun i H' _ k => SqT.of (k.1 _ _ hl)) ?_ ?_⟩
    · rintro i v _ H2 hi ⟨s2, hD2⟩ ⟨rfl, hv⟩
      rw [List.getElem?_map] at hv
      rw [List.length_map] at hi
      have e : M[i]? = some (M[i]'hi) := by simp [hi]
      rw [e] at hv
      obtain rfl := Option.some.inj hv
      obtain ⟨n, en⟩ := getT_key (hM _ (List.getElem_mem hi))
      refine ⟨rfl, yes_ite ⟨_, rfl, sc, CS, dx, _, _, rfl, s2 _ _ h1, T.clS, T.nCh, rfl, _, rfl, a, _, rfl, dgetT (rd_same h2 s2) en, _, hD2, ?_, fun b o z => ?_, ?_⟩⟩
      · rw [List.length_map, List.length_take, sizeLine_eq]; omega
      · rw [upd_ne (ne_of_none z hD)]; exact s2 _ _ z
      · rw [upd_same, List.take_add_one, e, List.map_append]
        simp [en]
    · rintro H2 ⟨s2, hD2⟩
      rw [List.length_map, List.take_length] at hD2
      refine ⟨D, M.map fun m => (getT chs m).getD 0, rfl, SqL.of (by rw [List.map_map]; exact hD2), q H2 s2⟩
theorem ok_mastsofL {f CS CC : Addr} {fd : FuncData} (F : Fun K "masts_of" "Scene.masts_of" sMastsOf f fd) (T : TxMo K mg CS CC) : FnOk P w K mg base CX0 1 f fd ["self", "names"] (spMastsOf K CS CC false) := by
  refine F.ok scMastsOf (fun vs H Q E h => ?_) (fun cdv A outer s H vs Q E hr h => ?_)
  · obtain ⟨sc, l, chs, cls, ns, rfl, _⟩ := h
    rfl
  · obtain ⟨sc, l, chs, cls, ns, rfl, hC, ok, hl, hns, hlen, q⟩ := h
    have hu := hu_of hr
    replace hl : H l = some (.lst (ns.map V.str)) := hl
    refine ⟨_, (pss_one (ps_ret (pe_tupleOf (by rfl) T.tuple (pe_callB (cr_srtX rfl) (by rfl) T.sorted boot_sorted (pa_cons
      (pe_sc2 skT_ok (own := [("name", 3), ("mast", 2)]) (vs1 := [2]) (g := gName 3) (g1 := gName 2) (tt := tYes) (tt1 := tYes) rfl scMastsOf.nd (pi_list (pv 1)) (blkOk_by (own := [("name", 3), ("mast", 2)]) (N := ["self", "names", "mast", "name"]) (sc := defScope sMastsOf) (by decide +kernel)) (by decide)
          (fun _ _ _ _ _ => pg_name (i := 3) scMastsOf.nd rfl (Or.inl rfl)) (fun _ _ _ _ _ => pts_nil) (fun _ _ _ _ _ => pi_tupK (K := K) rfl (pe_fldK (K := K) rfl (pe_dget hu (pe_fldK (K := K) rfl (pv 0) rfl) (pv 3) (fun _ _ => rfl)) rfl)) (fun _ _ _ _ _ => pg_name (i := 2) scMastsOf.nd rfl (Or.inl rfl)) (fun _ _ _ _ _ => pts_nil) (fun _ _ _ _ _ => pv 2)) pa_nil))))), ?_⟩
    obtain ⟨dx, a, y, h1, h2, h3⟩ := hC.here
    refine ⟨_, rfl, l, rfl, ⟨_, SqL.of hl⟩, fun D hD => ?_⟩
    have hx : ∀ x ∈ ns, ∃ cd, getT cls x = some cd := fun x hx => getT_key (hns x hx)
    have hlx : ∀ x ∈ ns, (hdO cls x).length ≤ chs.length := fun x hx0 => by
      obtain ⟨cd, e⟩ := hx x hx0
      unfold hdO
      rw [e]
      have c := ok.cl _ (getT_in e)
      have := len_sub c.2.2.2.1 c.2.2.2.2.2
      unfold keysT at this
      rw [List.length_map] at this
      exact this
    have fl : ∀ i, i ≤ ns.length → ((ns.take i).flatMap (hdO cls)).length ≤ i * chs.length := fun i => by
      induction i with
      | zero => intro _; simp
      | succ i ih =>
        intro hi
        have h0 := ih (by omega)
        have e : ns[i]? = some (ns[i]'hi) := by simp [hi]
        rw [List.take_add_one, e, List.flatMap_append, List.length_append]
        have := hlx _ (List.getElem_mem hi)
        simp only [Option.toList_some, List.flatMap_cons, List.flatMap_nil, List.append_nil]
        rw [Nat.succ_mul]
        omega
    refine sc2_out (walk_list (xs := ns.map V.str)) (fun i H' => ∃ n, Kp [] H H' ∧ H' D = some (SetXO P w D ((ns.take i).flatMap (hdO cls)) n) ∧ n ≤ ((ns.take i).flatMap (hdO cls)).length) ⟨0, fun b o z _ => by rw [upd_ne (ne_of_none z hD)]; exact z, upd_same, Nat.zero_le _⟩ (fun i H' _ ⟨_, k, _⟩ => SqL.of (k _ _ hl (by simp))) ?_ ?_
    · rintro i v _ H2 hi ⟨n, k2, hD2, hn⟩ ⟨rfl, hv⟩
      rw [List.getElem?_map] at hv
      rw [List.length_map] at hi
      have e : ns[i]? = some (ns[i]'hi) := by simp [hi]
      rw [e] at hv
      obtain rfl := Option.some.inj hv
      have hm : ns[i]'hi ∈ ns := List.getElem_mem hi
      generalize ns[i]'hi = x at e hm ⊢
      obtain ⟨cd, ec⟩ := hx x hm
      obtain ⟨dxc, hh, c1, c2⟩ := (hC.calls _ (getT_in ec)).here
      have eh : hdO cls x = cd.2.2 := by unfold hdO; rw [ec]; rfl
      have et : (ns.take (i + 1)).flatMap (hdO cls) = (ns.take i).flatMap (hdO cls) ++ cd.2.2 := by rw [List.take_add_one, e, List.flatMap_append]; simp [eh]
      have bd : ((ns.take i).flatMap (hdO cls) ++ cd.2.2).length < 64 := by
        rw [← et]
        have := fl (i + 1) hi
        have h4 := Nat.mul_le_mul_right chs.length (show i + 1 ≤ ns.length from hi)
        omega
      refine ⟨rfl, yes_ite ?_⟩
      refine ⟨_, rfl, sc, CS, dx, _, _, rfl, k2 _ _ h1 (by simp), T.clS, T.nCa, rfl, _, rfl, y, _, rfl, dgetT (rd_kp h3 k2 (by simp)) ec, cd.1, CC, dxc, _, _, rfl, k2 _ _ c1 (by simp), T.clC, T.nH, rfl, hh, rfl, ⟨_, SqT.of (k2 _ _ c2 (by simp))⟩, ?_⟩
      refine sc2_in (walk_tup (xs := cd.2.2.map V.str)) (fun j H' => ∃ n, Kp [] H H' ∧ H' D = some (SetXO P w D ((ns.take i).flatMap (hdO cls) ++ cd.2.2.take j) n) ∧ n ≤ ((ns.take i).flatMap (hdO cls) ++ cd.2.2.take j).length) ⟨n, k2, by rw [List.take_zero, List.append_nil]; exact hD2, by rw [List.take_zero, List.append_nil]; exact hn⟩ (fun j H' _ ⟨_, k, _⟩ => SqT.of (k _ _ c2 (by simp))) ?_ ?_
      · rintro j v _ H3 hj ⟨n3, k3, hD3, hn3⟩ ⟨rfl, hv⟩
        rw [List.getElem?_map] at hv
        cases ej : cd.2.2[j]? with
        | none => rw [ej] at hv; cases hv
        | some m =>
          rw [ej] at hv
          obtain rfl := Option.some.inj hv
          have ej2 : cd.2.2.take (j + 1) = cd.2.2.take j ++ [m] := by rw [List.take_add_one, ej]; rfl
          have lt : n3 < 1000 := by
            rw [List.length_append, List.length_take] at hn3
            rw [List.length_append] at bd
            omega
          refine ⟨rfl, yes_ite ?_⟩
          refine ⟨_, rfl, (_, n3), hD3, ⟨⟨m, rfl⟩, lt⟩, ?_⟩
          rintro ⟨ys', n'⟩ ⟨⟨_, e1, e2⟩, e3⟩
          cases e1
          obtain rfl : ys' = _ := e2
          refine ⟨n', fun b o z _ => ?_, ?_, ?_⟩
          · rw [upd_ne (ne_of_none z hD)]; exact k3 _ _ z (by simp)
          · rw [upd_same, ej2, List.append_assoc]
            rfl
          · have e3 : n' ≤ n3 + 1 := e3
            rw [ej2, ← List.append_assoc, List.length_append, List.length_singleton]
            omega
      · rintro H3 ⟨n3, k3, hD3, hn3⟩
        rw [List.length_map, List.take_length] at hD3 hn3
        exact ⟨n3, k3, by rw [et]; exact hD3, by rw [et]; exact hn3⟩
    · rintro H2 ⟨n, k2, hD2, hn⟩
      rw [List.length_map, List.take_length] at hD2 hn
      have bd := fl ns.length (Nat.le_refl _)
      rw [List.take_length] at bd
      refine ⟨D, _, n, rfl, hD2, by omega, fun zs p nz hz sz hp => ?_⟩
      refine .inl ⟨p, zs.map V.str, rfl, SqL.of upd_same, fun t ht => ?_⟩
      have st : Same H (upd (upd H2 p (.lst (zs.map V.str))) t (.tup (zs.map V.str))) := fun b o z => by
        have z2 := k2 _ _ z (by simp)
        have z3 : upd H2 p (.lst (zs.map V.str)) b = some o := by rw [upd_ne (ne_of_none z2 hp)]; exact z2
        rw [upd_ne (ne_of_none z3 ht)]; exact z3
      refine q t zs _ nz sz (fun m => ?_) st ?_ upd_same
      · rw [hz m, List.mem_flatMap]
      · cases e : H t with
        | none => rfl
        | some o =>
          have z2 := k2 _ _ e (by simp)
          have z3 : upd H2 p (.lst (zs.map V.str)) t = some o := by rw [upd_ne (ne_of_none z2 hp)]; exact z2
          rw [z3] at ht; cases ht
theorem ok_sroomL {f CS CC : Addr} {fd : FuncData} (F : Fun K "room" "Scene.room" sSRoom f fd) (T : TxMo K mg CS CC) : FnOk P w K mg base CX0 1 f fd ["self", "masts"] (spSRoom K CS CC false) := by
  refine F.ok scSRoom (fun vs H Q E h => ?_) (fun cdv A outer s H vs Q E hr h => ?_)
  · obtain ⟨sc, l, chs, cls, M, rfl, _⟩ := h
    rfl
  · obtain ⟨sc, l, chs, cls, M, rfl, hC, ok, hl, hM, hlen, q⟩ := h
    have hu := hu_of hr
    replace hl : H l = some (.lst (M.map V.str)) := hl
    refine ⟨_, (pss_one (ps_ret (pe_callB (cr_sum rfl) (by rfl) T.sum boot_sum (pa_cons
      (pe_lc (own := [("mast", 2)]) (g := gName 2) (tt := tYes) rfl scSRoom.nd (pi_list (pv 1)) (blkOk_by (own := [("mast", 2)]) (N := ["self", "masts", "mast"]) (sc := defScope sSRoom) (by decide +kernel)) (fun _ _ _ _ _ => pg_name (i := 2) scSRoom.nd rfl (Or.inl rfl)) (fun _ _ _ _ _ => pts_nil) (fun _ _ _ _ _ => (pe_dget hu (pe_fldK (K := K) rfl (pv 0) rfl) (pv 2) (fun _ _ => rfl)))) pa_nil)))), ?_⟩
    obtain ⟨dx, a, y, h1, h2, h3⟩ := hC.here
    refine ⟨_, rfl, l, rfl, ⟨_, SqL.of hl⟩, fun D hD => lc_it (walk_list (xs := M.map V.str)) (fun i H' => Same H H' ∧ H' D = some (.lst ((M.take i).map fun m => V.int ((getT chs m).getD 0)))) ⟨fun b o z => by rw [upd_ne (ne_of_none z hD)]; exact z, upd_same⟩ (fun i H' _ k => SqL.of (k.1 _ _ hl)) ?_ ?_⟩
    · rintro i v _ H2 hi ⟨s2, hD2⟩ ⟨rfl, hv⟩
      rw [List.getElem?_map] at hv
      rw [List.length_map] at hi
      have e : M[i]? = some (M[i]'hi) := by simp [hi]
      rw [e] at hv
      obtain rfl := Option.some.inj hv
      obtain ⟨n, en⟩ := getT_key (hM _ (List.getElem_mem hi))
      refine ⟨rfl, yes_ite ⟨_, rfl, sc, CS, dx, _, _, rfl, s2 _ _ h1, T.clS, T.nCh, rfl, _, rfl, a, _, rfl, dgetT (rd_same h2 s2) en, _, hD2, ?_, fun b o z => ?_, ?_⟩⟩
      · rw [List.length_map, List.length_take, sizeLine_eq]; omega
      · rw [upd_ne (ne_of_none z hD)]; exact s2 _ _ z
      · rw [upd_same, List.take_add_one, e, List.map_append]
        simp [en]
    · rintro H2 ⟨s2, hD2⟩
      rw [List.length_map, List.take_length] at hD2
      refine ⟨D, M.map fun m => (getT chs m).getD 0, rfl, SqL.of (by rw [List.map_map]; exact hD2), q H2 s2⟩
end
end Mc
namespace Mc
open PySem L2 PySem.Spec PyProof.Rows Evl
/-! ### list(d.values()) -/
def tListVals (te : TE) : TE := fun σ H Q => te σ H fun x H1 => ∃ (d : Addr) (kvs : List (L2.Key × V)), x = .ref d ∧ Rd H1 d (.dK kvs) ∧ ∀ p, H1 p = none → Q (.ref p) (upd H1 p (.lst (kvs.map Prod.snd)))
theorem vals_of_kv {kvs : List (L2.Key × V)} {vs : List (L2.Key × Value)} (r : KV kvs vs) : Vals (kvs.map Prod.snd) (vs.map Prod.snd) := by
  induction r with
  | nil => exact .nil
  | cons h _ ih => exact .cons h.2 ih
theorem items_snd {vs : List (L2.Key × Value)} {acc : Array Value} (h : ItemsOf (fun i v => ∃ k, vs[i]? = some (k, v)) acc vs.length) : acc.toList = vs.map Prod.snd := by
  refine List.ext_getElem? fun i => ?_
  rw [List.getElem?_map]
  by_cases hi : i < vs.length
  · have ha : i < acc.size := by rw [h.1]; exact hi
    have e : acc[i]? = some acc[i] := Array.getElem?_eq_getElem ha
    obtain ⟨k, hk⟩ := h.2 i _ e
    rw [hk, Array.getElem?_toList, e]
    rfl
  · rw [List.getElem?_eq_none (l := acc.toList) (by rw [Array.length_toList, h.1]; omega), List.getElem?_eq_none (l := vs) (by omega)]
    rfl
section
variable {X : Cx} {e : Expr} {te : TE} {p apos cpos pos : Pos}
theorem pe_listVals (hc : X.calm = true) (he : PE X e te) (hg : Gl X "list") (hm : X.mg "list" = none) (hbase : attributeBase e "values" X.env (eval e X.env) = eval e X.env := by rfl) (hline : (apos.endLine == cpos.line) = true := by rfl)
    (hs : starEach [.Call (.Attribute e "values" apos) [] [] cpos] X.env = (false, eval (.Call (.Attribute e "values" apos) [] [] cpos) X.env) :: starEach [] X.env := by rfl) :
    PE X (.Call (.Name "list" p) [.Call (.Attribute e "values" apos) [] [] cpos] [] pos) (tListVals te) := ⟨fun pins s σ H Q I hq => by
  refine wpAny_Call_Name_kw (ld_blt I hg hm boot_list (PyProof.Rows.callWith_type1 ?_ hs rfl))
  rw [hs]
  change wpAny _ _ (spliced ((false, eval (.Call (.Attribute e "values" apos) [] [] cpos) X.env) :: backTo pos (starEach [] X.env))) _ _ s
  refine Calls.spliced_cons (wpAny_Call_method (T := "dict") (id := "dict.values") hbase rfl hline F.plainAttrs_dict F.slot_dict_values F.type_dict_values (thn (he.run pins s σ H _ I hq) fun u s1 hv => ?_))
  obtain ⟨x, H1, I1, rx, d, kvs, rfl, hd, q⟩ := hv
  obtain rfl : u = Value.ref d := rx
  obtain ⟨z, lo, vs, rel, dd⟩ := dk_rd I1.hok hd
  obtain ⟨ep, hat⟩ := dd.dictAt
  have I2 : Inv X pins σ H1 { s1 with heap := s1.heap.push { cls := .type "dict_values", data := .fields #[.ref d] } } := I1.kept (t' := s1.toks) fun b ob w => Heap.get?_push_of_some _ w
  refine ⟨dd.typeIs, dd.mapOf.noDict, ?_⟩
  change wpAny _ _ (callWith cpos (.builtin "dict.values") [.ref d] [] []) _ X.xe s1
  refine method_meetsIn F.slot_dict_values F.entry_dict_values rfl (PySem.evalArgs_none ⟨rfl, dd.typeIs, F.args_dict_values_1 _, _, meets_dict_values (mixKind X.prog X.w) d lo, ⟨vs, dd⟩, ?_⟩)
  refine Calls.spliced_nil ?_
  refine PySem.W.kdl_call (PySem.W.kdl_values (knd := mixKind X.prog X.w) (kvs := vs) (ep := ep)) (I1.ok.hd hc) ⟨⟨_, Heap.get?_push_size _ rfl, rfl, rfl⟩, hat.push _⟩ (by rw [← rel.length]; exact z) fun h' tk acc c' hk hD hacc => ?_
  refine ⟨.ref _, upd H1 _ (.lst (kvs.map Prod.snd)), I2.laid (t' := tk) hk (Nat.le_refl _) ⟨by rw [List.length_map]; exact z, acc.toList, c', by rw [items_snd hacc]; exact vals_of_kv rel, by rw [Array.toArray_toList]; exact hD⟩, rfl, q _ (I2.hok.fresh (Nat.le_refl _))⟩⟩
end
section
variable {σ : L2.St} {H : Hp} {te : TE} {d : Addr} {kvs : List (L2.Key × V)}
theorem el_vals (h : Ev te σ H (.ref d)) (hd : Rd H d (.dK kvs)) : EvL (tListVals te) σ H (kvs.map Prod.snd) := fun H1 e Q q =>
  h H1 e _ fun H2 e2 => ⟨d, kvs, rfl, ex_rd (e.trans e2) hd, fun p hp => q p _ (fresh_back e2 hp) (e2.trans (Ex.new hp)) upd_same⟩
end
end Mc
namespace Mc
open PySem L2 PySem.Spec PyProof.Rows Evl
/-! over a dict's values; sorted(d), list(d), sorted(list) as new lists -/
theorem walk_vT {β : Type} {g : β → V} {l : List (PySem.Str × β)} {d : Addr} {o : Obj} : Walk (Itd d o (kvT g l)) l.length (fun H => H d = some (.frz o (.dK (kvT g l)))) (YAt (l.map fun x => g x.2)) := by
  have e : (kvT g l).length = l.length := by unfold kvT; rw [List.length_map]
  rw [← e]
  refine walk_values.mono (fun _ h => h) ?_
  rintro i H x H' hi _ ⟨rfl, k, hk⟩
  refine ⟨rfl, ?_⟩
  unfold kvT at hk
  rw [List.getElem?_map] at hk
  rw [List.getElem?_map]
  cases e2 : l[i]? with
  | none => rw [e2] at hk; cases hk
  | some z =>
    rw [e2] at hk
    cases Option.some.inj hk
    rfl
section
variable {β : Type} {g : β → V} {K : PySem.W.Frag} {H : Hp} {σ : L2.St} {te tl : TE} {a : Addr} {vs : List Nat} {j : Nat} {l : List (PySem.Str × β)} {o : Obj}
theorem el_mV (f : PySem.Str × β → V) (hl : Ev tl σ H (.ref a)) (h : H a = some (.frz o (.dK (kvT g l)))) (hz : l.length ≤ 100000) (turn : ∀ (i : Nat) y, l[i]? = some y → ∀ H', Ex H H' → Ev te ((wipe σ vs).set j (some (g y.2))) H' (f y)) (hw : ∀ v, wipe ((wipe σ vs).set j (some v)) vs = wipe σ vs := by intro _; rfl) :
    EvL (tLc (iVals tl) (gName j) tYes te vs) σ H (l.map f) := fun H1 e Q q => hl H1 e _ fun H2 e2 => ⟨a, o, _, rfl, e2 _ _ (e _ _ h), fun D hD =>
  lc_m (j := j) (c := fun x : PySem.Str × β => g x.2) (ys := l) walk_vT f rfl hD (fun H' s => s _ _ (e2 _ _ (e _ _ h))) (sz_of hz) (fun i y H' k hy s hk => turn i y hy H' ((e.trans e2).trans s) H' (Ex.refl _) k hk) (fun H' s hD' => q D H' (fresh_back e2 hD) (e2.trans s) hD') hw⟩
theorem EvL.go {xs : List V} {Q : VK} (h : EvL te σ H xs) (k : ∀ p H2, H p = none → Ex H H2 → H2 p = some (.lst xs) → Q (.ref p) H2) : te σ H Q := h H (Ex.refl H) Q k
theorem keys_kvT : (kvT g l).map (fun x => x.1) = (keysT l).map Sum.inr := by unfold kvT keysT; rw [List.map_map, List.map_map]; rfl
theorem kV_kvT : (kvT g l).map (fun kv => kV kv.1) = (keysT l).map V.str := by unfold kvT keysT; rw [List.map_map, List.map_map]; rfl
def rSrtD : List V → Hp → VK → Prop := fun xs H Q => ∃ (a : Addr) (kvs : List (L2.Key × V)) (ks : List PySem.Str), xs = [.ref a] ∧ Rd H a (.dK kvs) ∧ kvs.map (·.1) = ks.map Sum.inr ∧ ks.length < 64 ∧ ∀ ys p, ys.Perm ks → sortedS ys = true → H p = none → Q (.ref p) (upd H p (.lst (ys.map V.str)))
def rLstD : List V → Hp → VK → Prop := fun xs H Q => ∃ (a : Addr) (kvs : List (L2.Key × V)), xs = [.ref a] ∧ Rd H a (.dK kvs) ∧ ∀ p, H p = none → Q (.ref p) (upd H p (.lst (kvs.map fun kv => kV kv.1)))
def rLstS (K : PySem.W.Frag) : List V → Hp → VK → Prop := fun xs H Q => ∃ p ys, xs = [.ref p] ∧ (SqL K H p ys ∨ SqT K H p ys) ∧ ∀ l, H l = none → Q (.ref l) (upd H l (.lst ys))
theorem cr_srtD {X : Cx} (hc : X.calm = true) : CallR X (.builtin "sorted") rSrtD := call_sortedD hc
theorem cr_lstD {X : Cx} (hc : X.calm = true) : CallR X (.type "list") rLstD := call_listD hc
theorem cr_lstS {X : Cx} (h : X.K = K) : CallR X (.type "list") (rLstS K) := by subst h; exact call_list_of
theorem cr_srtSK {X : Cx} (h : X.K = K) : CallR X (.builtin "sorted") (rSortedS K) := by subst h; exact cr_sortedS
/-- sorted(d) of a dict whose keys stand sorted -/
theorem el_srtD (h : Ev te σ H (.ref a)) (hd : Rd H a (.dK (kvT g l))) (srt : sortedS (keysT l) = true) (hz : l.length < 64) : EvL (tCB rSrtD (tCons te tNil)) σ H ((keysT l).map V.str) := fun H1 e Q q =>
  h H1 e _ fun H2 e2 => ⟨a, _, keysT l, rfl, ex_rd (e.trans e2) hd, keys_kvT, by unfold keysT; rw [List.length_map]; exact hz, fun ys p pm s hp => by
    rw [srt_eq pm s srt]
    exact q p _ (fresh_back e2 hp) (e2.trans (Ex.new hp)) upd_same⟩
theorem el_lstD (h : Ev te σ H (.ref a)) (hd : Rd H a (.dK (kvT g l))) : EvL (tCB rLstD (tCons te tNil)) σ H ((keysT l).map V.str) := fun H1 e Q q =>
  h H1 e _ fun H2 e2 => ⟨a, _, rfl, ex_rd (e.trans e2) hd, fun p hp => by
    rw [kV_kvT]
    exact q p _ (fresh_back e2 hp) (e2.trans (Ex.new hp)) upd_same⟩
/-- sorted(xs) of texts -/
theorem el_srtS {xs zs : List PySem.Str} (h : Ev te σ H (.ref a)) (hx : SqL K H a (xs.map V.str)) (hz : xs.length < 64) (pm : zs.Perm xs) (srt : sortedS zs = true) : EvL (tCB (rSortedS K) (tCons te tNil)) σ H (zs.map V.str) := fun H1 e Q q =>
  h H1 e _ fun H2 e2 => ⟨a, xs, rfl, ex_l (e.trans e2) hx, hz, fun ys p pm2 s hp => by
    rw [srt_eq (pm2.trans pm.symm) s srt]
    exact q p _ (fresh_back e2 hp) (e2.trans (Ex.new hp)) upd_same⟩
theorem mem_sortS (xs : List PySem.Str) : ∃ zs : List PySem.Str, zs.Perm xs ∧ sortedS zs = true := by
  induction xs with
  | nil => exact ⟨[], .nil, rfl⟩
  | cons x xs ih =>
    obtain ⟨zs, p, s⟩ := ih
    have pw := srt_pw s
    refine ⟨zs.filter (fun z => decide (ltN z x)) ++ x :: zs.filter (fun z => !decide (ltN z x)), ?_, ?_⟩
    · have := List.filter_append_perm (fun z => decide (ltN z x)) zs
      exact (List.perm_middle).trans ((this.trans p).cons x)
    · refine sortedS_of_pairwise _ ?_
      have key : (zs.filter (fun z => decide (ltN z x)) ++ x :: zs.filter (fun z => !decide (ltN z x))).Pairwise fun a b => ¬ ltN b a := by
        refine List.pairwise_append.mpr ⟨pw.filter _, List.pairwise_cons.mpr ⟨fun y hy => ?_, pw.filter _⟩, fun y hy z hz => ?_⟩
        · have := (List.mem_filter.mp hy).2
          simpa using this
        · have h1 : ltN y x := of_decide_eq_true (List.mem_filter.mp hy).2
          rcases List.mem_cons.mp hz with e | e
          · rw [e]; exact fun h2 => ltN_irr _ (ltN_trans h1 h2)
          · have h2 : ¬ ltN z x := by simpa using (List.mem_filter.mp e).2
            exact fun h3 => h2 (ltN_trans h3 h1)
      refine key.imp fun {a b} z => ?_
      rw [ltCps_eq]
      exact decide_eq_false z
end
end Mc
namespace Mc
open PySem L2 PySem.Spec PyProof.Rows
/-! ### data that can be compared, equal to itself -/
structure DOk (n : Nat) (d : PyData) : Prop where
  lay : d.canLay0 = true
  dep : d.depth ≤ n
  eq : PyData.eqv d d = true
theorem DOk.mono {n m : Nat} {d : PyData} (h : DOk n d) (k : n ≤ m) : DOk m d := ⟨h.lay, Nat.le_trans h.dep k, h.eq⟩
theorem DOk.non {n : Nat} : DOk n .none := ⟨rfl, by rw [PyData.depth]; exact Nat.zero_le _, by rw [PyData.eqv]⟩
theorem DOk.int {n : Nat} {i : Int} : DOk n (.int i) := ⟨rfl, by rw [PyData.depth]; exact Nat.zero_le _, by rw [PyData.eqv]; exact beq_self_eq_true i⟩
theorem DOk.str {n : Nat} {x : PySem.Str} (h : PyData.canLay0 (.str x) = true) : DOk n (.str x) := ⟨h, by rw [PyData.depth]; exact Nat.zero_le _, by rw [PyData.eqv]; exact beq_self_eq_true x⟩
theorem lays {n : Nat} : ∀ {ds : List PyData}, (∀ d ∈ ds, DOk n d) → PyData.canLayAll0 ds = true
  | [], _ => rfl
  | d :: ds, h => by
    show (PyData.canLay0 d && PyData.canLayAll0 ds) = true
    rw [(h d (by simp)).lay, lays fun x hx => h x (by simp [hx])]
    rfl
theorem deps {n : Nat} : ∀ {ds : List PyData}, (∀ d ∈ ds, DOk n d) → PyData.depthAll ds ≤ n
  | [], _ => Nat.zero_le _
  | d :: ds, h => by
    show max (PyData.depth d) (PyData.depthAll ds) ≤ n
    exact Nat.max_le.mpr ⟨(h d (by simp)).dep, deps fun x hx => h x (by simp [hx])⟩
theorem eqs {n : Nat} : ∀ {ds : List PyData}, (∀ d ∈ ds, DOk n d) → PyData.eqvAll ds ds = true
  | [], _ => rfl
  | d :: ds, h => by
    show (PyData.eqv d d && PyData.eqvAll ds ds) = true
    rw [(h d (by simp)).eq, eqs fun x hx => h x (by simp [hx])]
    rfl
theorem DOk.tup {n : Nat} {ds : List PyData} (h : ∀ d ∈ ds, DOk n d) : DOk (n + 1) (.tuple ds) :=
  ⟨by rw [PyData.canLay0]; exact lays h, by rw [PyData.depth]; exact Nat.succ_le_succ (deps h), by rw [PyData.eqv]; exact eqs h⟩
theorem DOk.lst {n : Nat} {ds : List PyData} (h : ∀ d ∈ ds, DOk n d) : DOk (n + 1) (.list ds) :=
  ⟨by rw [PyData.canLay0]; exact lays h, by rw [PyData.depth]; exact Nat.succ_le_succ (deps h), by rw [PyData.eqv]; exact eqs h⟩
theorem DOk.shaped {n : Nat} {d : PyData} (h : DOk n d) (k : n ≤ 64 := by decide) : SeqAt.shaped d = true := by
  unfold SeqAt.shaped
  rw [h.lay, decide_eq_true (Nat.le_trans h.dep k)]
  rfl
/-- two data of one form that are equal -/
theorem eqv_tup2 (a b c d : Int) : PyData.eqv (.tuple [.int a, .int b]) (.tuple [.int c, .int d]) = decide ((a, b) = (c, d)) := by
  rw [PyData.eqv]
  show (PyData.eqv (.int a) (.int c) && (PyData.eqv (.int b) (.int d) && true)) = _
  rw [PyData.eqv, PyData.eqv, Bool.and_true]
  by_cases h1 : a = c <;> by_cases h2 : b = d <;> simp [h1, h2]
theorem dpA1 {K : PySem.W.Frag} {H : Hp} {v : V} {d : PyData} (h : Dp K H v d) : DpAll K H [v] [d] := .cons h .nil
theorem dpA2 {K : PySem.W.Frag} {H : Hp} {v u : V} {d e : PyData} (h : Dp K H v d) (k : Dp K H u e) : DpAll K H [v, u] [d, e] := .cons h (.cons k .nil)
theorem neD_same {K : PySem.W.Frag} {H : Hp} {n : Nat} {x y : V} {d : PyData} {Q : VK} (ok : DOk n d) (hn : n ≤ 64) (h1 : Dp K H x d) (h2 : Dp K H y d) (q : Q (.bl false) H) : rNeD K x y H Q :=
  ⟨d, d, h1, h2, ok.shaped hn, ok.shaped hn, by rw [ok.eq]; exact q⟩
theorem eqD_same {K : PySem.W.Frag} {H : Hp} {n : Nat} {x y : V} {d : PyData} {Q : VK} (ok : DOk n d) (hn : n ≤ 64) (h1 : Dp K H x d) (h2 : Dp K H y d) (q : Q (.bl true) H) : rEqD K x y H Q :=
  ⟨d, d, h1, h2, ok.shaped hn, ok.shaped hn, by rw [ok.eq]; exact q⟩
theorem okInts (ns : List Int) : DOk 1 (pdI ns) := DOk.lst fun d hd => by
  obtain ⟨i, _, rfl⟩ := List.mem_map.mp hd
  exact DOk.int
end Mc
namespace Mc
open PySem L2 PySem.Spec PyProof.Rows Evl
/-! == and != of plain data: it tells whether they are the same -/
mutual
def sdD : PyData → Bool
  | .none => true
  | .bool _ => false
  | .int _ => true
  | .str x => PyData.strOk x
  | .list xs => sdA xs
  | .tuple xs => sdA xs
  | .dict _ => false
def sdA : List PyData → Bool
  | [] => true
  | x :: xs => sdD x && sdA xs
end
mutual
theorem sdD_lay : ∀ d : PyData, sdD d = true → d.canLay0 = true
  | .none, _ => rfl
  | .bool _, _ => rfl
  | .int _, _ => rfl
  | .str x, h => by rw [sdD] at h; rw [PyData.canLay0]; exact h
  | .list xs, h => by rw [sdD] at h; rw [PyData.canLay0]; exact sdA_lay xs h
  | .tuple xs, h => by rw [sdD] at h; rw [PyData.canLay0]; exact sdA_lay xs h
  | .dict _, h => by rw [sdD] at h; cases h
theorem sdA_lay : ∀ ds : List PyData, sdA ds = true → PyData.canLayAll0 ds = true
  | [], _ => by rw [PyData.canLayAll0]
  | x :: xs, h => by
    rw [sdA, Bool.and_eq_true] at h
    rw [PyData.canLayAll0, sdD_lay x h.1, sdA_lay xs h.2]; rfl
end
mutual
theorem eqv_sd : ∀ d e : PyData, sdD d = true → sdD e = true → (PyData.eqv d e = true ↔ d = e)
  | .bool _, _, h, _ => by rw [sdD] at h; cases h
  | .dict _, _, h, _ => by rw [sdD] at h; cases h
  | .none, e, _, k => by
    cases e <;> simp [PyData.eqv]
  | .int i, e, _, k => by
    cases e <;> simp [PyData.eqv]
    rw [sdD] at k; cases k
  | .str x, e, _, k => by
    cases e <;> simp [PyData.eqv]
  | .list xs, e, h, k => by
    cases e <;> simp [PyData.eqv]
    rw [sdD] at h k
    exact eqvA_sd xs _ h k
  | .tuple xs, e, h, k => by
    cases e <;> simp [PyData.eqv]
    rw [sdD] at h k
    exact eqvA_sd xs _ h k
theorem eqvA_sd : ∀ d e : List PyData, sdA d = true → sdA e = true → (PyData.eqvAll d e = true ↔ d = e)
  | [], e, _, _ => by
    cases e <;> simp [PyData.eqvAll]
  | x :: xs, [], _, _ => by simp [PyData.eqvAll]
  | x :: xs, y :: ys, h, k => by
    rw [sdA, Bool.and_eq_true] at h k
    rw [PyData.eqvAll, Bool.and_eq_true, eqv_sd x y h.1 k.1, eqvA_sd xs ys h.2 k.2]
    simp
end
mutual
theorem dp_ex {K : PySem.W.Frag} {H H' : Hp} (e : Ex H H') : ∀ (d : PyData) (v : V), Dp K H v d → Dp K H' v d
  | .none, _, h => by cases h; exact .non
  | .bool b, _, h => by cases h; exact .bl b
  | .int i, _, h => by cases h; exact .int i
  | .str x, _, h => by cases h; exact .str x
  | .list xs, _, h => by
    cases h with
    | lst a b => exact .lst (ex_l e a) (dpA_ex e xs _ b)
  | .tuple xs, _, h => by
    cases h with
    | tup a b => exact .tup (ex_t e a) (dpA_ex e xs _ b)
  | .dict _, _, h => by cases h
theorem dpA_ex {K : PySem.W.Frag} {H H' : Hp} (e : Ex H H') : ∀ (ds : List PyData) (vs : List V), DpAll K H vs ds → DpAll K H' vs ds
  | [], _, h => by cases h; exact .nil
  | d :: ds, _, h => by
    cases h with
    | cons a b => exact .cons (dp_ex e d _ a) (dpA_ex e ds _ b)
end
theorem eqv_is {d e : PyData} {b : Bool} (sd : sdD d = true) (se : sdD e = true) (hb : b = true ↔ d = e) : PyData.eqv d e = b := by
  cases w : PyData.eqv d e with
  | true => exact (hb.mpr ((eqv_sd d e sd se).mp w)).symm
  | false =>
    cases b with
    | false => rfl
    | true => rw [(eqv_sd d e sd se).mpr (hb.mp rfl)] at w; cases w
theorem shp_sd {d : PyData} (sd : sdD d = true) (nd : d.depth ≤ 64) : SeqAt.shaped d = true := by
  unfold SeqAt.shaped; rw [sdD_lay d sd, decide_eq_true nd]; rfl
theorem rv_eqDD {K : PySem.W.Frag} {H : Hp} {x y : V} {d e : PyData} {b : Bool} (hx : Dp K H x d) (hy : Dp K H y e) (sd : sdD d = true) (se : sdD e = true) (nd : d.depth ≤ 64) (ne : e.depth ≤ 64) (hb : b = true ↔ d = e) : RV (rEqD K) x y H (.bl b) := fun H1 e1 Q q =>
  ⟨d, e, dp_ex e1 d x hx, dp_ex e1 e y hy, shp_sd sd nd, shp_sd se ne, by rw [eqv_is sd se hb]; exact q H1 (Ex.refl _)⟩
theorem rv_neDD {K : PySem.W.Frag} {H : Hp} {x y : V} {d e : PyData} {b : Bool} (hx : Dp K H x d) (hy : Dp K H y e) (sd : sdD d = true) (se : sdD e = true) (nd : d.depth ≤ 64) (ne : e.depth ≤ 64) (hb : b = true ↔ d = e) : RV (rNeD K) x y H (.bl (!b)) := fun H1 e1 Q q =>
  ⟨d, e, dp_ex e1 d x hx, dp_ex e1 e y hy, shp_sd sd nd, shp_sd se ne, by rw [eqv_is sd se hb]; exact q H1 (Ex.refl _)⟩
/-! forms of data -/
theorem sdA_map {α : Type} {f : α → PyData} {xs : List α} (h : ∀ x ∈ xs, sdD (f x) = true) : sdA (xs.map f) = true := by
  induction xs with
  | nil => rfl
  | cons x xs ih =>
    rw [List.map_cons, sdA, h x (by simp), ih fun y hy => h y (by simp [hy])]; rfl
theorem depA_map {α : Type} {f : α → PyData} {xs : List α} {n : Nat} (h : ∀ x ∈ xs, (f x).depth ≤ n) : PyData.depthAll (xs.map f) ≤ n := by
  induction xs with
  | nil => rw [List.map_nil, PyData.depthAll]; exact Nat.zero_le _
  | cons x xs ih =>
    rw [List.map_cons, PyData.depthAll]
    exact Nat.max_le.mpr ⟨h x (by simp), ih fun y hy => h y (by simp [hy])⟩
theorem dpA_paired {α : Type} {K : PySem.W.Frag} {H : Hp} {f : α → PyData} {R : α → V → Prop} (hR : ∀ x v, R x v → Dp K H v (f x)) : ∀ {xs : List α} {vs : List V}, Paired R xs vs → DpAll K H vs (xs.map f)
  | _, _, .nil => .nil
  | _, _, .cons r t => .cons (hR _ _ r) (dpA_paired hR t)
theorem dpA_map {α : Type} {K : PySem.W.Frag} {H : Hp} {f : α → PyData} {g : α → V} (xs : List α) (h : ∀ x ∈ xs, Dp K H (g x) (f x)) : DpAll K H (xs.map g) (xs.map f) := by
  induction xs with
  | nil => exact .nil
  | cons x xs ih => exact .cons (h x (by simp)) (ih fun y hy => h y (by simp [hy]))
theorem pdI_inj {xs ys : List Int} : pdI xs = pdI ys ↔ xs = ys := by
  unfold pdI
  constructor
  · intro h
    injection h with h
    exact (List.map_inj_right (fun a b e => by injection e)).mp h
  · intro h; rw [h]
theorem sd_pdI (xs : List Int) : sdD (pdI xs) = true := by
  unfold pdI
  rw [sdD]; exact sdA_map fun _ _ => by rw [sdD]
theorem dep_pdI (xs : List Int) : (pdI xs).depth ≤ 1 := by
  unfold pdI
  rw [PyData.depth]
  exact Nat.succ_le_succ (depA_map fun _ _ => by rw [PyData.depth]; exact Nat.le_refl _)
/-- lists of ints -/
theorem rv_eqIL {K : PySem.W.Frag} {H : Hp} {a b : Addr} {xs ys : List Int} (ha : SqL K H a (xs.map V.int)) (hb : SqL K H b (ys.map V.int)) : RV (rEqD K) (.ref a) (.ref b) H (.bl (decide (xs = ys))) :=
  rv_eqDD (dp_ints ha) (dp_ints hb) (sd_pdI _) (sd_pdI _) (Nat.le_trans (dep_pdI _) (by decide)) (Nat.le_trans (dep_pdI _) (by decide)) (by rw [decide_eq_true_eq]; exact pdI_inj.symm)
theorem rv_neIL {K : PySem.W.Frag} {H : Hp} {a b : Addr} {xs ys : List Int} (ha : SqL K H a (xs.map V.int)) (hb : SqL K H b (ys.map V.int)) : RV (rNeD K) (.ref a) (.ref b) H (.bl (!decide (xs = ys))) :=
  rv_neDD (dp_ints ha) (dp_ints hb) (sd_pdI _) (sd_pdI _) (Nat.le_trans (dep_pdI _) (by decide)) (Nat.le_trans (dep_pdI _) (by decide)) (by rw [decide_eq_true_eq]; exact pdI_inj.symm)
end Mc
namespace Mc
open PySem L2 PySem.Spec PyProof.Rows Evl
/-! what the law of scenes asks for, without Python -/
def namesOf (cls : Cls') (ws : List Int) : List PySem.Str := ws.flatMap fun w => (keysT cls).filter fun x => decide (wOf cls x = w)
theorem namesOf_snoc (cls : Cls') (ws : List Int) (w : Int) : namesOf cls (ws ++ [w]) = namesOf cls ws ++ (keysT cls).filter fun x => decide (wOf cls x = w) := by
  unfold namesOf
  rw [List.flatMap_append, List.flatMap_cons, List.flatMap_nil, List.append_nil]
theorem mem_namesOf {cls : Cls'} {ws : List Int} {x : PySem.Str} : x ∈ namesOf cls ws ↔ x ∈ keysT cls ∧ wOf cls x ∈ ws := by
  unfold namesOf
  rw [List.mem_flatMap]
  constructor
  · rintro ⟨w, hw, h⟩
    obtain ⟨h1, h2⟩ := List.mem_filter.mp h
    rw [of_decide_eq_true h2]
    exact ⟨h1, hw⟩
  · rintro ⟨h1, h2⟩
    exact ⟨_, h2, List.mem_filter.mpr ⟨h1, decide_eq_true rfl⟩⟩
theorem namesOf_nd {cls : Cls'} {ws : List Int} (nd : (keysT cls).Nodup) (nw : ws.Nodup) : (namesOf cls ws).Nodup := by
  induction ws with
  | nil => exact List.nodup_nil
  | cons w ws ih =>
    have nw' := List.nodup_cons.mp nw
    show (namesOf cls (w :: ws)).Nodup
    unfold namesOf
    rw [List.flatMap_cons]
    refine List.nodup_append.mpr ⟨nd.filter _, ih nw'.2, fun a ha b hb e => ?_⟩
    have h1 := of_decide_eq_true (List.mem_filter.mp ha).2
    have h2 := (mem_namesOf.mp hb).2
    rw [← e, h1] at h2
    exact nw'.1 h2
theorem namesOf_len {cls : Cls'} {ws : List Int} (nd : (keysT cls).Nodup) (nw : ws.Nodup) : (namesOf cls ws).length ≤ cls.length := by
  have := (namesOf_nd nd nw).length_le_of_subset (l₂ := keysT cls) fun x hx => (mem_namesOf.mp hx).1
  unfold keysT at this
  rwa [List.length_map] at this
theorem namesOf_pw {cls : Cls'} (srt : sortedS (keysT cls) = true) : ∀ {ws : List Int}, ws.Pairwise (fun a b => b < a) → (namesOf cls ws).Pairwise (rkLe (rkO cls)) := by
  intro ws
  induction ws with
  | nil => intro _; exact .nil
  | cons w ws ih =>
    intro h
    obtain ⟨h1, h2⟩ := List.pairwise_cons.mp h
    show (namesOf cls (w :: ws)).Pairwise _
    unfold namesOf
    rw [List.flatMap_cons]
    refine List.pairwise_append.mpr ⟨?_, ih h2, fun a ha b hb => .inl ?_⟩
    · refine List.Pairwise.imp_of_mem ?_ ((srt_pw srt).filter _)
      intro a b ha hb n
      have e1 := of_decide_eq_true (List.mem_filter.mp ha).2
      have e2 := of_decide_eq_true (List.mem_filter.mp hb).2
      exact .inr ⟨by unfold rkO; rw [e1, e2], n⟩
    · have e1 := of_decide_eq_true (List.mem_filter.mp ha).2
      have := h1 _ (mem_namesOf.mp hb).2
      unfold rkO
      rw [e1]
      omega
theorem order_is {cls : Cls'} {ys : List PySem.Str} (nd : (keysT cls).Nodup) (srt : sortedS (keysT cls) = true) (hw : ∀ x ∈ keysT cls, wOf cls x ∈ ([2, 1, 0] : List Int)) (pm : ys.Perm (keysT cls)) (pw : ys.Pairwise (rkLe (rkO cls))) : ys = namesOf cls [2, 1, 0] := by
  refine List.Perm.eq_of_pairwise (le := rkLe (rkO cls)) (fun a b _ _ h k => ?_) pw (namesOf_pw srt (by decide)) (pm.trans (perm_nd nd (namesOf_nd nd (by decide)) fun x => ⟨fun h => mem_namesOf.mpr ⟨h, hw x h⟩, fun h => (mem_namesOf.mp h).1⟩))
  rcases h with h | ⟨h, h'⟩
  · rcases k with k | ⟨k, _⟩ <;> omega
  · rcases k with k | ⟨_, k'⟩
    · omega
    · exact Classical.byContradiction fun n => h' (ltN_tri k' n)
theorem wOf_get {cls : Cls'} {x : PySem.Str} {cd : CD} (h : getT cls x = some cd) : wOf cls x = cd.2.1 := by unfold wOf; rw [h]; rfl
theorem hdQ_get {cls : Cls'} {x : PySem.Str} {cd : CD} (h : getT cls x = some cd) : hdQ cls x = cd.2.2 := by show ((getT cls x).map (·.2.2)).getD [] = _; rw [h]; rfl
theorem get_nd {β : Type} {l : List (PySem.Str × β)} (nd : (keysT l).Nodup) {x : PySem.Str × β} (h : x ∈ l) : getT l x.1 = some x.2 := by
  obtain ⟨b, hb⟩ := getT_key (l := l) (k := x.1) (by unfold keysT; exact List.mem_map_of_mem h)
  have h2 := getT_in hb
  rw [hb]
  have : x = (x.1, b) := by
    obtain ⟨i, hi⟩ := List.mem_iff_getElem?.mp h
    obtain ⟨j, hj⟩ := List.mem_iff_getElem?.mp h2
    have e1 : (keysT l)[i]? = some x.1 := by unfold keysT; rw [List.getElem?_map, hi]; rfl
    have e2 : (keysT l)[j]? = some x.1 := by unfold keysT; rw [List.getElem?_map, hj]; rfl
    obtain ⟨l1, e1'⟩ := List.getElem?_eq_some_iff.mp e1
    obtain ⟨l2, e2'⟩ := List.getElem?_eq_some_iff.mp e2
    have : i = j := (List.getElem_inj nd).mp (e1'.trans e2'.symm)
    subst this
    rw [hi] at hj
    exact Option.some.inj hj
  rw [this]
/-- the names that sit at a mast, counted over the keys -/
theorem cnt_keys {st : List (PySem.Str × PySem.Str)} (nd : (keysT st).Nodup) (m : PySem.Str) : ((keysT st).filter fun x => decide ((getT st x).getD "" = m)).length = cntM st m := by
  unfold cntM
  have : ((keysT st).filter fun x => decide ((getT st x).getD "" = m)) = (st.filter fun x => decide (x.2 = m)).map (·.1) := by
    unfold keysT
    rw [List.filter_map]
    congr 1
    refine List.filter_congr fun x hx => ?_
    show decide ((getT st x.1).getD "" = m) = decide (x.2 = m)
    rw [get_nd nd hx]; rfl
  rw [this, List.length_map]
def fullP : V × (PySem.Str × Int) → Bool
  | (.int n, c) => decide (n > c.2)
  | _ => false
def fullPs (chs : Chs) (st : List (PySem.Str × PySem.Str)) : List (V × (PySem.Str × Int)) := chs.map fun c => (.int ((cntM st c.1 : Nat) : Int), c)
theorem full_zip {chs : Chs} {st : List (PySem.Str × PySem.Str)} (nd : (keysT chs).Nodup) : (fullPs chs st).any fullP = badFull chs st := by
  unfold fullPs badFull keysT
  rw [List.any_map, List.any_map]
  rw [Bool.eq_iff_iff, List.any_eq_true, List.any_eq_true]
  have e : ∀ c ∈ chs, (fullP ∘ fun c : PySem.Str × Int => ((V.int ((cntM st c.1 : Nat) : Int), c) : V × (PySem.Str × Int))) c = ((fun m => decide (((cntM st m : Nat) : Int) > (getT chs m).getD 0)) ∘ fun x : PySem.Str × Int => x.1) c := fun c hc => by
    show decide (((cntM st c.1 : Nat) : Int) > c.2) = decide (((cntM st c.1 : Nat) : Int) > (getT chs c.1).getD 0)
    rw [get_nd nd hc]; rfl
  exact ⟨fun ⟨c, hc, h⟩ => ⟨c, hc, (e c hc).symm.trans h⟩, fun ⟨c, hc, h⟩ => ⟨c, hc, (e c hc).trans h⟩⟩
theorem heard_keys {cls : Cls'} {st : List (PySem.Str × PySem.Str)} (nd : (keysT st).Nodup) : (keysT st).any (fun x => !decide ((getT st x).getD "" ∈ hdQ cls x)) = badHeard cls st := by
  unfold badHeard keysT
  rw [List.any_map]
  rw [Bool.eq_iff_iff, List.any_eq_true, List.any_eq_true]
  have e : ∀ c ∈ st, ((fun x => !decide ((getT st x).getD "" ∈ hdQ cls x)) ∘ fun x : PySem.Str × PySem.Str => x.1) c = !decide (c.2 ∈ hdQ cls c.1) := fun c hc => by
    show (!decide ((getT st c.1).getD "" ∈ hdQ cls c.1)) = _
    rw [get_nd nd hc]; rfl
  exact ⟨fun ⟨c, hc, h⟩ => ⟨c, hc, (e c hc).symm.trans h⟩, fun ⟨c, hc, h⟩ => ⟨c, hc, (e c hc).trans h⟩⟩
def mastsOf (chs : Chs) (cls : Cls') (ns : List PySem.Str) : List PySem.Str := (keysT chs).filter fun m => ns.any fun y => decide (m ∈ hdQ cls y)
theorem masts_is {chs : Chs} {cls : Cls'} {ns M : List PySem.Str} (ok : OkC chs cls) (srt : sortedS (keysT chs) = true) (hn : ∀ x ∈ ns, x ∈ keysT cls) (nM : M.Nodup) (sM : sortedS M = true) (h : ∀ m, m ∈ M ↔ ∃ y ∈ ns, m ∈ hdO cls y) : M = mastsOf chs cls ns := by
  have hs : sortedS (mastsOf chs cls ns) = true := by
    refine sortedS_of_pairwise _ (((srt_pw srt).filter _).imp fun {a b} z => ?_)
    rw [ltCps_eq]
    exact decide_eq_false z
  refine asc_eq nM (ok.nd.filter _) sM hs fun m => (h m).trans ?_
  unfold mastsOf
  rw [List.mem_filter, List.any_eq_true]
  constructor
  · rintro ⟨y, hy, hm⟩
    refine ⟨?_, y, hy, decide_eq_true hm⟩
    obtain ⟨cd, hcd⟩ := getT_key (hn y hy)
    have : hdO cls y = cd.2.2 := hdQ_get hcd
    rw [this] at hm
    exact (ok.cl _ (getT_in hcd)).2.2.2.2.2 m hm
  · rintro ⟨_, y, hy, hm⟩
    exact ⟨y, hy, of_decide_eq_true hm⟩
/-- what stands in the law -/
structure W21 (K : PySem.W.Frag) (CS CC : Addr) (a d sc dxs ca cb : Addr) (chs : Chs) (cls : Cls') (S : List (Addr × HO)) (H : Hp) : Prop where
  dr : Dr K [d] d a H
  hsc : H sc = some (.ins CS dxs [("channels", .ref ca), ("calls", .ref cb)])
  hch : H ca = some (.dK (kvT vI chs))
  hcl : H cb = some (.dK (kvT vO cls))
  cal : CallsH K CC H cls
  obs : ∀ x ∈ S, H x.1 = some x.2 ∧ x.1 ≠ d
section
variable {K : PySem.W.Frag} {CS CC a d sc dxs ca cb : Addr} {chs : Chs} {cls : Cls'} {S : List (Addr × HO)} {H H' : Hp}
theorem W21.nd (W : W21 K CS CC a d sc dxs ca cb chs cls S H) {b : Addr} {o : HO} (z : H b = some o) (n : ∀ l, o ≠ .lst l) : b ≠ d := fun e => by
  obtain ⟨⟨kk, hkk⟩, _⟩ := W.dr
  rw [e, hkk] at z
  exact n _ (Option.some.inj z).symm
theorem W21.ndn (W : W21 K CS CC a d sc dxs ca cb chs cls S H) {b : Addr} (z : H b = none) : b ≠ d := fun e => by
  obtain ⟨⟨kk, hkk⟩, _⟩ := W.dr
  rw [e, hkk] at z; cases z
theorem W21.map (W : W21 K CS CC a d sc dxs ca cb chs cls S H) (D : Dr K [d] d a H') (k : Kp [d] H H') : W21 K CS CC a d sc dxs ca cb chs cls S H' := by
  have g : ∀ {b : Addr} {o : HO}, H b = some o → (∀ l, o ≠ .lst l) → H' b = some o := fun {b o} z n => k b o z fun e => W.nd z n (List.mem_singleton.mp e)
  refine ⟨D, g W.hsc fun _ => by simp, g W.hch fun _ => by simp, g W.hcl fun _ => by simp, fun z hz => ?_, fun x hx => ⟨k _ _ (W.obs x hx).1 fun e => (W.obs x hx).2 (List.mem_singleton.mp e), (W.obs x hx).2⟩⟩
  obtain ⟨dx', q', c1, c2⟩ := (W.cal z hz).here
  exact ⟨dx', q', g c1 fun _ => by simp, g c2 fun _ => by simp⟩
theorem W21.ex (W : W21 K CS CC a d sc dxs ca cb chs cls S H) (x : Ex H H') : W21 K CS CC a d sc dxs ca cb chs cls S H' := W.map (W.dr.same x) (Kp.same x)
theorem W21.add (W : W21 K CS CC a d sc dxs ca cb chs cls S H) {b : Addr} {o : HO} (h : H b = some o) (n : b ≠ d) : W21 K CS CC a d sc dxs ca cb chs cls ((b, o) :: S) H := ⟨W.dr, W.hsc, W.hch, W.hcl, W.cal, fun x hx => (List.mem_cons.mp hx).elim (fun e => e ▸ ⟨h, n⟩) (W.obs x)⟩
theorem W21.sub (W : W21 K CS CC a d sc dxs ca cb chs cls S H) {S' : List (Addr × HO)} (h : ∀ x ∈ S', x ∈ S) : W21 K CS CC a d sc dxs ca cb chs cls S' H := ⟨W.dr, W.hsc, W.hch, W.hcl, W.cal, fun x hx => W.obs x (h x hx)⟩
theorem W21.scene (W : W21 K CS CC a d sc dxs ca cb chs cls S H) : SceneH K CS CC H sc chs cls := ⟨⟨dxs, ca, cb, W.hsc, .inl W.hch, .inl W.hcl⟩, W.cal⟩
theorem W21.scn (W : W21 K CS CC a d sc dxs ca cb chs cls S H) (s1 : sortedS (keysT chs) = true) (s2 : sortedS (keysT cls) = true) : ScnX CS H sc chs cls := ⟨⟨dxs, ca, cb, W.hsc, W.hch, W.hcl⟩, s1, s2⟩
/-- a test that sets a name -/
theorem q_ifset {t : TT} {tz : TS} {D : Ends} {σ : L2.St} {i : Nat} {v v0 : V} {b : Bool} (h : EvT t σ H b) (hσ : σ.set i (some v0) = σ) (k : ∀ H1, Ex H H1 → tz D (σ.set i (some (if b = true then v else v0))) H1) : tSeq (tIfS t (tAsg (tC v) (gName i)) tNext) tz D σ H := h H (Ex.refl H) _ fun H1 e => by
  cases b with
  | true => exact k H1 e
  | false =>
    have := k H1 e
    rw [if_neg (by decide), hσ] at this
    exact this
theorem ev_opNN {r : R2} {ta tb : TE} {σ : L2.St} {xs ys : List V} {z : V} (ha : EvL ta σ H xs) (hb : EvL tb σ H ys) (hr : ∀ p q H1, H1 p = some (.lst xs) → H1 q = some (.lst ys) → Ex H H1 → RV r (.ref p) (.ref q) H1 z) : Ev (tOp r ta tb) σ H z := fun H1 e Q k =>
  ha H1 e _ fun p H2 _ e2 hp => hb H2 (e.trans e2) _ fun q H3 _ e3 hq => hr p q H3 (e3 p _ hp) hq ((e.trans e2).trans e3) H3 (Ex.refl H3) Q fun H4 e4 => k H4 ((e2.trans e3).trans e4)
theorem ev_opNE {r : R2} {ta tb : TE} {σ : L2.St} {xs : List V} {y z : V} (ha : EvL ta σ H xs) (hb : Ev tb σ H y) (hr : ∀ p H1, H1 p = some (.lst xs) → Ex H H1 → RV r (.ref p) y H1 z) : Ev (tOp r ta tb) σ H z := fun H1 e Q k =>
  ha H1 e _ fun p H2 _ e2 hp => hb H2 (e.trans e2) _ fun H3 e3 => hr p H3 (e3 p _ hp) ((e.trans e2).trans e3) H3 (Ex.refl H3) Q fun H4 e4 => k H4 ((e2.trans e3).trans e4)
/-- scene.order() -/
theorem el_order {σ : L2.St} {te : TE} (W : W21 K CS CC a d sc dxs ca cb chs cls S H) (h : Ev te σ H (.ref sc)) (ok : OkC chs cls) (srt : sortedS (keysT cls) = true) (hw : ∀ x ∈ keysT cls, wOf cls x ∈ ([2, 1, 0] : List Int)) :
    EvL (tMeth CS "order" (spOrder K CS CC) [] E0 te tNil) σ H ((namesOf cls [2, 1, 0]).map V.str) := fun H1 e Q q => h H1 e _ fun H2 e2 => ⟨sc, dxs, _, rfl, (e.trans e2) _ _ W.hsc, rfl, sc, chs, cls, rfl, W.scene.same (e.trans e2), ok, fun p ys H3 pm pw s3 hp => by
    rw [order_is ok.ndc srt hw pm pw]
    exact q p _ (fresh_back (e2.trans s3) hp) (e2.trans ((show Ex H2 H3 from s3).trans (Ex.new hp))) upd_same⟩
/-- list(scene.masts_of(some)) -/
theorem el_mastsof {σ : L2.St} {te t2 : TE} {ns : List PySem.Str} {l : Addr} (W : W21 K CS CC a d sc dxs ca cb chs cls S H) (h : Ev te σ H (.ref sc)) (h2 : Ev t2 σ H (.ref l)) (hl : H l = some (.lst (ns.map V.str))) (ok : OkC chs cls) (srt : sortedS (keysT chs) = true) (hn : ∀ x ∈ ns, x ∈ keysT cls) (hz : ns.length * chs.length < 64) :
    EvL (tCB (rLstS K) (tCons (tMeth CS "masts_of" (spMastsOf K CS CC false) [] E0 te (tCons t2 tNil)) tNil)) σ H ((mastsOf chs cls ns).map V.str) := fun H1 e Q q => h H1 e _ fun H2 e2 => ⟨sc, dxs, _, rfl, (e.trans e2) _ _ W.hsc, rfl, h2 H2 (e.trans e2) _ fun H3 e3 => ⟨sc, l, chs, cls, ns, rfl, W.scene.same ((e.trans e2).trans e3), ok, ((e.trans e2).trans e3) _ _ hl, hn, hz, fun t M H4 nM sM hM s4 ht h4 => by
    rw [masts_is ok srt hn nM sM hM] at h4
    exact ⟨t, _, rfl, .inr (SqT.of h4), fun p hp => q p _ (fresh_back ((e2.trans e3).trans s4) hp) ((e2.trans e3).trans ((show Ex H3 H4 from s4).trans (Ex.new hp))) upd_same⟩⟩⟩
theorem ev_room {σ : L2.St} {te t2 : TE} {M : List PySem.Str} {l : Addr} (W : W21 K CS CC a d sc dxs ca cb chs cls S H) (h : Ev te σ H (.ref sc)) (h2 : Ev t2 σ H (.ref l)) (hl : H l = some (.lst (M.map V.str))) (ok : OkC chs cls) (hn : ∀ x ∈ M, x ∈ keysT chs) (hz : M.length < 1000) :
    Ev (tMeth CS "room" (spSRoom K CS CC false) [] E0 te (tCons t2 tNil)) σ H (.int (M.map fun m => (getT chs m).getD 0).sum) := fun H1 e Q q => h H1 e _ fun H2 e2 => ⟨sc, dxs, _, rfl, (e.trans e2) _ _ W.hsc, rfl, h2 H2 (e.trans e2) _ fun H3 e3 => ⟨sc, l, chs, cls, M, rfl, W.scene.same ((e.trans e2).trans e3), ok, ((e.trans e2).trans e3) _ _ hl, hn, hz, fun H4 s4 => q H4 ((e2.trans e3).trans s4)⟩⟩
end
/-! the names that are told of -/
def thgs : List V := [.str "a", .str "a1", .str "1a", .str "", .str "aB", .str "abcdefgh", .str "abcdefghi", .int 5, .non, .str "a b"]
def thgB : List Bool := [true, true, false, false, false, true, false, false, false, false]
theorem thg_is : thgs.map nameB = thgB := by decide +kernel
theorem thg_ok : ∀ v ∈ thgs, Plain v ∧ ∀ b, v ≠ .bl b := by
  intro v hv
  simp only [thgs, List.mem_cons, List.not_mem_nil, or_false] at hv
  rcases hv with rfl | rfl | rfl | rfl | rfl | rfl | rfl | rfl | rfl | rfl <;> refine ⟨?_, fun b z => nomatch z⟩ <;> first | exact trivial | (show PySem.Str.length _ ≤ 100; decide +kernel)
theorem rv_neBs {K : PySem.W.Frag} {H : Hp} {p q : Addr} (hp : SqL K H p (thgB.map V.bl)) (hq : SqL K H q (thgB.map V.bl)) : RV (rNeD K) (.ref p) (.ref q) H (.bl false) := fun H1 e _ k =>
  ⟨.list (thgB.map .bool), .list (thgB.map .bool), .lst (ex_l e hp) (dpA_map thgB fun x _ => .bl x), .lst (ex_l e hq) (dpA_map thgB fun x _ => .bl x), by decide +kernel, by decide +kernel, by
    rw [show PyData.eqv (.list (thgB.map .bool)) (.list (thgB.map .bool)) = true by decide +kernel]
    exact k H1 (Ex.refl _)⟩
end Mc
namespace Mc
open PySem L2 PySem.Spec PyProof.Rows Evl
section
variable {K : PySem.W.Frag} {CS CC : Addr} {σ : L2.St} {H : Hp}
/-! rows that are wrong, and one that is right -/
theorem okM : okN "m" := by decide +kernel
theorem okCc : okN "c" := by decide +kernel
theorem gd_call {a b o : Addr} {ys : List PySem.Str} (pm : ys.Perm []) : GoodRw ⟨a, b, [("m", .int 1)], [("C", (o, 0, ys))], .str "call"⟩ := by
  refine good_bad (by decide +kernel) (by rw [pm.length_eq]; decide) ?_
  unfold chkC
  rw [if_neg (by decide +kernel)]
theorem gd_worth {a b o : Addr} {n : Int} {ys : List PySem.Str} (hn : numB 0 1000 (.int n) = false) (pm : ys.Perm []) : GoodRw ⟨a, b, [("m", .int 1)], [("c", (o, n, ys))], .str "worth"⟩ := by
  refine good_bad (by decide +kernel) (by rw [pm.length_eq]; decide) ?_
  unfold chkC
  rw [if_pos okCc, if_neg (show ¬ (numB 0 1000 (V.int n) = true) by rw [hn]; decide)]
theorem gd_heard {a b o : Addr} {ys hs : List PySem.Str} (hl : hs.length < 64) (hh : ¬ ((∀ m ∈ hs, m ∈ (["m"] : List PySem.Str)) ∧ hs.Nodup)) (pm : ys.Perm hs) : GoodRw ⟨a, b, [("m", .int 1)], [("c", (o, 0, ys))], .str "heard"⟩ := by
  refine good_bad (by decide +kernel) (by rw [pm.length_eq]; exact hl) ?_
  unfold chkC
  rw [if_pos okCc, if_pos (show numB 0 1000 (V.int 0) = true by decide)]
  unfold chkH
  rw [if_neg fun z => hh ⟨fun m hm => z.1 m (pm.mem_iff.mpr hm), pm.nodup_iff.mp z.2⟩]
theorem gd_right {a b o : Addr} {ys : List PySem.Str} (pm : ys.Perm ["m"]) : GoodRw ⟨a, b, [("m", .int 1)], [("c", (o, 0, ys))], .non⟩ := by
  obtain rfl := List.perm_singleton.mp pm
  refine .inr ⟨rfl, [("m", 1)], rfl, nd1 _, nd1 _, (by show 1 < 64; decide), (by show 1 < 64; decide), fun x hx => ?_, fun x hx => ?_⟩
  · cases List.mem_singleton.mp hx
    exact ⟨okM, by decide, by decide⟩
  · cases List.mem_singleton.mp hx
    exact ⟨okCc, (by show (0 : Int) ≤ 0; decide), (by show (0 : Int) ≤ 1000; decide), nd1 _, (by show 1 < 64; decide), fun m hm => hm⟩
/-- for channels, calls, word in wrong: if _law_fault(channels, calls) != word: return False -/
theorem q_faults {lp : Addr} {bs : List Addr} {rs : List Rw} {D : Ends} {tz : TS} {tu : TS} {mk : Option V → Option V → Option V → L2.St} {o1 o2 o3 : Option V} (hi : (mk o1 o2 o3)[10]? = some (some (.ref lp))) (hl : H lp = some (.lst (bs.map V.ref))) (R : RowsAt K CC H bs rs)
    (hset : ∀ p1 p2 p3 v1 v2 v3, (((mk p1 p2 p3).set 11 (some v1)).set 12 (some v2)).set 13 (some v3) = mk (some v1) (some v2) (some v3))
    (g11 : ∀ v1 v2 v3, (mk (some v1) (some v2) (some v3))[11]? = some (some v1)) (g12 : ∀ v1 v2 v3, (mk (some v1) (some v2) (some v3))[12]? = some (some v2)) (g13 : ∀ v1 v2 v3, (mk (some v1) (some v2) (some v3))[13]? = some (some v3))
    (k : ∀ p1 p2 p3 H1, tz D (mk p1 p2 p3) H1) :
    tSeq (tFor (iList K (tVar 10)) (gTup K 3 (gCons (gName 11) (gCons (gName 12) (gCons (gName 13) gNil)))) (tIfS (tTest (tOp rNe (tCall (spFault K CC) [] E0 (tCons (tVar 11) (tCons (tVar 12) tNil))) (tVar 13))) tu tNext)) tz D (mk o1 o2 o3) H := by
  refine ⟨_, hi, lp, rfl, ⟨_, sq_of hl⟩, for_list (xs := bs.map V.ref) (D := { D with nx := tz D }) (fun i σ' H' => ∃ p1 p2 p3, σ' = mk p1 p2 p3 ∧ H' lp = some (.lst (bs.map V.ref)) ∧ ∀ (j : Nat) (b : Addr) (r : Rw), i ≤ j → bs[j]? = some b → rs[j]? = some r → RowAt K CC H' b r) ⟨o1, o2, o3, rfl, hl, fun j b r _ h1 h2 => R.row j b r h1 h2⟩ (fun i σ' H' _ ⟨_, _, _, _, h, _⟩ => sq_of h) ?_ (fun σ' H' ⟨p1, p2, p3, e, _⟩ => by rw [e]; exact k p1 p2 p3 H')⟩
  rintro i x σ' H' hx ⟨p1, p2, p3, rfl, hl', hr⟩
  rw [List.getElem?_map] at hx
  obtain ⟨b, hb, rfl⟩ := Option.map_eq_some_iff.mp hx
  obtain ⟨r, hri⟩ : ∃ r, rs[i]? = some r := ⟨rs[i]'(by rw [← R.len]; exact (List.getElem?_eq_some_iff.mp hb).1), List.getElem?_eq_getElem _⟩
  have W := hr i b r (Nat.le_refl _) hb hri
  refine ⟨b, _, rfl, st_of W.tup, rfl, _, _, rfl, _, _, rfl, _, _, rfl, rfl, ?_⟩
  show tIfS _ _ _ _ ((((mk p1 p2 p3).set 11 (some (.ref r.ch))).set 12 (some (.ref r.cl))).set 13 (some r.wd)) H'
  rw [hset]
  have fin : ∀ H4, (∀ u o, u ≠ r.ch → u ≠ r.cl → H' u = some o → H4 u = some o) → ∃ p1 p2 p3, mk (some (.ref r.ch)) (some (.ref r.cl)) (some r.wd) = mk p1 p2 p3 ∧ H4 lp = some (.lst (bs.map V.ref)) ∧ ∀ (j : Nat) (b : Addr) (r : Rw), i + 1 ≤ j → bs[j]? = some b → rs[j]? = some r → RowAt K CC H4 b r := fun H4 k4 => by
    have go : ∀ {u : Addr} {o : HO}, H' u = some o → (∀ kvs, o ≠ .dK kvs) → H4 u = some o := fun {u o} z n => k4 u o (fun e => by rw [e, W.hch] at z; exact n _ (Option.some.inj z).symm) (fun e => by rw [e, W.hcl] at z; exact n _ (Option.some.inj z).symm) z
    refine ⟨_, _, _, rfl, go hl' fun _ => by simp, fun j b' r' hj h1 h2 => ?_⟩
    have W' := hr j b' r' (by omega) h1 h2
    obtain ⟨a1, a2, a3, a4⟩ := R.ap i j r r' (by omega) hri h2
    refine ⟨go W'.tup fun _ => by simp, W'.ne, k4 _ _ a1.symm a3.symm W'.hch, k4 _ _ a2.symm a4.symm W'.hcl, fun z hz => ?_, W'.good⟩
    obtain ⟨dx', q', c1, c2⟩ := (W'.cal z hz).here
    exact ⟨dx', q', go c1 fun _ => by simp, go c2 fun _ => by simp⟩
  refine ⟨_, g11 _ _ _, _, g12 _ _ _, r.ch, r.cl, r.chv, r.cls, rfl, W.ne, W.hch, W.hcl, W.cal, ?_⟩
  rcases W.good with ⟨wd, hwd, okx, bad⟩ | ⟨hwd, chs, hk, okc⟩
  · refine .inl ⟨wd, okx, bad, fun H4 k4 => ⟨_, g13 _ _ _, by rw [hwd]; rfl, false, by rw [hwd]; simp, ?_⟩⟩
    exact fin H4 k4
  · refine .inr ⟨chs, hk, okc, fun H4 k4 => ⟨_, g13 _ _ _, by rw [hwd]; rfl, false, by rw [hwd]; simp, ?_⟩⟩
    exact fin H4 k4
/-! the end -/
theorem sc_go {Q : VK} {chA clA : Addr} {chs : Chs} {cls : Cls'} (hne : chA ≠ clA) (hch : H chA = some (.dK (kvT vI chs))) (hcl : H clA = some (.dK (kvT vO cls))) (ok : OkC chs cls) (hC : CallsH K CC H cls)
    (q : ∀ (x : Addr) (chs' : Chs) (cls' : Cls') (H' : Hp), chs'.Perm chs → cls'.Perm cls → SceneH K CS CC H' x chs' cls' → ScnX CS H' x chs' cls' → Ex H H' → Q (.ref x) H') :
    ∀ x dx, H x = none → H dx = none → dx ≠ x → spSInit K CS CC (.ref x :: [.ref chA, .ref clA]) (upd (upd H dx (.own x)) x (.ins CS dx [])) (fun v H2 => v = .non ∧ Q (.ref x) H2) E0 := by
  intro x dx hx hdx n
  have s1 : Same H (upd (upd H dx (.own x)) x (.ins CS dx [])) := fun b o z => by rw [upd_ne (ne_of_none z hx), upd_ne (ne_of_none z hdx)]; exact z
  refine ⟨x, dx, chA, clA, chs, cls, rfl, hne, upd_same, s1 _ _ hch, s1 _ _ hcl, ok, hC.same s1, fun chs' cls' H2 p1 p2 hS hX k => ⟨rfl, ?_⟩⟩
  exact q x chs' cls' H2 p1 p2 hS hX fun u o z => k u o (s1 u o z) fun e => by rw [List.mem_singleton.mp e, hx] at z; cases z
/-- Scene({'m': 1}, {}) -/
theorem es_one : ∀ H1, Ex H H1 → ∀ Q : VK, (∀ x H2, Ex H1 H2 → ScnX CS H2 x [("m", 1)] [] → Q (.ref x) H2) → tMake CS (spSInit K CS CC) [] E0 (tCons (tDisp [(tC (.str "m"), tC (.int 1))]) (tCons tDNewK tNil)) σ H1 Q := fun H1 e Q q => by
  dsimp only [tMake, tCons, tNil]
  refine ed_disp1 (k := "m") (v := .int 1) ev_c H1 e _ fun a H2 ha e2 h2 => fun b hb => ?_
  have e3 := Ex.new (o := .dK []) hb
  refine sc_go (chs := [("m", 1)]) (cls := []) (fun z => by rw [← z, h2] at hb; cases hb) (e3 _ _ h2) upd_same ⟨nd1 _, List.nodup_nil, by decide, by decide, fun x hx => ?_, fun x hx => nomatch hx⟩ (fun x hx => nomatch hx) fun x chs' cls' H' p1 p2 _ hX x5 => ?_
  · cases List.mem_singleton.mp hx
    exact ⟨okM, by decide, by decide⟩
  · rw [List.perm_singleton.mp p1, p2.eq_nil] at hX
    exact q x H' (e2.trans (e3.trans x5)) hX
theorem ev_eqScene : Ev (tOp (rEqI CS (spSEq CS) E0) (tMake CS (spSInit K CS CC) [] E0 (tCons (tDisp [(tC (.str "m"), tC (.int 1))]) (tCons tDNewK tNil))) (tMake CS (spSInit K CS CC) [] E0 (tCons (tDisp [(tC (.str "m"), tC (.int 1))]) (tCons tDNewK tNil)))) σ H (.bl true) := fun H1 e Q q =>
  es_one H1 e _ fun x H2 e2 hX => es_one H2 (e.trans e2) _ fun y H3 e3 hY => by
    obtain ⟨dx, a, b, h1, _⟩ := (hX.same e3).here
    obtain ⟨dy, a', b', h2, _⟩ := hY.here
    exact ⟨x, y, dx, dy, _, _, rfl, rfl, h1, h2, x, y, _, _, rfl, hX.same e3, hY, nd1 _, List.nodup_nil, fun H4 s4 => ⟨true, rfl, q H4 ((e2.trans e3).trans s4)⟩⟩
theorem lay_abc : ∀ x ∈ (["b", "a"] : List PySem.Str), PyData.strOk x = true := by decide +kernel
theorem ev_eqCalls {ta tb : TE} {h1 h2 : List PySem.Str} (ha : EvCall K CC ta σ H 1 h1) (hb : EvCall K CC tb σ H 1 h2) (pm : h1.Perm h2) (ly : ∀ x ∈ h1, PyData.strOk x = true) : Ev (tOp (rEqI CC (spCEq K CC) E0) ta tb) σ H (.bl true) := fun H1 e Q q =>
  ha H1 e _ fun x ys H2 _ e2 hX p1 s1 => hb H2 (e.trans e2) _ fun y zs H3 _ e3 hY p2 s2 => by
    have hX := CallH.same hX e3
    obtain ⟨dx, a, c1, _⟩ := hX.here
    obtain ⟨dy, a', c2, _⟩ := hY.here
    have : ys = zs := srt_eq (p1.trans (pm.trans p2.symm)) s1 s2
    refine ⟨x, y, dx, dy, _, _, rfl, rfl, c1, c2, x, y, 1, 1, ys, zs, rfl, hX, hY, fun z hz => ly z (p1.mem_iff.mp hz), fun z hz => ly z (pm.mem_iff.mpr (p2.mem_iff.mp hz)), fun H4 e4 => ⟨_, rfl, ?_⟩⟩
    rw [this]
    simp only [decide_true, Bool.and_self]
    exact q H4 ((e2.trans e3).trans e4)
theorem ev_neCalls {ta tb : TE} {n m : Int} {h1 h2 : List PySem.Str} (ha : EvCall K CC ta σ H n h1) (hb : EvCall K CC tb σ H m h2) (hn : n ≠ m) (l1 : ∀ x ∈ h1, PyData.strOk x = true) (l2 : ∀ x ∈ h2, PyData.strOk x = true) : Ev (tOp (rNeI CC (spCEq K CC) E0) ta tb) σ H (.bl true) := fun H1 e Q q =>
  ha H1 e _ fun x ys H2 _ e2 hX p1 s1 => hb H2 (e.trans e2) _ fun y zs H3 _ e3 hY p2 s2 => by
    have hX := CallH.same hX e3
    obtain ⟨dx, a, c1, _⟩ := hX.here
    obtain ⟨dy, a', c2, _⟩ := hY.here
    refine ⟨x, y, dx, dy, _, _, rfl, rfl, c1, c2, x, y, n, m, ys, zs, rfl, hX, hY, fun z hz => l1 z (p1.mem_iff.mp hz), fun z hz => l2 z (p2.mem_iff.mp hz), fun H4 e4 => ⟨_, rfl, ?_⟩⟩
    rw [decide_eq_false hn]
    simp only [Bool.false_and, Bool.not_false]
    exact q H4 ((e2.trans e3).trans e4)
end
end Mc
namespace Mc
open PySem L2 PySem.Spec PyProof.Rows Evl
abbrev s_law : Stmt := top 26
abbrev nmL : List PySem.Str := ["script", "draw", "scene", "names", "worth", "some", "masts", "seating", "used", "due", "wrong", "channels", "calls", "word", "name", "mast", "one", "many", "thing"]
theorem sc_law : FnScope nmL ["script"] (defScope s_law) := ⟨rfl, rfl, rfl, by decide +kernel, rfl, by decide +kernel, by decide +kernel⟩
structure TxL (K : PySem.W.Frag) (mg : PySem.Str → Option Value) (CS CC fS fC : Addr) (fdS fdC : FuncData) : Prop where
  clS : Cls K CS
  nCh : NoAttr K CS "channels"
  nCa : NoAttr K CS "calls"
  clC : Cls K CC
  nW : NoAttr K CC "worth"
  nH : NoAttr K CC "heard"
  len : mg "len" = none
  dict : mg "dict" = none
  list : mg "list" = none
  sorted : mg "sorted" = none
  sum : mg "sum" = none
  any : mg "any" = none
  zip : mg "zip" = none
  eqS : PySem.W.findIn K (.ref CS) "__eq__" = some (some (.ref fS))
  isS : PySem.W.isFn K (.ref fS) = true
  bS : Binds K fdS ["self", "other"] []
  eqC : PySem.W.findIn K (.ref CC) "__eq__" = some (some (.ref fC))
  neC : PySem.W.findIn K (.ref CC) "__ne__" = some (some (.builtin "object.__ne__"))
  obC : PySem.W.mroIn K CC (.type "object") = some true
  isC : PySem.W.isFn K (.ref fC) = true
  bC : Binds K fdC ["self", "other"] []
def spLaw (K : PySem.W.Frag) : Sp := fun vs H Q _ => ∃ (a : Addr) (ns : List Int), vs = [.ref a] ∧ SqL K H a (ns.map V.int) ∧ ns.length ≤ 63 ∧ ∀ H', Q (.bl true) H'
theorem pi_tupK5 {X : Cx} {K : PySem.W.Frag} {tg l : Expr} {tl : TE} (h : X.K = K) (hl : PE X l tl) : PI X tg l (iTup K tl) := by
  subst h
  exact pi_tup hl
theorem okN_lay {x : PySem.Str} (h : okN x) : PyData.strOk x = true := by
  have l1 : ∀ c ∈ letters.cps.toList, c < 1114112 := by decide +kernel
  have l2 : ∀ c ∈ figures.cps.toList, c < 1114112 := by decide +kernel
  unfold PyData.strOk
  rw [Array.all_eq_true']
  intro c hc
  exact decide_eq_true ((h.2.2.2 c (by simpa using hc)).elim (l1 c) (l2 c))
theorem s_forNT {K : PySem.W.Frag} {g : TG} {tu : TS} {D : Ends} {σ : L2.St} {H : Hp} {xs : List V} {tl : TE} (h : EvU tl σ H xs) (Pv : Addr → Nat → L2.St → Hp → Prop) (h0 : ∀ p H1, H p = none → Ex H H1 → H1 p = some (.tup xs) → Pv p 0 σ H1) (hl : ∀ p i σ' H', i ≤ xs.length → Pv p i σ' H' → SqT K H' p xs)
    (hs : ∀ p i x σ' H', xs[i]? = some x → Pv p i σ' H' → g x σ' H' fun σ2 H2 => tu { D with nx := Pv p (i + 1), ct := Pv p (i + 1), bk := D.nx } σ2 H2) (hd : ∀ p σ' H', Pv p xs.length σ' H' → D.nx σ' H') : tFor (iTup K tl) g tu D σ H :=
  h H (Ex.refl H) _ fun p H1 hp e h1 => ⟨p, rfl, ⟨xs, st_of h1⟩, for_tup (Pv p) (h0 p H1 hp e h1) (hl p) (hs p) (hd p)⟩
theorem q_forNT {K : PySem.W.Frag} {g : TG} {tu tz : TS} {D : Ends} {σ : L2.St} {H : Hp} {xs : List V} {tl : TE} (h : EvU tl σ H xs) (Pv : Addr → Nat → L2.St → Hp → Prop) (h0 : ∀ p H1, H p = none → Ex H H1 → H1 p = some (.tup xs) → Pv p 0 σ H1) (hl : ∀ p i σ' H', i ≤ xs.length → Pv p i σ' H' → SqT K H' p xs)
    (hs : ∀ p i x σ' H', xs[i]? = some x → Pv p i σ' H' → g x σ' H' fun σ2 H2 => tu { D with nx := Pv p (i + 1), ct := Pv p (i + 1), bk := tz D } σ2 H2) (hd : ∀ p σ' H', Pv p xs.length σ' H' → tz D σ' H') : tSeq (tFor (iTup K tl) g tu) tz D σ H :=
  s_forNT (D := { D with nx := tz D }) h Pv h0 hl hs hd
section
variable {P : Program} {w : World} {K : PySem.W.Frag} {mg : PySem.Str → Option Value} {base : Heap}
theorem op_neIK {X : Cx} {n : Nat} {C f : Addr} {fd : FuncData} {ps : List PySem.Str} {sp : Sp} (hP : X.prog = P) (hw : X.w = w) (hK : X.K = K) (hmg : X.mg = mg) (hb0 : X.base = base) (F : FnOk P w K mg base CX0 n f fd ps sp) (hs : PySem.W.findIn K (.ref C) "__eq__" = some (some (.ref f))) (hsn : PySem.W.findIn K (.ref C) "__ne__" = some (some (.builtin "object.__ne__"))) (hm : PySem.W.mroIn K C (.type "object") = some true)
    (hf : PySem.W.isFn K (.ref f) = true) (hb : Binds K fd ps []) (hr : Room (n + 1) X.A) : OpR X (compareOp .NotEq) (rNeI C sp E0) := by
  subst hP hw hK hmg hb0
  exact op_neI F hs hsn hm hf hb (fun pins σ H s e s' I h => nomatch h) hr
theorem op_eqIK {X : Cx} {n : Nat} {C f : Addr} {fd : FuncData} {ps : List PySem.Str} {sp : Sp} (hP : X.prog = P) (hw : X.w = w) (hK : X.K = K) (hmg : X.mg = mg) (hb0 : X.base = base) (F : FnOk P w K mg base CX0 n f fd ps sp) (hs : PySem.W.findIn K (.ref C) "__eq__" = some (some (.ref f)))
    (hf : PySem.W.isFn K (.ref f) = true) (hb : Binds K fd ps []) (hr : Room n X.A) : OpR X (compareOp .Eq) (rEqI C sp E0) := by
  subst hP hw hK hmg hb0
  exact op_eqI F hs hf hb (fun pins σ H s e s' I h => nomatch h) hr
theorem ok_law {f CS CC fS fC : Addr} {fd fdS fdC : FuncData} (F : Fun K "law" "law" s_law f fd) (T : TxL K mg CS CC fS fC fdS fdC) (c__law_scene : Cal P w K mg base 6 "_law_scene" ["draw", "masts", "calls"] (spScene K CS CC))
    (c__law_take : Cal P w K mg base 2 "_law_take" ["draw", "many"] (spTake K)) (c__law_pick : Cal P w K mg base 3 "_law_pick" ["draw", "items"] (spPick K)) (c_Scene_order : CalM P w K mg base CS 4 "order" ["self"] (spOrder K CS CC))
    (c_Scene_masts_of : CalM P w K mg base CS 1 "masts_of" ["self", "names"] (spMastsOf K CS CC false)) (c_Scene_room : CalM P w K mg base CS 1 "room" ["self", "masts"] (spSRoom K CS CC false)) (c_wrong_seating : Cal P w K mg base 1 "wrong_seating" ["scene", "seating"] (spWrongV K CS CC))
    (c_is_name : Cal P w K mg base 1 "is_name" ["thing"] spNameV) (c_Call : CalI P w K mg base CC 1 "Call" ["self", "worth", "heard"] (spCInit K CC)) (c_Scene : CalI P w K mg base CS 4 "Scene" ["self", "channels", "calls"] (spSInit K CS CC)) (c__law_fault : Cal P w K mg base 8 "_law_fault" ["channels", "calls"] (spFault K CC))
    (FS : FnOk P w K mg base CX0 1 fS fdS ["self", "other"] (spSEq CS)) (FC : FnOk P w K mg base CX0 1 fC fdC ["self", "other"] (spCEq K CC)) :
    FnOk P w K mg base CX0 9 f fd ["script"] (spLaw K) := by
  refine F.ok sc_law (fun vs H Q E h => ?_) (fun cdv A outer s H vs Q E hr h => ?_)
  · obtain ⟨a, ns, rfl, _⟩ := h
    rfl
  · obtain ⟨a, ns, rfl, hS, hlen, k⟩ := h
    have hu := hu_of hr
    refine ⟨_, (pss_cons (ps_set (i := 1) sc_law.nd rfl (Or.inr rfl) (pe_lst (pa_cons (pv 0) (pa_cons pe_int pa_nil))))
      (pss_cons (ps_set (i := 2) sc_law.nd rfl (Or.inr rfl) (pe_cal c__law_scene (hr.mono (by decide)) (by rfl) (pa_cons (pv 1) (pa_cons pe_int (pa_cons pe_int pa_nil)))))
      (pss_cons (ps_set (i := 3) sc_law.nd rfl (Or.inl rfl) (pe_lst pa_nil))
      (pss_cons (ps_for PassesOwn.never rfl (pi_tup (pe_tup (pa_cons pe_int (pa_cons pe_int (pa_cons pe_int pa_nil))))) (pg_name (i := 4) sc_law.nd rfl (Or.inr rfl))
        (pss_one (ps_set (i := 3) sc_law.nd rfl (Or.inl rfl) (pe_op op_cat (pv 3) (pe_lc (own := [("name", 14)]) (g := gName 14) rfl sc_law.nd (pi_list (pe_callB (cr_srtD rfl) (by rfl) T.sorted boot_sorted (pa_cons (pe_fld (pv 2) rfl) pa_nil))) (blkOk_by (own := [("name", 14)]) (N := nmL) (sc := defScope s_law) (by decide +kernel)) (fun _ _ _ _ _ => pg_name (i := 14) sc_law.nd rfl (Or.inl rfl)) (fun _ _ _ _ _ => pts_one (pt_cmpR op_eq (pe_fldK (K := K) rfl (pe_dget hu (pe_fldK (K := K) rfl (pv 2) rfl) (pv 14) (fun _ _ => rfl)) rfl) (pv 4) (nomark _))) (fun _ _ _ _ _ => (pv 14)))))))
      (pss_cons (ps_if (PW.pt (pw_or (pt_cmpR (op_neD hr.units) (pe_calM0 (pv 2) T.clS c_Scene_order (hr.mono (by decide))) (pv 3) (nomark _)) (pw_or (pt_cmpR (op_neD hr.units) (pe_callTy (cr_lstD rfl) (by rfl) T.list boot_list (pa_cons (pe_fld (pv 2) rfl) pa_nil)) (pe_callB (cr_srtD rfl) (by rfl) T.sorted boot_sorted (pa_cons (pe_fld (pv 2) rfl) pa_nil)) (nomark _)) (pw_or1 (pt_cmpR (op_neD hr.units) (pe_callTy (cr_lstD rfl) (by rfl) T.list boot_list (pa_cons (pe_fld (pv 2) rfl) pa_nil)) (pe_callB (cr_srtD rfl) (by rfl) T.sorted boot_sorted (pa_cons (pe_fld (pv 2) rfl) pa_nil)) (nomark _))))))
        (pss_one (ps_ret pe_bl))
        pss_nil)
      (pss_cons (ps_set (i := 5) sc_law.nd rfl (Or.inr rfl) (pe_lc (own := [("name", 14)]) (g := gName 14) rfl sc_law.nd (pi_list (pv 3)) (blkOk_by (own := [("name", 14)]) (N := nmL) (sc := defScope s_law) (by decide +kernel)) (fun _ _ _ _ _ => pg_name (i := 14) sc_law.nd rfl (Or.inl rfl)) (fun _ _ _ _ _ => pts_one (pt_cmpR op_eq (pe_cal c__law_take (hr.mono (by decide)) (by rfl) (pa_cons (pv 1) (pa_cons pe_int pa_nil))) pe_int (nomark _))) (fun _ _ _ _ _ => (pv 14))))
      (pss_cons (ps_setLc (i := 6) (own := [("mast", 15)]) (g := gName 15) rfl sc_law.nd rfl rfl (sw_true rfl rfl rfl (by decide +kernel)) (pi_list (pe_callB (cr_srtD rfl) (by rfl) T.sorted boot_sorted (pa_cons (pe_fld (pv 2) rfl) pa_nil))) (blkOk_by (own := [("mast", 15)]) (N := nmL) (sc := defScope s_law) (by decide +kernel)) (fun _ _ _ _ _ => pg_name (i := 15) sc_law.nd rfl (Or.inr rfl)) (fun _ _ _ _ _ => pts_one (pt_val (pe_callB (cr_anyK (K := K) rfl rfl) (by rfl) T.any boot_any (pa_cons (pe_lc (own := [("name", 14)]) (g := gName 14) (tt := tYes) rfl sc_law.nd (pi_listK (K := K) rfl (pv 5)) (blkOk_by (own := [("name", 14)]) (N := nmL) (sc := relS _ (defScope s_law)) (by decide +kernel)) (fun _ _ _ _ _ => pg_name (i := 14) sc_law.nd rfl (Or.inl rfl)) (fun _ _ _ _ _ => pts_nil) (fun _ _ _ _ _ => (pe_cmpR (op_inK (K := K) rfl) (pv 15) (pe_fldK (K := K) rfl (pe_dget hu (pe_fldK (K := K) rfl (pv 2) rfl) (pv 14) (fun _ _ => rfl)) rfl) (by rfl)))) pa_nil)))) (fun _ _ _ _ _ => (pv 15)))
      (pss_cons (ps_if (PW.pt (pw_or (pt_cmpR (op_neD hr.units) (pe_callTy (cr_lstS (K := K) rfl) (by rfl) T.list boot_list (pa_cons (pe_calM (pv 2) T.clS c_Scene_masts_of (hr.mono (by decide)) (pa_cons (pv 5) pa_nil)) pa_nil)) (pv 6) (nomark _)) (pw_or1 (pt_cmpR op_ne (pe_calM (pv 2) T.clS c_Scene_room (hr.mono (by decide)) (pa_cons (pv 6) pa_nil)) (pe_callB (cr_sumK (K := K) rfl rfl) (by rfl) T.sum boot_sum (pa_cons (pe_lc (own := [("mast", 15)]) (g := gName 15) (tt := tYes) rfl sc_law.nd (pi_list (pv 6)) (blkOk_by (own := [("mast", 15)]) (N := nmL) (sc := defScope s_law) (by decide +kernel)) (fun _ _ _ _ _ => pg_name (i := 15) sc_law.nd rfl (Or.inl rfl)) (fun _ _ _ _ _ => pts_nil) (fun _ _ _ _ _ => (pe_dget hu (pe_fldK (K := K) rfl (pv 2) rfl) (pv 15) (fun _ _ => rfl)))) pa_nil)) (nomark _)))))
        (pss_one (ps_ret pe_bl))
        pss_nil)
      (pss_cons (ps_set (i := 7) sc_law.nd rfl (Or.inr rfl) (pe_callTy (call_dictPK (K := K) rfl rfl) (by rfl) T.dict boot_dict (pa_cons (pe_lc (own := [("name", 14)]) (g := gName 14) (tt := tYes) rfl sc_law.nd (pi_list (pv 5)) (blkOk_by (own := [("name", 14)]) (N := nmL) (sc := defScope s_law) (by decide +kernel)) (fun _ _ _ _ _ => pg_name (i := 14) sc_law.nd rfl (Or.inl rfl)) (fun _ _ _ _ _ => pts_nil) (fun _ _ _ _ _ => (pe_tup (pa_cons (pv 14) (pa_cons (pe_cal c__law_pick (hr.mono (by decide)) (by rfl) (pa_cons (pv 1) (pa_cons (pe_callTy (cr_lstD rfl) (by rfl) T.list boot_list (pa_cons (pe_fldK (K := K) rfl (pv 2) rfl) pa_nil)) pa_nil))) pa_nil))))) pa_nil)))
      (pss_cons (ps_lock (ps_setLc (i := 8) (own := [("mast", 15)]) (g := gName 15) (tt := tYes) rfl sc_law.nd rfl rfl (sw_true rfl rfl rfl (by decide +kernel)) (pi_keys (pe_fld (pv 2) rfl)) (blkOk_by (own := [("mast", 15)]) (N := nmL) (sc := defScope s_law) (by decide +kernel)) (fun _ _ _ _ _ => pg_name (i := 15) sc_law.nd rfl (Or.inr rfl)) (fun _ _ _ _ _ => pts_nil) (fun _ _ _ _ _ => (pe_callB (call_len_seqK (K := K) rfl) (by rfl) T.len PySem.boot_len (pa_cons (pe_lock (pe_lc (own := [("one", 16)]) (g := gName 16) rfl sc_law.nd (pi_keys (pv 7)) (blkOk_by (own := [("one", 16)]) (N := nmL) (sc := relS _ (defScope s_law)) (by decide +kernel)) (fun _ _ _ _ _ => pg_name (i := 16) sc_law.nd rfl (Or.inl rfl)) (fun _ _ _ _ _ => pts_one (pt_cmpR op_eq (pe_dget hu (pv 7) (pv 16) (fun _ _ => rfl)) (pv 15) (nomark _))) (fun _ _ _ _ _ => (pv 16)))) pa_nil)))))
      (pss_cons (ps_set (i := 9) sc_law.nd rfl (Or.inl rfl) pe_non)
      (pss_cons (ps_if (pt_val (pe_callB (cr_anyK (K := K) rfl rfl) (by rfl) T.any boot_any (pa_cons (pe_lock (pe_lc (own := [("many", 17), ("mast", 15)]) (tt := tYes) rfl sc_law.nd (Zld.pi_zipD (by rfl) T.zip (pa_cons (pv 8) (pa_cons (pe_fld (pv 2) rfl) pa_nil))) (blkOk_by (own := [("many", 17), ("mast", 15)]) (N := nmL) (sc := defScope s_law) (by decide +kernel)) (fun _ _ _ _ _ => (pg_tupK (K := K) rfl (pg_tup (n := 2) rfl (pgs_cons (pg_name (i := 17) sc_law.nd rfl (Or.inl rfl)) (pgs_cons (pg_name (i := 15) sc_law.nd rfl (Or.inl rfl)) pgs_nil))))) (fun _ _ _ _ _ => pts_nil) (fun _ _ _ _ _ => (pe_cmpR op_gt (pv 17) (pe_dget hu (pe_fldK (K := K) rfl (pv 2) rfl) (pv 15) (fun _ _ => rfl)) (nomark _))))) pa_nil)))
        (pss_one (ps_set (i := 9) sc_law.nd rfl (Or.inl rfl) pe_str))
        pss_nil)
      (pss_cons (ps_if (pt_val (pe_callB (cr_anyK (K := K) rfl rfl) (by rfl) T.any boot_any (pa_cons (pe_lock (pe_lc (own := [("name", 14)]) (g := gName 14) (tt := tYes) rfl sc_law.nd (pi_keys (pv 7)) (blkOk_by (own := [("name", 14)]) (N := nmL) (sc := defScope s_law) (by decide +kernel)) (fun _ _ _ _ _ => pg_name (i := 14) sc_law.nd rfl (Or.inl rfl)) (fun _ _ _ _ _ => pts_nil) (fun _ _ _ _ _ => (pe_cmpR (op_notInK (K := K) rfl) (pe_dget hu (pv 7) (pv 14) (fun _ _ => rfl)) (pe_fldK (K := K) rfl (pe_dget hu (pe_fldK (K := K) rfl (pv 2) rfl) (pv 14) (fun _ _ => rfl)) rfl) (by rfl))))) pa_nil)))
        (pss_one (ps_set (i := 9) sc_law.nd rfl (Or.inl rfl) pe_str))
        pss_nil)
      (pss_cons (ps_if (PW.pt (pw_or (pt_cmpR op_ne (pe_cal c_wrong_seating (hr.mono (by decide)) (by rfl) (pa_cons (pv 2) (pa_cons (pv 7) pa_nil))) (pv 9) (nomark _)) (pw_or1 (pt_cmpR op_ne (pe_cal c_wrong_seating (hr.mono (by decide)) (by rfl) (pa_cons (pv 2) (pa_cons (pe_disp (pps_cons pe_str pe_str pps_nil) (by rfl) (by rfl) (fun z => by cases z) (by decide)) pa_nil))) pe_str (nomark _)))))
        (pss_one (ps_ret pe_bl))
        pss_nil)
      (pss_cons (ps_if (pt_cmpR (op_neD hr.units) (pe_lc (own := [("thing", 18)]) (g := gName 18) (tt := tYes) rfl sc_law.nd (pi_tupK5 (K := K) rfl (pe_tup (pa_cons pe_str (pa_cons pe_str (pa_cons pe_str (pa_cons pe_str (pa_cons pe_str (pa_cons pe_str (pa_cons pe_str (pa_cons pe_int (pa_cons pe_non (pa_cons pe_str pa_nil)))))))))))) (blkOk_by (own := [("thing", 18)]) (N := nmL) (sc := defScope s_law) (by decide +kernel)) (fun _ _ _ _ _ => pg_name (i := 18) sc_law.nd rfl (Or.inl rfl)) (fun _ _ _ _ _ => pts_nil) (fun _ _ _ _ _ => (pe_cal c_is_name (hr.mono (by decide)) (by rfl) (pa_cons (pv 18) pa_nil)))) (pe_lst (pa_cons pe_bl (pa_cons pe_bl (pa_cons pe_bl (pa_cons pe_bl (pa_cons pe_bl (pa_cons pe_bl (pa_cons pe_bl (pa_cons pe_bl (pa_cons pe_bl (pa_cons pe_bl pa_nil))))))))))) (nomark _))
        (pss_one (ps_ret pe_bl))
        pss_nil)
      (pss_cons (ps_set (i := 10) sc_law.nd rfl (Or.inl rfl) (pe_lst (pa_cons (pe_tup (pa_cons (pe_disp (pps_cons pe_str pe_int pps_nil) (by rfl) (by rfl) (fun z => by cases z) (by decide)) (pa_cons pe_dnewK (pa_cons pe_str pa_nil)))) (pa_cons (pe_tup (pa_cons (pe_disp (pps_cons pe_str (pe_un un_neg pe_int) pps_nil) (by rfl) (by rfl) (fun z => by cases z) (by decide)) (pa_cons pe_dnewK (pa_cons pe_str pa_nil)))) (pa_cons (pe_tup (pa_cons (pe_disp (pps_cons pe_str pe_int pps_nil) (by rfl) (by rfl) (fun z => by cases z) (by decide)) (pa_cons pe_dnewK (pa_cons pe_str pa_nil)))) (pa_cons (pe_tup (pa_cons (pe_disp (pps_cons pe_str pe_bl pps_nil) (by rfl) (by rfl) (fun z => by cases z) (by decide)) (pa_cons pe_dnewK (pa_cons pe_str pa_nil)))) pa_nil))))))
      (pss_cons (ps_set (i := 10) sc_law.nd rfl (Or.inl rfl) (pe_op op_cat (pv 10) (pe_lst (pa_cons (pe_tup (pa_cons (pe_disp (pps_cons pe_str pe_int pps_nil) (by rfl) (by rfl) (fun z => by cases z) (by decide)) (pa_cons (pe_disp (pps_cons pe_str (pe_calI c_Call (hr.mono (by decide)) (by rfl) (pa_cons pe_int (pa_cons (pe_lst pa_nil) pa_nil))) pps_nil) (by rfl) (by rfl) (fun z => by cases z) (by decide)) (pa_cons pe_str pa_nil)))) (pa_cons (pe_tup (pa_cons (pe_disp (pps_cons pe_str pe_int pps_nil) (by rfl) (by rfl) (fun z => by cases z) (by decide)) (pa_cons (pe_disp (pps_cons pe_str (pe_calI c_Call (hr.mono (by decide)) (by rfl) (pa_cons (pe_un un_neg pe_int) (pa_cons (pe_lst pa_nil) pa_nil))) pps_nil) (by rfl) (by rfl) (fun z => by cases z) (by decide)) (pa_cons pe_str pa_nil)))) (pa_cons (pe_tup (pa_cons (pe_disp (pps_cons pe_str pe_int pps_nil) (by rfl) (by rfl) (fun z => by cases z) (by decide)) (pa_cons (pe_disp (pps_cons pe_str (pe_calI c_Call (hr.mono (by decide)) (by rfl) (pa_cons pe_int (pa_cons (pe_lst pa_nil) pa_nil))) pps_nil) (by rfl) (by rfl) (fun z => by cases z) (by decide)) (pa_cons pe_str pa_nil)))) pa_nil))))))
      (pss_cons (ps_set (i := 10) sc_law.nd rfl (Or.inl rfl) (pe_op op_cat (pv 10) (pe_lst (pa_cons (pe_tup (pa_cons (pe_disp (pps_cons pe_str pe_int pps_nil) (by rfl) (by rfl) (fun z => by cases z) (by decide)) (pa_cons (pe_disp (pps_cons pe_str (pe_calI c_Call (hr.mono (by decide)) (by rfl) (pa_cons pe_int (pa_cons (pe_lst (pa_cons pe_str pa_nil)) pa_nil))) pps_nil) (by rfl) (by rfl) (fun z => by cases z) (by decide)) (pa_cons pe_str pa_nil)))) (pa_cons (pe_tup (pa_cons (pe_disp (pps_cons pe_str pe_int pps_nil) (by rfl) (by rfl) (fun z => by cases z) (by decide)) (pa_cons (pe_disp (pps_cons pe_str (pe_calI c_Call (hr.mono (by decide)) (by rfl) (pa_cons pe_int (pa_cons (pe_lst (pa_cons pe_str (pa_cons pe_str pa_nil))) pa_nil))) pps_nil) (by rfl) (by rfl) (fun z => by cases z) (by decide)) (pa_cons pe_str pa_nil)))) (pa_cons (pe_tup (pa_cons (pe_disp (pps_cons pe_str pe_int pps_nil) (by rfl) (by rfl) (fun z => by cases z) (by decide)) (pa_cons (pe_disp (pps_cons pe_str (pe_calI c_Call (hr.mono (by decide)) (by rfl) (pa_cons pe_int (pa_cons (pe_lst (pa_cons pe_str pa_nil)) pa_nil))) pps_nil) (by rfl) (by rfl) (fun z => by cases z) (by decide)) (pa_cons pe_non pa_nil)))) pa_nil))))))
      (pss_cons (ps_for PassesOwn.never rfl (pi_list (pv 10)) (pg_tupK (K := K) rfl (pg_tup (n := 3) rfl (pgs_cons (pg_name (i := 11) sc_law.nd rfl (Or.inl rfl)) (pgs_cons (pg_name (i := 12) sc_law.nd rfl (Or.inl rfl)) (pgs_cons (pg_name (i := 13) sc_law.nd rfl (Or.inl rfl)) pgs_nil)))))
        (pss_one (ps_if (pt_cmpR op_ne (pe_cal c__law_fault (hr.mono (by decide)) (by rfl) (pa_cons (pv 11) (pa_cons (pv 12) pa_nil))) (pv 13) (nomark _))
          (pss_one (ps_ret pe_bl))
          pss_nil)))
      (pss_one (ps_ret (pe_and (pe_cmpR (op_eqIK rfl rfl rfl rfl rfl FS T.eqS T.isS T.bS (hr.mono (by decide))) (pe_calI c_Scene (hr.mono (by decide)) (by rfl) (pa_cons (pe_disp (pps_cons pe_str pe_int pps_nil) (by rfl) (by rfl) (fun z => by cases z) (by decide)) (pa_cons pe_dnewK pa_nil))) (pe_calI c_Scene (hr.mono (by decide)) (by rfl) (pa_cons (pe_disp (pps_cons pe_str pe_int pps_nil) (by rfl) (by rfl) (fun z => by cases z) (by decide)) (pa_cons pe_dnewK pa_nil))) (nomark _)) (pe_and (pe_cmpR (op_eqIK rfl rfl rfl rfl rfl FC T.eqC T.isC T.bC (hr.mono (by decide))) (pe_calI c_Call (hr.mono (by decide)) (by rfl) (pa_cons pe_int (pa_cons (pe_lst (pa_cons pe_str (pa_cons pe_str pa_nil))) pa_nil))) (pe_calI c_Call (hr.mono (by decide)) (by rfl) (pa_cons pe_int (pa_cons (pe_lst (pa_cons pe_str (pa_cons pe_str pa_nil))) pa_nil))) (nomark _)) (pe_one (pe_cmpR (op_neIK rfl rfl rfl rfl rfl FC T.eqC T.neC T.obC T.isC T.bC (hr.mono (by decide))) (pe_calI c_Call (hr.mono (by decide)) (by rfl) (pa_cons pe_int (pa_cons (pe_lst pa_nil) pa_nil))) (pe_calI c_Call (hr.mono (by decide)) (by rfl) (pa_cons pe_int (pa_cons (pe_lst pa_nil) pa_nil))) (nomark _))))))))))))))))))))))))))
, ?_⟩
    refine ⟨_, rfl, (by show 2 ≤ sizeLine; decide), fun d hd => ?_⟩
    have D0 := Dr.mk' (j := 0) hS hlen hd
    generalize upd H d (.lst [.ref a, .int 0]) = H0 at D0 ⊢
    clear hS hd
    refine ⟨_, rfl, [d], d, a, 4, 6, rfl, by decide, by decide, by decide, by decide, D0, fun sc H1 chs cls _ hSc1 hX1 ok hcn l7 l4 sm D1 k1 => ?_⟩
    obtain ⟨dxs, ca, cb, e1, e2, e3⟩ := hX1.here
    have srh := hX1.sch
    have src := hX1.scl
    have W1 : W21 K CS CC a d sc dxs ca cb chs cls [] H1 := ⟨D1, e1, e2, e3, hSc1.calls, fun x hx => nomatch hx⟩
    have nsc : sc ≠ ca := fun z => by rw [z, e2] at e1; cases e1
    have nscb : sc ≠ cb := fun z => by rw [z, e3] at e1; cases e1
    have hwo : ∀ x ∈ keysT cls, wOf cls x ∈ ([2, 1, 0] : List Int) := fun x hx => by
      obtain ⟨cd, hcd⟩ := getT_key hx
      have h1 := (ok.cl _ (getT_in hcd)).2.1
      have h2 := sm.2.2.1 _ (getT_in hcd)
      have h1 : 0 ≤ cd.2.1 := h1
      have h2 : cd.2.1 ≤ 2 := h2
      rw [wOf_get hcd]
      simp only [List.mem_cons, List.not_mem_nil, or_false]
      omega
    clear e1 e2 e3 hSc1 hX1 k1 D1 D0
    dsimp only [gName]
    -- names
    refine ⟨by show 0 ≤ sizeLine; decide, fun l0 hl0 => ?_⟩
    have W2 := (W1.ex (Ex.new (o := .lst []) hl0)).add upd_same (W1.ndn hl0)
    clear W1
    generalize upd H1 l0 (.lst []) = H2 at W2 ⊢
    dsimp only [gName]
    refine q_forNT (xs := [.int 2, .int 1, .int 0]) (eu_tup (ea_cons ev_c (ea_cons ev_c (ea_cons ev_c ea_nil))) (by show 3 ≤ 100000; decide)) (fun p i σ' H' => ∃ (nl : Addr) (ov : Option V), σ' = [some (.ref a), some (.ref d), some (.ref sc), some (.ref nl), ov, none, none, none, none, none, none, none, none, none, none, none, none, none, none] ∧ W21 K CS CC a d sc dxs ca cb chs cls [(nl, .lst ((namesOf cls (([2, 1, 0] : List Int).take i)).map V.str)), (p, .tup [.int 2, .int 1, .int 0])] H') (fun p H3 hp e3 h3 => ⟨l0, none, rfl, ?_⟩) (fun p i σ' H' _ ⟨nl, ov, _, W⟩ => st_of (W.obs (p, _) (List.mem_cons_of_mem _ (List.mem_cons_self ..))).1) ?_ ?_
    · exact ((W2.ex e3).add h3 (W2.ndn hp)).sub (by simp [namesOf])
    · rintro p i x σ' H3 hx ⟨nl, ov, rfl, W3⟩
      obtain ⟨wi, hwi, rfl⟩ : ∃ wi : Int, ([2, 1, 0] : List Int)[i]? = some wi ∧ x = .int wi := by
        have : ([2, 1, 0] : List Int).map V.int = [.int 2, .int 1, .int 0] := rfl
        rw [← this, List.getElem?_map] at hx
        obtain ⟨wi, h1, h2⟩ := Option.map_eq_some_iff.mp hx
        exact ⟨wi, h1, h2.symm⟩
      dsimp only [gName]
      refine ⟨_, rfl, ?_⟩
      refine EvL.go (xs := ((keysT cls).filter fun y => decide (wOf cls y = wi)).map V.str) (el_fN (c := V.str) (fun y => decide (wOf cls y = wi)) V.str (el_srtD (ev_fld (dx := dxs) (ev_var rfl) W3.hsc T.clS T.nCa rfl) (.inl W3.hcl) src (by omega)) (by rw [kLen]; omega) (fun i' y hy H4 x4 => ?_) fun i' y hy _ H4 x4 => ev_var rfl) fun q H4 hq x4 h4 => ?_
      · obtain ⟨cd, hcd⟩ := getT_key (List.mem_of_getElem? hy)
        obtain ⟨dxc, hh, r1, r2⟩ := (W3.cal _ (getT_in hcd)).here
        refine et_is (et_test (ev_eqI (ev_fld (ev_dget (f := vO) (ev_fld (dx := dxs) (ev_var rfl) (x4 _ _ W3.hsc) T.clS T.nCa rfl) (ev_var rfl) (.inl (x4 _ _ W3.hcl)) hcd) (x4 _ _ r1) T.clC T.nW rfl) (ev_var rfl))) ?_
        rw [wOf_get hcd]
      have W4 := (W3.ex x4).add h4 (W3.ndn hq)
      have nz : (namesOf cls (([2, 1, 0] : List Int).take i)).length ≤ 100 := by
        have := namesOf_len (cls := cls) (ws := ([2, 1, 0] : List Int).take i) ok.ndc ((List.take_sublist _ _).nodup (by decide))
        omega
      refine ⟨nl, q, _, _, rfl, rfl, (W4.obs (nl, _) (List.mem_cons_of_mem _ (List.mem_cons_self ..))).1, h4, ?_, fun r hr0 => ⟨r, some (.int wi), rfl, ?_⟩⟩
      · have := List.length_filter_le (fun y => decide (wOf cls y = wi)) (keysT cls)
        rw [kLen] at this
        rw [List.length_map, List.length_map]
        exact sz_of (by omega)
      · have et : ([2, 1, 0] : List Int).take (i + 1) = ([2, 1, 0] : List Int).take i ++ [wi] := by rw [List.take_add_one, hwi]; rfl
        rw [et, namesOf_snoc, List.map_append]
        refine ((W4.ex (Ex.new hr0)).add (b := r) upd_same (W4.ndn hr0)).sub (fun x hx => ?_)
        simp only [List.mem_cons, List.not_mem_nil, or_false] at hx ⊢
        rcases hx with rfl | rfl
        · exact .inl rfl
        · simp
    · rintro p σ' H3 ⟨nl, ov, rfl, W3⟩
      have hnl : ∀ {H' : Hp} {S : List (Addr × HO)}, W21 K CS CC a d sc dxs ca cb chs cls ((nl, .lst ((namesOf cls [2, 1, 0]).map V.str)) :: S) H' → H' nl = some (.lst ((namesOf cls [2, 1, 0]).map V.str)) := fun W => (W.obs _ (List.mem_cons_self ..)).1
      have W4 : W21 K CS CC a d sc dxs ca cb chs cls [(nl, .lst ((namesOf cls [2, 1, 0]).map V.str))] H3 := W3.sub fun x hx => by
        rw [List.mem_singleton.mp hx]; exact List.mem_cons_self ..
      have lyc : ∀ x ∈ keysT cls, PyData.strOk x = true := fun x hx => by
        obtain ⟨cd, hcd⟩ := getT_key hx
        exact okN_lay (ok.cl _ (getT_in hcd)).1
      have lym : ∀ x ∈ keysT chs, PyData.strOk x = true := fun x hx => by
        obtain ⟨cd, hcd⟩ := getT_key hx
        exact okN_lay (ok.ch _ (getT_in hcd)).1
      have lyn : ∀ x ∈ namesOf cls [2, 1, 0], PyData.strOk x = true := fun x hx => lyc x (mem_namesOf.mp hx).1
      have nln := namesOf_len (cls := cls) (ws := [2, 1, 0]) ok.ndc (by decide)
      have ndn := namesOf_nd (cls := cls) (ws := [2, 1, 0]) ok.ndc (by decide)
      have inn : ∀ x ∈ namesOf cls [2, 1, 0], x ∈ keysT cls := fun x hx => (mem_namesOf.mp hx).1
      clear W3 W2
      refine q_when (b := false) (et_is (et_or (a := false) (b := false) (et_test (ev_is (ev_opNE (el_order W4 (ev_var rfl) ok src hwo) (ev_var rfl) fun p' H5 hp x5 => rv_neSL (sq_of hp) (sq_of (x5 _ _ (hnl W4))) lyn lyn) (by simp))) fun _ => et_or (a := false) (b := false)
        (et_test (ev_is (ev_opNN (el_lstD (ev_fld (dx := dxs) (ev_var rfl) W4.hsc T.clS T.nCa rfl) (.inl W4.hcl)) (el_srtD (ev_fld (dx := dxs) (ev_var rfl) W4.hsc T.clS T.nCa rfl) (.inl W4.hcl) src (by omega)) fun p' q' H5 hp hq x5 => rv_neSL (sq_of hp) (sq_of hq) lyc lyc) (by simp))) fun _ =>
        (et_test (ev_is (ev_opNN (el_lstD (ev_fld (dx := dxs) (ev_var rfl) W4.hsc T.clS T.nCh rfl) (.inl W4.hch)) (el_srtD (ev_fld (dx := dxs) (ev_var rfl) W4.hsc T.clS T.nCh rfl) (.inl W4.hch) srh (by omega)) fun p' q' H5 hp hq x5 => rv_neSL (sq_of hp) (sq_of hq) lym lym) (by simp)))) rfl) (fun z => nomatch z) fun _ H5 x5 => ?_
      have W5 := W4.ex x5
      clear W4 x5
      -- some
      refine ⟨_, rfl, nl, rfl, ⟨_, sq_of (hnl W5)⟩, fun D hD => ?_⟩
      have dD : d ≠ D := (W5.ndn hD).symm
      refine lc_it walk_list (fun i H' => ∃ us : List PySem.Str, us.Sublist ((namesOf cls [2, 1, 0]).take i) ∧ Dr K (D :: [d]) d a H' ∧ Kp [d] H5 H' ∧ H' D = some (.lst (us.map V.str))) ⟨[], List.Sublist.refl _, (W5.dr.grow hD).new hD, Kp.new hD, upd_same⟩ (fun i H' _ ⟨us, _, _, k', _⟩ => sq_of (k' nl _ (hnl W5) fun e => (W5.obs _ (List.mem_cons_self ..)).2 (List.mem_singleton.mp e))) ?_ ?_
      · rintro i v _ H6 hi ⟨us, hsub, D6, k6, hd6⟩ ⟨rfl, hv⟩
        rw [List.getElem?_map] at hv
        obtain ⟨x, hx, rfl⟩ := Option.map_eq_some_iff.mp hv
        have et : (namesOf cls [2, 1, 0]).take (i + 1) = (namesOf cls [2, 1, 0]).take i ++ [x] := by rw [List.take_add_one, hx]; rfl
        refine ⟨rfl, _, rfl, D :: [d], d, a, 2, rfl, D6, by decide, fun v H7 _ _ D7 k7 => ⟨rfl, _, rfl, ?_⟩⟩
        have hd7 := k7 D _ hd6 fun e => dD (List.mem_singleton.mp e).symm
        have lus : us.length ≤ 100 := by
          have := hsub.length_le
          rw [List.length_take] at this
          omega
        refine ite2 (fun h => ⟨_, rfl, us.map V.str, hd7, (by rw [List.length_map]; exact sz_lt (by omega)), us ++ [x], ?_, ?_, ?_, ?_⟩) (fun h => ⟨us, by rw [et]; exact hsub.trans (List.sublist_append_left _ _), D7, k6.trans k7, hd7⟩)
        · rw [et]; exact hsub.append (List.Sublist.refl _)
        · exact D7.keep (Kp.at (by simp)) fun o z => by rw [upd_ne dD]; exact z
        · exact fun y o z ny => by rw [upd_ne (ne_of_none z hD)]; exact k7 y o (k6 y o z ny) ny
        · rw [upd_same, List.map_append]; rfl
      · rintro H6 ⟨sm0, hsub, D6, k6, hd6⟩
        rw [List.length_map, List.take_length] at hsub
        have W6 := (W5.map (D6.sub (fun b hb => by simp [hb]) W5.dr.mem) k6).add hd6 dD.symm
        have ins : ∀ x ∈ sm0, x ∈ keysT cls := fun x hx => inn x (hsub.subset hx)
        have nds : sm0.Nodup := hsub.nodup ndn
        have lsm : sm0.length ≤ 7 := by
          have := hsub.length_le
          omega
        clear W5 D6 k6 hd6 hsub dD hD
        have hsm : ∀ {H' : Hp} {S : List (Addr × HO)}, W21 K CS CC a d sc dxs ca cb chs cls ((D, .lst (sm0.map V.str)) :: S) H' → H' D = some (.lst (sm0.map V.str)) := fun W => (W.obs _ (List.mem_cons_self ..)).1
        dsimp only [gName]
        have heardC : ∀ x ∈ keysT cls, ∃ (cd : CD) (dxc hh : Addr), getT cls x = some cd ∧ hdQ cls x = cd.2.2 ∧ ∀ {S : List (Addr × HO)} {H' : Hp}, W21 K CS CC a d sc dxs ca cb chs cls S H' → ∃ (dxc hh : Addr), H' cd.1 = some (.ins CC dxc [("worth", .int cd.2.1), ("heard", .ref hh)]) ∧ H' hh = some (.tup (cd.2.2.map V.str)) := fun x hx => by
          obtain ⟨cd, hcd⟩ := getT_key hx
          exact ⟨cd, d, d, hcd, hdQ_get hcd, fun W => (W.cal _ (getT_in hcd)).here⟩
        -- masts
        refine q_asgL (xs := (mastsOf chs cls sm0).map V.str) (el_fN (c := V.str) (fun m => sm0.any fun y => decide (m ∈ hdQ cls y)) V.str (el_srtD (ev_fld (dx := dxs) (ev_var rfl) W6.hsc T.clS T.nCh rfl) (.inl W6.hch) srh (by omega)) (by rw [kLen]; omega) (fun i' m hm H7 x7 => et_B (ev_anyM (K := K) (ys := sm0) (p := fun y => decide (m ∈ hdQ cls y)) (el_mL (c := V.str) _ (ev_var rfl) (sq_of (x7 _ _ (hsm W6))) (by omega) fun j y hy H8 x8 => ?_))) fun i' m hm _ H7 x7 => ev_var rfl) fun ml H7 hml x7 h7 => ?_
        · obtain ⟨cd, _, _, hcd, hq, hh⟩ := heardC y (ins y (List.mem_of_getElem? hy))
          have W8 := W6.ex (x7.trans x8)
          obtain ⟨dxc, hh, r1, r2⟩ := hh W8
          refine ev_is (ev_inST (ev_var rfl) (ev_fld (ev_dget (f := vO) (ev_fld (dx := dxs) (ev_var rfl) W8.hsc T.clS T.nCa rfl) (ev_var rfl) (.inl W8.hcl) hcd) r1 T.clC T.nH rfl) (st_of r2)) ?_
          rw [hq]
        have W7 := (W6.ex x7).add h7 (W6.ndn hml)
        have hml7 : ∀ {H' : Hp} {S : List (Addr × HO)}, W21 K CS CC a d sc dxs ca cb chs cls ((ml, .lst ((mastsOf chs cls sm0).map V.str)) :: S) H' → H' ml = some (.lst ((mastsOf chs cls sm0).map V.str)) := fun W => (W.obs _ (List.mem_cons_self ..)).1
        clear x7 h7 hml W6
        have hsm : ∀ {H' : Hp} {S : List (Addr × HO)} {x : Addr × HO}, W21 K CS CC a d sc dxs ca cb chs cls (x :: (D, .lst (sm0.map V.str)) :: S) H' → H' D = some (.lst (sm0.map V.str)) := fun W => (W.obs _ (List.mem_cons_of_mem _ (List.mem_cons_self ..))).1
        have inm : ∀ m ∈ mastsOf chs cls sm0, m ∈ keysT chs := fun m hm => (List.mem_filter.mp hm).1
        have lmm : (mastsOf chs cls sm0).length ≤ 4 := by
          have := List.length_filter_le (fun m => sm0.any fun y => decide (m ∈ hdQ cls y)) (keysT chs)
          rw [kLen] at this
          unfold mastsOf
          omega
        have lz : sm0.length * chs.length < 64 := Nat.lt_of_le_of_lt (Nat.mul_le_mul lsm l4) (by decide)
        refine q_when (b := false) (et_is (et_or (a := false) (b := false) (et_test (ev_is (ev_opNE (el_mastsof W7 (ev_var rfl) (ev_var rfl) (hsm W7) ok srh ins lz) (ev_var rfl) fun p' H8 hp x8 => rv_neSL (sq_of hp) (sq_of (x8 _ _ (hml7 W7))) (fun x hx => lym x (inm x hx)) (fun x hx => lym x (inm x hx))) (by simp))) fun _ =>
          (et_test (ev_is (ev_neI (ev_room W7 (ev_var rfl) (ev_var rfl) (hml7 W7) ok inm (by omega)) (ev_sumM (K := K) (ys := mastsOf chs cls sm0) (p := fun m => (getT chs m).getD 0) (el_mL (c := V.str) _ (ev_var rfl) (sq_of (hml7 W7)) (by omega) fun j m hm H8 x8 => ?_))) (by simp)))) rfl) (fun z => nomatch z) fun _ H8 x8 => ?_
        · obtain ⟨v, hv⟩ := getT_key (inm m (List.mem_of_getElem? hm))
          have W8 := W7.ex x8
          refine ev_is (ev_dget (f := vI) (ev_fld (dx := dxs) (ev_var rfl) W8.hsc T.clS T.nCh rfl) (ev_var rfl) (.inl W8.hch) hv) ?_
          rw [hv]; rfl
        have W8 := W7.ex x8
        clear W7 x8 hml7
        -- seating
        refine ⟨_, rfl, D, rfl, ⟨_, sq_of (hsm W8)⟩, fun L hL => ?_⟩
        have dL : d ≠ L := (W8.ndn hL).symm
        refine lc_it walk_list (fun i H' => ∃ (as : List Addr) (rows : List (PySem.Str × PySem.Str)), as.length = rows.length ∧ keysT rows = sm0.take i ∧ (∀ x ∈ rows, x.2 ∈ keysT chs) ∧ Dr K (L :: [d]) d a H' ∧ Kp [d] H8 H' ∧ H' L = some (.lst (as.map V.ref)) ∧ PT vS H' as rows) ⟨[], [], rfl, rfl, fun x h => (nomatch h), (W8.dr.grow hL).new hL, Kp.new hL, upd_same, rfl, fun i b r e => (nomatch e)⟩
          (fun i H' _ ⟨as, rows, _, _, _, _, k', _⟩ => sq_of (k' D _ (hsm W8) fun e => (W8.obs _ (List.mem_cons_of_mem _ (List.mem_cons_self ..))).2 (List.mem_singleton.mp e))) ?_ ?_
        · rintro i v _ H9 hi ⟨as, rows, hla, hkr, hin, D9, k9, hd9, hP⟩ ⟨rfl, hv⟩
          rw [List.getElem?_map] at hv
          obtain ⟨x, hx, rfl⟩ := Option.map_eq_some_iff.mp hv
          have et : sm0.take (i + 1) = sm0.take i ++ [x] := by rw [List.take_add_one, hx]; rfl
          have W9 := W8.map (D9.sub (fun b hb => by simp [hb]) W8.dr.mem) k9
          refine ⟨rfl, yes_ite ⟨_, rfl, _, rfl, _, rfl, sc, CS, dxs, _, _, rfl, W9.hsc, T.clS, T.nCh, rfl, ca, _, rfl, .inl W9.hch, fun l hl => ?_⟩⟩
          rw [kV_kvT]
          have dl : d ≠ l := (W9.ndn hl).symm
          refine ⟨L :: [d], d, a, l, _, rfl, D9.new hl, by rw [List.length_map, kLen]; exact sm.1, fun H' k' => .inl (SqL.of (k' _ _ upd_same fun e => dl (List.mem_singleton.mp e).symm)), fun j y H10 hy D10 k10 => ?_⟩
          rw [List.getElem?_map] at hy
          obtain ⟨m, hm, rfl⟩ := Option.map_eq_some_iff.mp hy
          have far : ∀ b o, H9 b = some o → b ≠ d → H10 b = some o := fun b o z nd => k10 b o (by rw [upd_ne (ne_of_none z hl)]; exact z) fun e => nd (List.mem_singleton.mp e)
          have hd10 := far L _ hd9 dL.symm
          refine ⟨(by show 2 ≤ sizeLine; decide), fun b hb => ⟨_, by rw [upd_ne (ne_of_none hd10 hb)]; exact hd10, ?_, as ++ [b], rows ++ [(x, m)], by rw [List.length_append, List.length_append, hla]; rfl, ?_, fun y hy => ?_, ?_, fun y o z ny => ?_, by rw [upd_same, List.map_append]; rfl, ?_⟩⟩
          · have := congrArg List.length hkr
            rw [kLen, List.length_take] at this
            rw [List.length_map, hla]
            exact sz_lt (by omega)
          · rw [et, ← hkr]; unfold keysT; rw [List.map_append]; rfl
          · rcases List.mem_append.mp hy with hy | hy
            · exact hin y hy
            · cases List.mem_singleton.mp hy; exact List.mem_of_getElem? hm
          · exact (D10.new hb).keep (Kp.at (by simp)) fun o z => by rw [upd_ne dL]; exact z
          · have z2 := k9 y o z ny
            have nL : y ≠ L := ne_of_none z hL
            have z3 := far y o z2 fun e => ny (List.mem_singleton.mpr e)
            rw [upd_ne nL, upd_ne (ne_of_none z3 hb)]; exact z3
          · have nbL : b ≠ L := (ne_of_none hd10 hb).symm
            refine (hP.keep fun c xs z => ?_).snoc (by rw [upd_ne nbL]; exact upd_same)
            have cL : c ≠ L := fun e => by rw [e, hd9] at z; cases z
            have z3 := far c _ z (W9.nd z fun _ => by simp)
            rw [upd_ne cL, upd_ne (ne_of_none z3 hb)]; exact z3
        · rintro H9 ⟨as, st, hla, hkr, hin, D9, k9, hd9, hP⟩
          rw [List.length_map, List.take_length] at hkr
          have W9 := W8.map (D9.sub (fun b hb => by simp [hb]) W8.dr.mem) k9
          have ndst : (keysT st).Nodup := by rw [hkr]; exact nds
          have lst : st.length ≤ 7 := by rw [← kLen, hkr]; exact lsm
          refine ⟨L, as, kvT vS st, rfl, SqL.of hd9, hP.paired, fun pd hpd => ?_⟩
          rw [merge_T ndst]
          have W10 := (W9.ex (Ex.new (o := .dK (kvT vS st)) hpd)).add upd_same (W9.ndn hpd)
          have npa : pd ≠ ca := (ne_of_none W9.hch hpd).symm
          have npb : pd ≠ cb := (ne_of_none W9.hcl hpd).symm
          have nps : pd ≠ sc := (ne_of_none W9.hsc hpd).symm
          clear W8 W9 D9 k9 hd9 hP hla as hL dL
          generalize upd H9 pd (.dK (kvT vS st)) = H10 at W10 ⊢
          have W11 : W21 K CS CC a d sc dxs ca cb chs cls [(pd, .dK (kvT vS st))] H10 := W10.sub fun x hx => by
            rw [List.mem_singleton.mp hx]; exact List.mem_cons_self ..
          clear W10
          have hpd : ∀ {H' : Hp} {S : List (Addr × HO)}, W21 K CS CC a d sc dxs ca cb chs cls ((pd, .dK (kvT vS st)) :: S) H' → H' pd = some (.dK (kvT vS st)) := fun W => (W.obs _ (List.mem_cons_self ..)).1
          dsimp only [gName]
          -- used
          refine q_lockL (i := 8) (xs := (keysT chs).map fun m => V.int ((cntM st m : Nat) : Int)) W11.hch (fun od => ?_) fun ul H11 hul x11 h11 => ?_
          · have hsc' : (upd H10 ca (.frz od (.dK (kvT vI chs)))) sc = some (.ins CS dxs [("channels", .ref ca), ("calls", .ref cb)]) := by rw [upd_ne nsc]; exact W11.hsc
            have hpd' : (upd H10 ca (.frz od (.dK (kvT vI chs)))) pd = some (.dK (kvT vS st)) := by rw [upd_ne npa]; exact hpd W11
            refine el_mK (g := vI) (l := chs) (fun m => V.int ((cntM st m : Nat) : Int)) (ev_fld (dx := dxs) (ev_var rfl) hsc' T.clS T.nCh rfl) upd_same (by omega) fun i m hm H11 x11 => ?_
            refine ev_is (ev_lenN (el_lock (x11 _ _ hpd') fun od2 => el_fK (g := vS) (l := st) (fun x => decide ((getT st x).getD "" = m)) V.str (ev_var rfl) upd_same (by omega) (fun j x hx H12 x12 => ?_) fun j x hx _ H12 x12 => ev_var rfl)) ?_
            · obtain ⟨v, hv⟩ := getT_key (List.mem_of_getElem? hx)
              refine et_is (et_test (ev_eqS (ev_dget (f := vS) (ev_var rfl) (ev_var rfl) (.inr ⟨od2, x12 _ _ upd_same⟩) hv) (ev_var rfl))) ?_
              rw [hv]; rfl
            · rw [List.length_map, cnt_keys ndst]
          have W12 := (W11.ex x11).add h11 (W11.ndn hul)
          have hul12 : ∀ {H' : Hp} {S : List (Addr × HO)}, W21 K CS CC a d sc dxs ca cb chs cls ((ul, .lst ((keysT chs).map fun m => V.int ((cntM st m : Nat) : Int))) :: S) H' → H' ul = some (.lst ((keysT chs).map fun m => V.int ((cntM st m : Nat) : Int))) := fun W => (W.obs _ (List.mem_cons_self ..)).1
          have hpd : ∀ {H' : Hp} {S : List (Addr × HO)} {x : Addr × HO}, W21 K CS CC a d sc dxs ca cb chs cls (x :: (pd, .dK (kvT vS st)) :: S) H' → H' pd = some (.dK (kvT vS st)) := fun W => (W.obs _ (List.mem_cons_of_mem _ (List.mem_cons_self ..))).1
          clear W11 x11 h11
          refine q_asg (v := .non) ev_c fun H12 x12 => ?_
          have W13 := W12.ex x12
          clear W12 x12
          have pf1 : (fullPs chs st).map (·.1) = (keysT chs).map fun m => V.int ((cntM st m : Nat) : Int) := by unfold fullPs keysT; rw [List.map_map, List.map_map]; rfl
          have pf2 : (fullPs chs st).map (·.2) = chs := by unfold fullPs; rw [List.map_map]; exact (List.map_congr_left fun _ _ => rfl).trans (List.map_id chs)
          have pfl : (fullPs chs st).length < 100000 := by unfold fullPs; rw [List.length_map]; omega
          have nul : ul ≠ ca := fun e => by
            have := W13.hch
            rw [← e, hul12 W13] at this; cases this
          refine q_ifset (i := 9) (v := .str "full") (v0 := .non) (b := badFull chs st) (et_is (et_B (ev_anyM (K := K) (ys := fullPs chs st) (p := fullP) (el_lock W13.hch fun od => ?_))) (full_zip ok.nd)) rfl fun H14 x14 => ?_
          · have hsc' : (upd H12 ca (.frz od (.dK (kvT vI chs)))) sc = some (.ins CS dxs [("channels", .ref ca), ("calls", .ref cb)]) := by rw [upd_ne nsc]; exact W13.hsc
            refine el_zD (a := ul) (b := ca) (o := od) (g := vI) (ps := fullPs chs st) (f := fun y => V.bl (fullP y)) (ea_cons (ev_var rfl) (ea_cons (ev_fld (dx := dxs) (ev_var rfl) hsc' T.clS T.nCh rfl) ea_nil)) (by rw [pf1]; exact sq_of (by rw [upd_ne nul]; exact hul12 W13)) (by rw [pf2]; exact upd_same) pfl (fun i y hy H14 x14 => ?_)
            obtain ⟨c, hc, rfl⟩ := List.mem_map.mp (List.mem_of_getElem? hy)
            exact ev_op (ev_var rfl) (ev_dget (f := vI) (ev_fld (dx := dxs) (ev_var rfl) (x14 _ _ hsc') T.clS T.nCh rfl) (ev_var rfl) (.inr ⟨od, x14 _ _ upd_same⟩) (get_nd ok.nd hc)) rv_gt
          have W14 := W13.ex x14
          clear W13 x14
          refine q_ifset (i := 9) (v := .str "heard") (v0 := if badFull chs st = true then .str "full" else .non) (b := badHeard cls st) (et_is (et_B (ev_anyM (K := K) (ys := keysT st) (p := fun x => !decide ((getT st x).getD "" ∈ hdQ cls x)) (el_lock (hpd W14) fun od => ?_))) (heard_keys ndst)) rfl fun H15 x15 => ?_
          · refine el_mK (g := vS) (l := st) (fun x => V.bl (!decide ((getT st x).getD "" ∈ hdQ cls x))) (ev_var rfl) upd_same (by omega) fun i x hx H15 x15 => ?_
            obtain ⟨v, hv⟩ := getT_key (List.mem_of_getElem? hx)
            have hxc : x ∈ keysT cls := ins x (by rw [← hkr]; exact List.mem_of_getElem? hx)
            obtain ⟨cd, _, _, hcd, hq, hh⟩ := heardC x hxc
            obtain ⟨dxc, hh, r1, r2⟩ := hh W14
            have g : ∀ {b : Addr} {o : HO}, H14 b = some o → b ≠ pd → H15 b = some o := fun {b o} z n => x15 _ _ (by rw [upd_ne n]; exact z)
            have nr1 : cd.1 ≠ pd := fun e => by rw [e, hpd W14] at r1; cases r1
            have nr2 : hh ≠ pd := fun e => by rw [e, hpd W14] at r2; cases r2
            refine ev_is (ev_niST (ev_dget (f := vS) (ev_var rfl) (ev_var rfl) (.inr ⟨od, x15 _ _ upd_same⟩) hv) (ev_fld (ev_dget (f := vO) (ev_fld (dx := dxs) (ev_var rfl) (g W14.hsc nps.symm) T.clS T.nCa rfl) (ev_var rfl) (.inl (g W14.hcl npb.symm)) hcd) (g r1 nr1) T.clC T.nH rfl) (st_of (g r2 nr2))) ?_
            rw [hv, hq]; rfl
          have W15 := W14.ex x15
          clear W14 x15
          -- wrong_seating
          have hzz : (("zz" : PySem.Str)) ∉ keysT cls := fun h => by
            obtain ⟨j, hj, e⟩ := hcn _ h
            exact (show ∀ j : Nat, j < 8 → ("zz" : PySem.Str) ≠ cN j by decide +kernel) j hj e
          have Sx := W15.scn srh src
          refine q_when (b := false) (et_is (et_or (a := false) (b := false) (et_test (ev_is (ev_op (y := wrongV chs cls st) (ev_call (ea_cons (ev_var rfl) (ea_cons (ev_var rfl) ea_nil)) (z := wrongV chs cls st) fun H16 e16 Q q E => ⟨sc, pd, chs, cls, st, rfl, W15.scene.same e16, Sx.same e16, ok, e16 _ _ (hpd W15), ⟨dxs, ca, cb, e16 _ _ W15.hsc, npa.symm, npb.symm⟩, ndst, by omega, .inl ⟨fun z hz => ⟨?_, hin z hz⟩, fun H' e' => q H' e'⟩⟩) (ev_var rfl) (rv_ne ?_)) ?_)) fun _ =>
            et_test (ev_is (ev_op (x := .str "call") (fun H16 e16 Q q => ⟨_, rfl, ed_disp1 (k := "zz") (v := .str "m0") ev_c H16 e16 _ fun p H17 hp e17 h17 => ⟨sc, p, chs, cls, [("zz", "m0")], rfl, W15.scene.same (e16.trans e17), Sx.same (e16.trans e17), ok, h17, ⟨dxs, ca, cb, (e16.trans e17) _ _ W15.hsc, ne_of_none (e16 _ _ W15.hch) hp, ne_of_none (e16 _ _ W15.hcl) hp⟩, nd1 _, by decide, .inr ⟨⟨_, _, rfl, hzz⟩, fun H' e' => q H' (e17.trans e')⟩⟩⟩) ev_c (rv_ne rfl)) (by simp))) rfl) (fun z => nomatch z) fun _ H16 x16 => ?_
          · exact ins z.1 (by rw [← hkr]; unfold keysT; exact List.mem_map_of_mem hz)
          · unfold wrongV; split
            · rfl
            · split <;> rfl
          · simp
          have W16 := W15.ex x16
          clear W15 x16 Sx
          -- is_name
          refine q_when (b := false) (et_test (ev_opNN (xs := thgs.map fun v => V.bl (nameB v)) (ys := thgB.map V.bl) (el_mI (α := V) (c := fun v => v) (ys := thgs) (fun v => V.bl (nameB v)) (by rw [List.map_id']; exact ei_U (eu_tup (vs := thgs) (ea_cons ev_c (ea_cons ev_c (ea_cons ev_c (ea_cons ev_c (ea_cons ev_c (ea_cons ev_c (ea_cons ev_c (ea_cons ev_c (ea_cons ev_c (ea_cons ev_c ea_nil)))))))))) (by decide))) (by decide) fun i v hv H17 x17 => ev_call (ea_cons (ev_var rfl) ea_nil) fun H18 e18 Q q E => ⟨v, rfl, (thg_ok v (List.mem_of_getElem? hv)).1, (thg_ok v (List.mem_of_getElem? hv)).2, fun H' e' => q H' e'⟩)
            (el_lst (vs := thgB.map V.bl) (ea_cons ev_c (ea_cons ev_c (ea_cons ev_c (ea_cons ev_c (ea_cons ev_c (ea_cons ev_c (ea_cons ev_c (ea_cons ev_c (ea_cons ev_c (ea_cons ev_c ea_nil)))))))))) (by decide)) fun p q H17 hp hq x17 => ?_)) (fun z => nomatch z) fun _ H17 x17 => ?_
          · refine rv_neBs (sq_of ?_) (sq_of hq)
            rw [hp, ← thg_is, List.map_map]; rfl
          clear W16 x17
          -- wrong
          refine q_rows (K := K) (CC := CC) (n := 4) (er_cons (er_mast ev_c (by decide +kernel) (fun s z => nomatch z) trivial (by decide +kernel)) (er_cons (er_mast (v := .int (-1)) (ev_un ev_c ru_neg) (by decide +kernel) (fun s z => nomatch z) trivial (by decide +kernel)) (er_cons (er_mast ev_c (by decide +kernel) (fun s z => nomatch z) trivial (by decide +kernel)) (er_cons (er_mast ev_c (by decide +kernel) (fun s z => nomatch z) trivial (by decide +kernel)) er_nil)))) (by decide) fun p1 bs1 rs1 H18 x18 h1 l1 R1 => ?_
          refine q_rowsC (K := K) (CC := CC) (n := 3) (m := 4) (i := 10) rfl h1 l1 R1 (er_cons (er_call (hs := []) (ec_call ev_c ea_nil (by decide)) ev_c fun a b o ys pm => gd_call pm) (er_cons (er_call (hs := []) (n := -1) (ec_call (ev_un ev_c ru_neg) ea_nil (by decide)) ev_c fun a b o ys pm => gd_worth (by decide) pm) (er_cons (er_call (hs := []) (ec_call ev_c ea_nil (by decide)) ev_c fun a b o ys pm => gd_worth (by decide) pm) er_nil))) (by decide) (by decide) fun p2 bs2 rs2 H19 x19 h2 l2 R2 => ?_
          refine q_rowsC (K := K) (CC := CC) (n := 3) (m := 7) (i := 10) rfl h2 l2 R2 (er_cons (er_call (hs := ["n"]) (ec_call ev_c (ea_cons ev_c ea_nil) (by decide)) ev_c fun a b o ys pm => gd_heard (by decide) (by decide +kernel) pm) (er_cons (er_call (hs := ["m", "m"]) (ec_call ev_c (ea_cons ev_c (ea_cons ev_c ea_nil)) (by decide)) ev_c fun a b o ys pm => gd_heard (by decide) (by decide +kernel) pm) (er_cons (er_call (hs := ["m"]) (ec_call ev_c (ea_cons ev_c ea_nil) (by decide)) ev_c fun a b o ys pm => gd_right pm) er_nil))) (by decide) (by decide) fun p3 bs3 rs3 H20 x20 h3 l3 R3 => ?_
          refine q_faults (mk := fun o1 o2 o3 => [some (.ref a), some (.ref d), some (.ref sc), some (.ref nl), ov, some (.ref D), some (.ref ml), some (.ref pd), some (.ref ul), some (wrongV chs cls st), some (.ref p3), o1, o2, o3, none, none, none, none, none]) (o1 := none) (o2 := none) (o3 := none) rfl h3 R3 (fun _ _ _ _ _ _ => rfl) (fun _ _ _ => rfl) (fun _ _ _ => rfl) (fun _ _ _ => rfl) fun _ _ _ H21 => ?_
          refine (ev_andV (a := true) (b := true) ev_eqScene fun _ => ev_andV (a := true) (b := true) (ev_eqCalls (ec_call ev_c (hs := ["b", "a"]) (ea_cons ev_c (ea_cons ev_c ea_nil)) (by decide)) (ec_call ev_c (hs := ["a", "b"]) (ea_cons ev_c (ea_cons ev_c ea_nil)) (by decide)) (List.Perm.swap ..) lay_abc) fun _ => ev_neCalls (ec_call ev_c (hs := []) ea_nil (by decide)) (ec_call ev_c (hs := []) ea_nil (by decide)) (by decide) (fun x h => nomatch h) (fun x h => nomatch h)) H21 (Ex.refl _) _ fun H22 _ => k H22
end
end Mc
namespace Mc
open PySem L2 PySem.Spec PyProof.Rows
/-! ### an error of a class is what «except» of that class names -/
theorem exm_self {K : PySem.W.Frag} {S : Addr} (h1 : PySem.W.subIn K (.ref S) (.type "BaseException") = some true) (h2 : PySem.W.isClsIn K S = true) (h3 : PySem.W.typeIn K (.ref S) = some (.type "type")) (h4 : PySem.W.subIn K (.ref S) (.ref S) = some true) :
    PySem.W.exmOne K (.ref S) (.ref S) = some true := by
  have e1 : (PySem.W.subIn K (.ref S) (.type "BaseException") == some true) = true := by rw [h1] <;> rfl
  have e2 : ((PySem.W.clsIn K S).isSome && PySem.W.typeIn K (.ref S) == some (.type "type")) = true := by
    have h2' : (PySem.W.clsIn K S).isSome = true := h2
    rw [h2', h3] <;> rfl
  show (if (PySem.W.subIn K (.ref S) (.type "BaseException") == some true) = true then (if ((PySem.W.clsIn K S).isSome && PySem.W.typeIn K (.ref S) == some (.type "type")) = true then PySem.W.subIn K (.ref S) (.ref S) else none) else none) = some true
  rw [if_pos e1, if_pos e2]
  exact h4
theorem scBadS : FnScope ["self", "word"] ["self", "word"] (defScope sBadS) := ⟨rfl, rfl, rfl, by decide +kernel, rfl, by decide +kernel, by decide +kernel⟩
theorem all_mk {l : PySem.W.OpenLaw} {w : World} {K : PySem.W.Frag} {h : Heap} {mg : PySem.Str → Option Value} {fa : Addr} (X : K.In h) (G : h.Ns mainGlobals mg) (hfa : mg "law" = some (.ref fa))
    {CC : Addr}
    {f_Call_init : Addr} {od_Call_init an_Call_init : Option Addr} {sl_Call_init : Array (Option Value)} {oc_Call_init kV_Call_init dc_Call_init pm_Call_init cd_Call_init ct_Call_init : Value}
    {f_Call_eq : Addr} {od_Call_eq an_Call_eq : Option Addr} {sl_Call_eq : Array (Option Value)} {oc_Call_eq kV_Call_eq dc_Call_eq pm_Call_eq cd_Call_eq ct_Call_eq : Value}
    {CS : Addr}
    {f_Scene_init : Addr} {od_Scene_init an_Scene_init : Option Addr} {sl_Scene_init : Array (Option Value)} {oc_Scene_init kV_Scene_init dc_Scene_init pm_Scene_init cd_Scene_init ct_Scene_init : Value}
    {f_Scene_eq : Addr} {od_Scene_eq an_Scene_eq : Option Addr} {sl_Scene_eq : Array (Option Value)} {oc_Scene_eq kV_Scene_eq dc_Scene_eq pm_Scene_eq cd_Scene_eq ct_Scene_eq : Value}
    {f_Scene_order : Addr} {od_Scene_order an_Scene_order : Option Addr} {sl_Scene_order : Array (Option Value)} {oc_Scene_order kV_Scene_order dc_Scene_order pm_Scene_order cd_Scene_order ct_Scene_order : Value}
    {f_Scene_rank : Addr} {od_Scene_rank an_Scene_rank : Option Addr} {sl_Scene_rank : Array (Option Value)} {oc_Scene_rank kV_Scene_rank dc_Scene_rank pm_Scene_rank cd_Scene_rank ct_Scene_rank : Value}
    {f_Scene_room : Addr} {od_Scene_room an_Scene_room : Option Addr} {sl_Scene_room : Array (Option Value)} {oc_Scene_room kV_Scene_room dc_Scene_room pm_Scene_room cd_Scene_room ct_Scene_room : Value}
    {f_Scene_masts_of : Addr} {od_Scene_masts_of an_Scene_masts_of : Option Addr} {sl_Scene_masts_of : Array (Option Value)} {oc_Scene_masts_of kV_Scene_masts_of dc_Scene_masts_of pm_Scene_masts_of cd_Scene_masts_of ct_Scene_masts_of : Value}
    {CB : Addr}
    {f_BadScene_init : Addr} {od_BadScene_init an_BadScene_init : Option Addr} {sl_BadScene_init : Array (Option Value)} {oc_BadScene_init kV_BadScene_init dc_BadScene_init pm_BadScene_init cd_BadScene_init ct_BadScene_init : Value}
    {f_is_number : Addr} {od_is_number an_is_number : Option Addr} {sl_is_number : Array (Option Value)} {oc_is_number kV_is_number dc_is_number pm_is_number cd_is_number ct_is_number : Value}
    {f_has_key : Addr} {od_has_key an_has_key : Option Addr} {sl_has_key : Array (Option Value)} {oc_has_key kV_has_key dc_has_key pm_has_key cd_has_key ct_has_key : Value}
    {f_is_name : Addr} {od_is_name an_is_name : Option Addr} {sl_is_name : Array (Option Value)} {oc_is_name kV_is_name dc_is_name pm_is_name cd_is_name ct_is_name : Value}
    {f_check_mast : Addr} {od_check_mast an_check_mast : Option Addr} {sl_check_mast : Array (Option Value)} {oc_check_mast kV_check_mast dc_check_mast pm_check_mast cd_check_mast ct_check_mast : Value}
    {f_check_heard : Addr} {od_check_heard an_check_heard : Option Addr} {sl_check_heard : Array (Option Value)} {oc_check_heard kV_check_heard dc_check_heard pm_check_heard cd_check_heard ct_check_heard : Value}
    {f_check_call : Addr} {od_check_call an_check_call : Option Addr} {sl_check_call : Array (Option Value)} {oc_check_call kV_check_call dc_check_call pm_check_call cd_check_call ct_check_call : Value}
    {f_law_number : Addr} {od_law_number an_law_number : Option Addr} {sl_law_number : Array (Option Value)} {oc_law_number kV_law_number dc_law_number pm_law_number cd_law_number ct_law_number : Value}
    {f_law_take : Addr} {od_law_take an_law_take : Option Addr} {sl_law_take : Array (Option Value)} {oc_law_take kV_law_take dc_law_take pm_law_take cd_law_take ct_law_take : Value}
    {f_law_pick : Addr} {od_law_pick an_law_pick : Option Addr} {sl_law_pick : Array (Option Value)} {oc_law_pick kV_law_pick dc_law_pick pm_law_pick cd_law_pick ct_law_pick : Value}
    {f_law_masts : Addr} {od_law_masts an_law_masts : Option Addr} {sl_law_masts : Array (Option Value)} {oc_law_masts kV_law_masts dc_law_masts pm_law_masts cd_law_masts ct_law_masts : Value}
    {f_law_heard : Addr} {od_law_heard an_law_heard : Option Addr} {sl_law_heard : Array (Option Value)} {oc_law_heard kV_law_heard dc_law_heard pm_law_heard cd_law_heard ct_law_heard : Value}
    {f_law_scene : Addr} {od_law_scene an_law_scene : Option Addr} {sl_law_scene : Array (Option Value)} {oc_law_scene kV_law_scene dc_law_scene pm_law_scene cd_law_scene ct_law_scene : Value}
    {f_law_fault : Addr} {od_law_fault an_law_fault : Option Addr} {sl_law_fault : Array (Option Value)} {oc_law_fault kV_law_fault dc_law_fault pm_law_fault cd_law_fault ct_law_fault : Value}
    {f_wrong_seating : Addr} {od_wrong_seating an_wrong_seating : Option Addr} {sl_wrong_seating : Array (Option Value)} {oc_wrong_seating kV_wrong_seating dc_wrong_seating pm_wrong_seating cd_wrong_seating ct_wrong_seating : Value}
    {f_law : Addr} {od_law an_law : Option Addr} {sl_law : Array (Option Value)} {oc_law kV_law dc_law pm_law cd_law ct_law : Value}
    {t_SMALL_LETTERS : Tok}
    {t_FIGURES : Tok}
    {t_LONGEST_NAME : Tok}
    {t_LIMIT : Tok}
    (a_Call : PySem.W.nsIn K mainGlobals "Call" = some (some (.ref CC)))
    (a_Call_init : PySem.W.findIn K (.ref CC) "__init__" = some (some (.ref f_Call_init)))
    (i_Call_init : PySem.W.isFn K (.ref f_Call_init) = true)
    (l_Call_init : K.lookup f_Call_init = some ⟨oc_Call_init, od_Call_init, .func (PySem.W.fnOf "__init__" "Call.__init__" (defArgs sCInit) (defBody sCInit) (defScope sCInit) .none kV_Call_init dc_Call_init pm_Call_init an_Call_init cd_Call_init ct_Call_init), sl_Call_init⟩)
    (c_Call_init : PySem.W.codeIn K cd_Call_init "Call.__init__" = true)
    (k_Call_init : PySem.W.keepIn K (.ref f_Call_init) = true)
    (a_Call_eq : PySem.W.findIn K (.ref CC) "__eq__" = some (some (.ref f_Call_eq)))
    (i_Call_eq : PySem.W.isFn K (.ref f_Call_eq) = true)
    (l_Call_eq : K.lookup f_Call_eq = some ⟨oc_Call_eq, od_Call_eq, .func (PySem.W.fnOf "__eq__" "Call.__eq__" (defArgs sCEq) (defBody sCEq) (defScope sCEq) .none kV_Call_eq dc_Call_eq pm_Call_eq an_Call_eq cd_Call_eq ct_Call_eq), sl_Call_eq⟩)
    (c_Call_eq : PySem.W.codeIn K cd_Call_eq "Call.__eq__" = true)
    (k_Call_eq : PySem.W.keepIn K (.ref f_Call_eq) = true)
    (pg_Call : PySem.W.plainGet K CC PySem.Str.empty = true)
    (hd_Call : PySem.W.hasDictIn K CC = true)
    (po_Call : PySem.W.plainOver K CC = true)
    (sa_Call : PySem.W.findIn K (.ref CC) "__setattr__" = some (some (.builtin "object.__setattr__")))
    (mk_Call : PySem.W.makesIn K CC = true)
    (kc_Call : PySem.W.keepIn K (.ref CC) = true)
    (ne_Call : PySem.W.findIn K (.ref CC) "__ne__" = some (some (.builtin "object.__ne__")))
    (ob_Call : PySem.W.mroIn K CC (.type "object") = some true)
    (ca_Call : PySem.W.findIn K (.ref CC) "__class__" = some (some (.builtin "object.__class__")))
    (cg_Call : PySem.W.specialIn K (.builtin "object.__class__") "__get__" = some (some (.builtin "getset_descriptor.__get__")))
    (ct_Call : PySem.W.takesIn K (.builtin "object.__class__") = some true)
    (na_Call_worth : PySem.W.findIn K (.ref CC) "worth" = some none)
    (na_Call_heard : PySem.W.findIn K (.ref CC) "heard" = some none)
    (a_Scene : PySem.W.nsIn K mainGlobals "Scene" = some (some (.ref CS)))
    (a_Scene_init : PySem.W.findIn K (.ref CS) "__init__" = some (some (.ref f_Scene_init)))
    (i_Scene_init : PySem.W.isFn K (.ref f_Scene_init) = true)
    (l_Scene_init : K.lookup f_Scene_init = some ⟨oc_Scene_init, od_Scene_init, .func (PySem.W.fnOf "__init__" "Scene.__init__" (defArgs sSInit) (defBody sSInit) (defScope sSInit) .none kV_Scene_init dc_Scene_init pm_Scene_init an_Scene_init cd_Scene_init ct_Scene_init), sl_Scene_init⟩)
    (c_Scene_init : PySem.W.codeIn K cd_Scene_init "Scene.__init__" = true)
    (k_Scene_init : PySem.W.keepIn K (.ref f_Scene_init) = true)
    (a_Scene_eq : PySem.W.findIn K (.ref CS) "__eq__" = some (some (.ref f_Scene_eq)))
    (i_Scene_eq : PySem.W.isFn K (.ref f_Scene_eq) = true)
    (l_Scene_eq : K.lookup f_Scene_eq = some ⟨oc_Scene_eq, od_Scene_eq, .func (PySem.W.fnOf "__eq__" "Scene.__eq__" (defArgs sSEq) (defBody sSEq) (defScope sSEq) .none kV_Scene_eq dc_Scene_eq pm_Scene_eq an_Scene_eq cd_Scene_eq ct_Scene_eq), sl_Scene_eq⟩)
    (c_Scene_eq : PySem.W.codeIn K cd_Scene_eq "Scene.__eq__" = true)
    (k_Scene_eq : PySem.W.keepIn K (.ref f_Scene_eq) = true)
    (a_Scene_order : PySem.W.findIn K (.ref CS) "order" = some (some (.ref f_Scene_order)))
    (i_Scene_order : PySem.W.isFn K (.ref f_Scene_order) = true)
    (l_Scene_order : K.lookup f_Scene_order = some ⟨oc_Scene_order, od_Scene_order, .func (PySem.W.fnOf "order" "Scene.order" (defArgs sOrder) (defBody sOrder) (defScope sOrder) .none kV_Scene_order dc_Scene_order pm_Scene_order an_Scene_order cd_Scene_order ct_Scene_order), sl_Scene_order⟩)
    (c_Scene_order : PySem.W.codeIn K cd_Scene_order "Scene.order" = true)
    (k_Scene_order : PySem.W.keepIn K (.ref f_Scene_order) = true)
    (a_Scene_rank : PySem.W.findIn K (.ref CS) "rank" = some (some (.ref f_Scene_rank)))
    (i_Scene_rank : PySem.W.isFn K (.ref f_Scene_rank) = true)
    (l_Scene_rank : K.lookup f_Scene_rank = some ⟨oc_Scene_rank, od_Scene_rank, .func (PySem.W.fnOf "rank" "Scene.rank" (defArgs sRank) (defBody sRank) (defScope sRank) .none kV_Scene_rank dc_Scene_rank pm_Scene_rank an_Scene_rank cd_Scene_rank ct_Scene_rank), sl_Scene_rank⟩)
    (c_Scene_rank : PySem.W.codeIn K cd_Scene_rank "Scene.rank" = true)
    (k_Scene_rank : PySem.W.keepIn K (.ref f_Scene_rank) = true)
    (a_Scene_room : PySem.W.findIn K (.ref CS) "room" = some (some (.ref f_Scene_room)))
    (i_Scene_room : PySem.W.isFn K (.ref f_Scene_room) = true)
    (l_Scene_room : K.lookup f_Scene_room = some ⟨oc_Scene_room, od_Scene_room, .func (PySem.W.fnOf "room" "Scene.room" (defArgs sSRoom) (defBody sSRoom) (defScope sSRoom) .none kV_Scene_room dc_Scene_room pm_Scene_room an_Scene_room cd_Scene_room ct_Scene_room), sl_Scene_room⟩)
    (c_Scene_room : PySem.W.codeIn K cd_Scene_room "Scene.room" = true)
    (k_Scene_room : PySem.W.keepIn K (.ref f_Scene_room) = true)
    (a_Scene_masts_of : PySem.W.findIn K (.ref CS) "masts_of" = some (some (.ref f_Scene_masts_of)))
    (i_Scene_masts_of : PySem.W.isFn K (.ref f_Scene_masts_of) = true)
    (l_Scene_masts_of : K.lookup f_Scene_masts_of = some ⟨oc_Scene_masts_of, od_Scene_masts_of, .func (PySem.W.fnOf "masts_of" "Scene.masts_of" (defArgs sMastsOf) (defBody sMastsOf) (defScope sMastsOf) .none kV_Scene_masts_of dc_Scene_masts_of pm_Scene_masts_of an_Scene_masts_of cd_Scene_masts_of ct_Scene_masts_of), sl_Scene_masts_of⟩)
    (c_Scene_masts_of : PySem.W.codeIn K cd_Scene_masts_of "Scene.masts_of" = true)
    (k_Scene_masts_of : PySem.W.keepIn K (.ref f_Scene_masts_of) = true)
    (pg_Scene : PySem.W.plainGet K CS PySem.Str.empty = true)
    (hd_Scene : PySem.W.hasDictIn K CS = true)
    (po_Scene : PySem.W.plainOver K CS = true)
    (sa_Scene : PySem.W.findIn K (.ref CS) "__setattr__" = some (some (.builtin "object.__setattr__")))
    (mk_Scene : PySem.W.makesIn K CS = true)
    (kc_Scene : PySem.W.keepIn K (.ref CS) = true)
    (bg_Scene_rank : PySem.W.specialIn K (.ref f_Scene_rank) "__get__" = some (some (.builtin "function.__get__")))
    (bt_Scene_rank : PySem.W.takesIn K (.ref f_Scene_rank) = some false)
    (bf_Scene_rank : PySem.W.fnIn K f_Scene_rank = true)
    (ne_Scene : PySem.W.findIn K (.ref CS) "__ne__" = some (some (.builtin "object.__ne__")))
    (ob_Scene : PySem.W.mroIn K CS (.type "object") = some true)
    (ca_Scene : PySem.W.findIn K (.ref CS) "__class__" = some (some (.builtin "object.__class__")))
    (cg_Scene : PySem.W.specialIn K (.builtin "object.__class__") "__get__" = some (some (.builtin "getset_descriptor.__get__")))
    (ct_Scene : PySem.W.takesIn K (.builtin "object.__class__") = some true)
    (na_Scene_channels : PySem.W.findIn K (.ref CS) "channels" = some none)
    (na_Scene_calls : PySem.W.findIn K (.ref CS) "calls" = some none)
    (a_BadScene : PySem.W.nsIn K mainGlobals "BadScene" = some (some (.ref CB)))
    (a_BadScene_init : PySem.W.findIn K (.ref CB) "__init__" = some (some (.ref f_BadScene_init)))
    (i_BadScene_init : PySem.W.isFn K (.ref f_BadScene_init) = true)
    (l_BadScene_init : K.lookup f_BadScene_init = some ⟨oc_BadScene_init, od_BadScene_init, .func (PySem.W.fnOf "__init__" "BadScene.__init__" (defArgs sBadS) (defBody sBadS) (defScope sBadS) .none kV_BadScene_init dc_BadScene_init pm_BadScene_init an_BadScene_init cd_BadScene_init ct_BadScene_init), sl_BadScene_init⟩)
    (c_BadScene_init : PySem.W.codeIn K cd_BadScene_init "BadScene.__init__" = true)
    (k_BadScene_init : PySem.W.keepIn K (.ref f_BadScene_init) = true)
    (xi_BadScene : PySem.W.excInitIn K CB exT "Exception.__new__" = true)
    (xo_BadScene : PySem.W.excOver K CB exT = true)
    (hd_BadScene : PySem.W.hasDictIn K CB = true)
    (sa_BadScene : PySem.W.findIn K (.ref CB) "__setattr__" = some (some (.builtin "object.__setattr__")))
    (sb_BadScene : PySem.W.subIn K (.ref CB) (.type "BaseException") = some true)
    (ty_BadScene : PySem.W.typeIn K (.ref CB) = some (.type "type"))
    (kc_BadScene : PySem.W.keepIn K (.ref CB) = true)
    (ga_BadScene : PySem.W.findIn K (.ref CB) "__getattribute__" = some (some (.builtin "BaseException.__getattribute__")))
    (gg_BadScene : PySem.W.findIn K (.ref CB) "__getattr__" = some none)
    (ic_BadScene : PySem.W.isClsIn K CB = true)
    (ss_BadScene : PySem.W.subIn K (.ref CB) (.ref CB) = some true)
    (na_BadScene_word : PySem.W.findIn K (.ref CB) "word" = some none)
    (a_is_number : PySem.W.nsIn K mainGlobals "is_number" = some (some (.ref f_is_number)))
    (l_is_number : K.lookup f_is_number = some ⟨oc_is_number, od_is_number, .func (PySem.W.fnOf "is_number" "is_number" (defArgs sIsNum) (defBody sIsNum) (defScope sIsNum) .none kV_is_number dc_is_number pm_is_number an_is_number cd_is_number ct_is_number), sl_is_number⟩)
    (c_is_number : PySem.W.codeIn K cd_is_number "is_number" = true)
    (k_is_number : PySem.W.keepIn K (.ref f_is_number) = true)
    (a_has_key : PySem.W.nsIn K mainGlobals "has_key" = some (some (.ref f_has_key)))
    (l_has_key : K.lookup f_has_key = some ⟨oc_has_key, od_has_key, .func (PySem.W.fnOf "has_key" "has_key" (defArgs sHasKey) (defBody sHasKey) (defScope sHasKey) .none kV_has_key dc_has_key pm_has_key an_has_key cd_has_key ct_has_key), sl_has_key⟩)
    (c_has_key : PySem.W.codeIn K cd_has_key "has_key" = true)
    (k_has_key : PySem.W.keepIn K (.ref f_has_key) = true)
    (a_is_name : PySem.W.nsIn K mainGlobals "is_name" = some (some (.ref f_is_name)))
    (l_is_name : K.lookup f_is_name = some ⟨oc_is_name, od_is_name, .func (PySem.W.fnOf "is_name" "is_name" (defArgs sIsName) (defBody sIsName) (defScope sIsName) .none kV_is_name dc_is_name pm_is_name an_is_name cd_is_name ct_is_name), sl_is_name⟩)
    (c_is_name : PySem.W.codeIn K cd_is_name "is_name" = true)
    (k_is_name : PySem.W.keepIn K (.ref f_is_name) = true)
    (a_check_mast : PySem.W.nsIn K mainGlobals "check_mast" = some (some (.ref f_check_mast)))
    (l_check_mast : K.lookup f_check_mast = some ⟨oc_check_mast, od_check_mast, .func (PySem.W.fnOf "check_mast" "check_mast" (defArgs sChkM) (defBody sChkM) (defScope sChkM) .none kV_check_mast dc_check_mast pm_check_mast an_check_mast cd_check_mast ct_check_mast), sl_check_mast⟩)
    (c_check_mast : PySem.W.codeIn K cd_check_mast "check_mast" = true)
    (k_check_mast : PySem.W.keepIn K (.ref f_check_mast) = true)
    (a_check_heard : PySem.W.nsIn K mainGlobals "check_heard" = some (some (.ref f_check_heard)))
    (l_check_heard : K.lookup f_check_heard = some ⟨oc_check_heard, od_check_heard, .func (PySem.W.fnOf "check_heard" "check_heard" (defArgs sChkH) (defBody sChkH) (defScope sChkH) .none kV_check_heard dc_check_heard pm_check_heard an_check_heard cd_check_heard ct_check_heard), sl_check_heard⟩)
    (c_check_heard : PySem.W.codeIn K cd_check_heard "check_heard" = true)
    (k_check_heard : PySem.W.keepIn K (.ref f_check_heard) = true)
    (a_check_call : PySem.W.nsIn K mainGlobals "check_call" = some (some (.ref f_check_call)))
    (l_check_call : K.lookup f_check_call = some ⟨oc_check_call, od_check_call, .func (PySem.W.fnOf "check_call" "check_call" (defArgs sChkC) (defBody sChkC) (defScope sChkC) .none kV_check_call dc_check_call pm_check_call an_check_call cd_check_call ct_check_call), sl_check_call⟩)
    (c_check_call : PySem.W.codeIn K cd_check_call "check_call" = true)
    (k_check_call : PySem.W.keepIn K (.ref f_check_call) = true)
    (a_law_number : PySem.W.nsIn K mainGlobals "_law_number" = some (some (.ref f_law_number)))
    (l_law_number : K.lookup f_law_number = some ⟨oc_law_number, od_law_number, .func (PySem.W.fnOf "_law_number" "_law_number" (defArgs sNum) (defBody sNum) (defScope sNum) .none kV_law_number dc_law_number pm_law_number an_law_number cd_law_number ct_law_number), sl_law_number⟩)
    (c_law_number : PySem.W.codeIn K cd_law_number "_law_number" = true)
    (k_law_number : PySem.W.keepIn K (.ref f_law_number) = true)
    (a_law_take : PySem.W.nsIn K mainGlobals "_law_take" = some (some (.ref f_law_take)))
    (l_law_take : K.lookup f_law_take = some ⟨oc_law_take, od_law_take, .func (PySem.W.fnOf "_law_take" "_law_take" (defArgs sTake) (defBody sTake) (defScope sTake) .none kV_law_take dc_law_take pm_law_take an_law_take cd_law_take ct_law_take), sl_law_take⟩)
    (c_law_take : PySem.W.codeIn K cd_law_take "_law_take" = true)
    (k_law_take : PySem.W.keepIn K (.ref f_law_take) = true)
    (a_law_pick : PySem.W.nsIn K mainGlobals "_law_pick" = some (some (.ref f_law_pick)))
    (l_law_pick : K.lookup f_law_pick = some ⟨oc_law_pick, od_law_pick, .func (PySem.W.fnOf "_law_pick" "_law_pick" (defArgs sPick) (defBody sPick) (defScope sPick) .none kV_law_pick dc_law_pick pm_law_pick an_law_pick cd_law_pick ct_law_pick), sl_law_pick⟩)
    (c_law_pick : PySem.W.codeIn K cd_law_pick "_law_pick" = true)
    (k_law_pick : PySem.W.keepIn K (.ref f_law_pick) = true)
    (a_law_masts : PySem.W.nsIn K mainGlobals "_law_masts" = some (some (.ref f_law_masts)))
    (l_law_masts : K.lookup f_law_masts = some ⟨oc_law_masts, od_law_masts, .func (PySem.W.fnOf "_law_masts" "_law_masts" (defArgs sLMasts) (defBody sLMasts) (defScope sLMasts) .none kV_law_masts dc_law_masts pm_law_masts an_law_masts cd_law_masts ct_law_masts), sl_law_masts⟩)
    (c_law_masts : PySem.W.codeIn K cd_law_masts "_law_masts" = true)
    (k_law_masts : PySem.W.keepIn K (.ref f_law_masts) = true)
    (a_law_heard : PySem.W.nsIn K mainGlobals "_law_heard" = some (some (.ref f_law_heard)))
    (l_law_heard : K.lookup f_law_heard = some ⟨oc_law_heard, od_law_heard, .func (PySem.W.fnOf "_law_heard" "_law_heard" (defArgs sLHeard) (defBody sLHeard) (defScope sLHeard) .none kV_law_heard dc_law_heard pm_law_heard an_law_heard cd_law_heard ct_law_heard), sl_law_heard⟩)
    (c_law_heard : PySem.W.codeIn K cd_law_heard "_law_heard" = true)
    (k_law_heard : PySem.W.keepIn K (.ref f_law_heard) = true)
    (a_law_scene : PySem.W.nsIn K mainGlobals "_law_scene" = some (some (.ref f_law_scene)))
    (l_law_scene : K.lookup f_law_scene = some ⟨oc_law_scene, od_law_scene, .func (PySem.W.fnOf "_law_scene" "_law_scene" (defArgs sLScene) (defBody sLScene) (defScope sLScene) .none kV_law_scene dc_law_scene pm_law_scene an_law_scene cd_law_scene ct_law_scene), sl_law_scene⟩)
    (c_law_scene : PySem.W.codeIn K cd_law_scene "_law_scene" = true)
    (k_law_scene : PySem.W.keepIn K (.ref f_law_scene) = true)
    (a_law_fault : PySem.W.nsIn K mainGlobals "_law_fault" = some (some (.ref f_law_fault)))
    (l_law_fault : K.lookup f_law_fault = some ⟨oc_law_fault, od_law_fault, .func (PySem.W.fnOf "_law_fault" "_law_fault" (defArgs sFault) (defBody sFault) (defScope sFault) .none kV_law_fault dc_law_fault pm_law_fault an_law_fault cd_law_fault ct_law_fault), sl_law_fault⟩)
    (c_law_fault : PySem.W.codeIn K cd_law_fault "_law_fault" = true)
    (k_law_fault : PySem.W.keepIn K (.ref f_law_fault) = true)
    (a_wrong_seating : PySem.W.nsIn K mainGlobals "wrong_seating" = some (some (.ref f_wrong_seating)))
    (l_wrong_seating : K.lookup f_wrong_seating = some ⟨oc_wrong_seating, od_wrong_seating, .func (PySem.W.fnOf "wrong_seating" "wrong_seating" (defArgs sWrong) (defBody sWrong) (defScope sWrong) .none kV_wrong_seating dc_wrong_seating pm_wrong_seating an_wrong_seating cd_wrong_seating ct_wrong_seating), sl_wrong_seating⟩)
    (c_wrong_seating : PySem.W.codeIn K cd_wrong_seating "wrong_seating" = true)
    (k_wrong_seating : PySem.W.keepIn K (.ref f_wrong_seating) = true)
    (a_law : PySem.W.nsIn K mainGlobals "law" = some (some (.ref f_law)))
    (l_law : K.lookup f_law = some ⟨oc_law, od_law, .func (PySem.W.fnOf "law" "law" (defArgs s_law) (defBody s_law) (defScope s_law) .none kV_law dc_law pm_law an_law cd_law ct_law), sl_law⟩)
    (c_law : PySem.W.codeIn K cd_law "law" = true)
    (k_law : PySem.W.keepIn K (.ref f_law) = true)
    (a_SMALL_LETTERS : PySem.W.nsIn K mainGlobals "SMALL_LETTERS" = some (some (.str letters t_SMALL_LETTERS)))
    (a_FIGURES : PySem.W.nsIn K mainGlobals "FIGURES" = some (some (.str figures t_FIGURES)))
    (a_LONGEST_NAME : PySem.W.nsIn K mainGlobals "LONGEST_NAME" = some (some (.int 8 t_LONGEST_NAME)))
    (a_LIMIT : PySem.W.nsIn K mainGlobals "LIMIT" = some (some (.int 1000 t_LIMIT)))
    (z_abs : PySem.W.nsIn K mainGlobals "abs" = some none)
    (z_all : PySem.W.nsIn K mainGlobals "all" = some none)
    (z_any : PySem.W.nsIn K mainGlobals "any" = some none)
    (z_bool : PySem.W.nsIn K mainGlobals "bool" = some none)
    (z_dict : PySem.W.nsIn K mainGlobals "dict" = some none)
    (z_int : PySem.W.nsIn K mainGlobals "int" = some none)
    (z_isinstance : PySem.W.nsIn K mainGlobals "isinstance" = some none)
    (z_len : PySem.W.nsIn K mainGlobals "len" = some none)
    (z_list : PySem.W.nsIn K mainGlobals "list" = some none)
    (z_range : PySem.W.nsIn K mainGlobals "range" = some none)
    (z_set : PySem.W.nsIn K mainGlobals "set" = some none)
    (z_sorted : PySem.W.nsIn K mainGlobals "sorted" = some none)
    (z_str : PySem.W.nsIn K mainGlobals "str" = some none)
    (z_sum : PySem.W.nsIn K mainGlobals "sum" = some none)
    (z_tuple : PySem.W.nsIn K mainGlobals "tuple" = some none)
    (z_zip : PySem.W.nsIn K mainGlobals "zip" = some none) :
    ∃ fd : FuncData, (∀ (s : Shared) (v : Value), BindsTo s fd ⟨[v], []⟩ [("script", v)]) ∧ ∀ base : Heap, K.In base → base.Ns mainGlobals mg → FnOk l.prog w K mg base CX0 9 fa fd ["script"] (spLaw K) := by
  have e := hfa.symm.trans (PySem.W.mg_of X G a_law)
  cases e
  have F_Call_init := fun_mk (st := sCInit) l_Call_init c_Call_init k_Call_init
  have b_Call_init := F_Call_init.binds (ps := ["self", "worth", "heard"]) fun _ _ _ _ _ _ us hl => match us, hl with | [_, _, _], _ => rfl
  have F_Call_eq := fun_mk (st := sCEq) l_Call_eq c_Call_eq k_Call_eq
  have b_Call_eq := F_Call_eq.binds (ps := ["self", "other"]) fun _ _ _ _ _ _ us hl => match us, hl with | [_, _], _ => rfl
  have M_Call_eq : Meth K CC "__eq__" f_Call_eq := ⟨a_Call_eq, i_Call_eq, k_Call_eq⟩
  have cls_Call : Cls K CC := ⟨pg_Call, hd_Call, po_Call, sa_Call⟩
  have g_Call := PySem.W.mg_of X G a_Call
  have Mk_Call : Mk K CC f_Call_init := ⟨mk_Call, a_Call_init, i_Call_init, kc_Call⟩
  have F_Scene_init := fun_mk (st := sSInit) l_Scene_init c_Scene_init k_Scene_init
  have b_Scene_init := F_Scene_init.binds (ps := ["self", "channels", "calls"]) fun _ _ _ _ _ _ us hl => match us, hl with | [_, _, _], _ => rfl
  have F_Scene_eq := fun_mk (st := sSEq) l_Scene_eq c_Scene_eq k_Scene_eq
  have b_Scene_eq := F_Scene_eq.binds (ps := ["self", "other"]) fun _ _ _ _ _ _ us hl => match us, hl with | [_, _], _ => rfl
  have M_Scene_eq : Meth K CS "__eq__" f_Scene_eq := ⟨a_Scene_eq, i_Scene_eq, k_Scene_eq⟩
  have F_Scene_order := fun_mk (st := sOrder) l_Scene_order c_Scene_order k_Scene_order
  have b_Scene_order := F_Scene_order.binds (ps := ["self"]) fun _ _ _ _ _ _ us hl => match us, hl with | [_], _ => rfl
  have M_Scene_order : Meth K CS "order" f_Scene_order := ⟨a_Scene_order, i_Scene_order, k_Scene_order⟩
  have F_Scene_rank := fun_mk (st := sRank) l_Scene_rank c_Scene_rank k_Scene_rank
  have b_Scene_rank := F_Scene_rank.binds (ps := ["self", "name"]) fun _ _ _ _ _ _ us hl => match us, hl with | [_, _], _ => rfl
  have M_Scene_rank : Meth K CS "rank" f_Scene_rank := ⟨a_Scene_rank, i_Scene_rank, k_Scene_rank⟩
  have F_Scene_room := fun_mk (st := sSRoom) l_Scene_room c_Scene_room k_Scene_room
  have b_Scene_room := F_Scene_room.binds (ps := ["self", "masts"]) fun _ _ _ _ _ _ us hl => match us, hl with | [_, _], _ => rfl
  have M_Scene_room : Meth K CS "room" f_Scene_room := ⟨a_Scene_room, i_Scene_room, k_Scene_room⟩
  have F_Scene_masts_of := fun_mk (st := sMastsOf) l_Scene_masts_of c_Scene_masts_of k_Scene_masts_of
  have b_Scene_masts_of := F_Scene_masts_of.binds (ps := ["self", "names"]) fun _ _ _ _ _ _ us hl => match us, hl with | [_, _], _ => rfl
  have M_Scene_masts_of : Meth K CS "masts_of" f_Scene_masts_of := ⟨a_Scene_masts_of, i_Scene_masts_of, k_Scene_masts_of⟩
  have B_Scene_rank : BMeth K CS "rank" f_Scene_rank := ⟨M_Scene_rank, bg_Scene_rank, bt_Scene_rank, by decide +kernel, bf_Scene_rank⟩
  have cls_Scene : Cls K CS := ⟨pg_Scene, hd_Scene, po_Scene, sa_Scene⟩
  have g_Scene := PySem.W.mg_of X G a_Scene
  have Mk_Scene : Mk K CS f_Scene_init := ⟨mk_Scene, a_Scene_init, i_Scene_init, kc_Scene⟩
  have F_BadScene_init := fun_mk (st := sBadS) l_BadScene_init c_BadScene_init k_BadScene_init
  have b_BadScene_init := F_BadScene_init.binds (ps := ["self", "word"]) fun _ _ _ _ _ _ us hl => match us, hl with | [_, _], _ => rfl
  have g_BadScene := PySem.W.mg_of X G a_BadScene
  have O_BadScene : OexB K CB := ⟨xi_BadScene, xo_BadScene, hd_BadScene, sa_BadScene, sb_BadScene, ty_BadScene, kc_BadScene⟩
  have xf_BadScene : XfC K CB := ⟨ga_BadScene, gg_BadScene, sb_BadScene, hd_BadScene⟩
  have te_BadScene := exm_self sb_BadScene ic_BadScene ty_BadScene ss_BadScene
  have F_is_number := fun_mk (st := sIsNum) l_is_number c_is_number k_is_number
  have b_is_number := F_is_number.binds (ps := ["thing", "low", "high"]) fun _ _ _ _ _ _ us hl => match us, hl with | [_, _, _], _ => rfl
  have g_is_number := PySem.W.mg_of X G a_is_number
  have F_has_key := fun_mk (st := sHasKey) l_has_key c_has_key k_has_key
  have b_has_key := F_has_key.binds (ps := ["table", "thing"]) fun _ _ _ _ _ _ us hl => match us, hl with | [_, _], _ => rfl
  have g_has_key := PySem.W.mg_of X G a_has_key
  have F_is_name := fun_mk (st := sIsName) l_is_name c_is_name k_is_name
  have b_is_name := F_is_name.binds (ps := ["thing"]) fun _ _ _ _ _ _ us hl => match us, hl with | [_], _ => rfl
  have g_is_name := PySem.W.mg_of X G a_is_name
  have F_check_mast := fun_mk (st := sChkM) l_check_mast c_check_mast k_check_mast
  have b_check_mast := F_check_mast.binds (ps := ["mast", "many"]) fun _ _ _ _ _ _ us hl => match us, hl with | [_, _], _ => rfl
  have g_check_mast := PySem.W.mg_of X G a_check_mast
  have F_check_heard := fun_mk (st := sChkH) l_check_heard c_check_heard k_check_heard
  have b_check_heard := F_check_heard.binds (ps := ["heard", "channels"]) fun _ _ _ _ _ _ us hl => match us, hl with | [_, _], _ => rfl
  have g_check_heard := PySem.W.mg_of X G a_check_heard
  have F_check_call := fun_mk (st := sChkC) l_check_call c_check_call k_check_call
  have b_check_call := F_check_call.binds (ps := ["name", "call", "channels"]) fun _ _ _ _ _ _ us hl => match us, hl with | [_, _, _], _ => rfl
  have g_check_call := PySem.W.mg_of X G a_check_call
  have F_law_number := fun_mk (st := sNum) l_law_number c_law_number k_law_number
  have b_law_number := F_law_number.binds (ps := ["script", "index"]) fun _ _ _ _ _ _ us hl => match us, hl with | [_, _], _ => rfl
  have g_law_number := PySem.W.mg_of X G a_law_number
  have F_law_take := fun_mk (st := sTake) l_law_take c_law_take k_law_take
  have b_law_take := F_law_take.binds (ps := ["draw", "many"]) fun _ _ _ _ _ _ us hl => match us, hl with | [_, _], _ => rfl
  have g_law_take := PySem.W.mg_of X G a_law_take
  have F_law_pick := fun_mk (st := sPick) l_law_pick c_law_pick k_law_pick
  have b_law_pick := F_law_pick.binds (ps := ["draw", "items"]) fun _ _ _ _ _ _ us hl => match us, hl with | [_, _], _ => rfl
  have g_law_pick := PySem.W.mg_of X G a_law_pick
  have F_law_masts := fun_mk (st := sLMasts) l_law_masts c_law_masts k_law_masts
  have b_law_masts := F_law_masts.binds (ps := ["draw", "most"]) fun _ _ _ _ _ _ us hl => match us, hl with | [_, _], _ => rfl
  have g_law_masts := PySem.W.mg_of X G a_law_masts
  have F_law_heard := fun_mk (st := sLHeard) l_law_heard c_law_heard k_law_heard
  have b_law_heard := F_law_heard.binds (ps := ["draw", "channels"]) fun _ _ _ _ _ _ us hl => match us, hl with | [_, _], _ => rfl
  have g_law_heard := PySem.W.mg_of X G a_law_heard
  have F_law_scene := fun_mk (st := sLScene) l_law_scene c_law_scene k_law_scene
  have b_law_scene := F_law_scene.binds (ps := ["draw", "masts", "calls"]) fun _ _ _ _ _ _ us hl => match us, hl with | [_, _, _], _ => rfl
  have g_law_scene := PySem.W.mg_of X G a_law_scene
  have F_law_fault := fun_mk (st := sFault) l_law_fault c_law_fault k_law_fault
  have b_law_fault := F_law_fault.binds (ps := ["channels", "calls"]) fun _ _ _ _ _ _ us hl => match us, hl with | [_, _], _ => rfl
  have g_law_fault := PySem.W.mg_of X G a_law_fault
  have F_wrong_seating := fun_mk (st := sWrong) l_wrong_seating c_wrong_seating k_wrong_seating
  have b_wrong_seating := F_wrong_seating.binds (ps := ["scene", "seating"]) fun _ _ _ _ _ _ us hl => match us, hl with | [_, _], _ => rfl
  have g_wrong_seating := PySem.W.mg_of X G a_wrong_seating
  have F_law := fun_mk (st := s_law) l_law c_law k_law
  have g_SMALL_LETTERS := PySem.W.mg_of X G a_SMALL_LETTERS
  have g_FIGURES := PySem.W.mg_of X G a_FIGURES
  have g_LONGEST_NAME := PySem.W.mg_of X G a_LONGEST_NAME
  have g_LIMIT := PySem.W.mg_of X G a_LIMIT
  have n_abs := PySem.W.mg_none_of X G z_abs
  have n_all := PySem.W.mg_none_of X G z_all
  have n_any := PySem.W.mg_none_of X G z_any
  have n_bool := PySem.W.mg_none_of X G z_bool
  have n_dict := PySem.W.mg_none_of X G z_dict
  have n_int := PySem.W.mg_none_of X G z_int
  have n_isinstance := PySem.W.mg_none_of X G z_isinstance
  have n_len := PySem.W.mg_none_of X G z_len
  have n_list := PySem.W.mg_none_of X G z_list
  have n_range := PySem.W.mg_none_of X G z_range
  have n_set := PySem.W.mg_none_of X G z_set
  have n_sorted := PySem.W.mg_none_of X G z_sorted
  have n_str := PySem.W.mg_none_of X G z_str
  have n_sum := PySem.W.mg_none_of X G z_sum
  have n_tuple := PySem.W.mg_none_of X G z_tuple
  have n_zip := PySem.W.mg_none_of X G z_zip
  refine ⟨PySem.W.fnOf "law" "law" (defArgs s_law) (defBody s_law) (defScope s_law) .none kV_law dc_law pm_law an_law cd_law ct_law, fun s v => .of_eq rfl, fun base _ _ => ?_⟩
  have TD : TxD K mg f_law_number f_law_take := ⟨n_len, n_int, n_abs, g_law_number, g_law_take⟩
  have TN : TxN mg := ⟨n_isinstance, n_int, n_bool, n_str, n_len, n_all, ⟨_, g_SMALL_LETTERS⟩, ⟨_, g_FIGURES⟩, ⟨_, g_LONGEST_NAME⟩⟩
  have TS : TxS K mg CC := ⟨cls_Call, na_Call_worth, na_Call_heard, ⟨_, g_LIMIT⟩, n_len, n_set, n_tuple, n_sorted⟩
  have TC : TxC K mg CS := ⟨cls_Scene, na_Scene_channels, na_Scene_calls, n_sorted⟩
  have TW : TxW mg := ⟨n_range, n_str, n_dict⟩
  have c_take : Cal l.prog w K mg base 2 "_law_take" ["draw", "many"] (spTake K) := ⟨_, _, g_law_take, F_law_take.kp, b_law_take, ok_take F_law_take TD F_law_number b_law_number⟩
  have c_pick : Cal l.prog w K mg base 3 "_law_pick" ["draw", "items"] (spPick K) := ⟨_, _, g_law_pick, F_law_pick.kp, b_law_pick, ok_pick F_law_pick TD F_law_number b_law_number F_law_take b_law_take⟩
  have c_name : Cal l.prog w K mg base 1 "is_name" ["thing"] spIsName := ⟨_, _, g_is_name, F_is_name.kp, b_is_name, ok_isname F_is_name TN⟩
  have c_num : Cal l.prog w K mg base 1 "is_number" ["thing", "low", "high"] spIsNum := ⟨_, _, g_is_number, F_is_number.kp, b_is_number, ok_isnum F_is_number TN⟩
  have c_chkm : Cal l.prog w K mg base 2 "check_mast" ["mast", "many"] spChkM := ⟨_, _, g_check_mast, F_check_mast.kp, b_check_mast, ok_chkM F_check_mast TS c_name c_num⟩
  have c_hk : Cal l.prog w K mg base 1 "has_key" ["table", "thing"] spHasKey := ⟨_, _, g_has_key, F_has_key.kp, b_has_key, ok_haskey F_has_key n_isinstance n_str⟩
  have c_chkh : Cal l.prog w K mg base 2 "check_heard" ["heard", "channels"] spChkH := ⟨_, _, g_check_heard, F_check_heard.kp, b_check_heard, ok_chkH F_check_heard TS c_hk⟩
  have c_chkc : Cal l.prog w K mg base 3 "check_call" ["name", "call", "channels"] (spChkC K CC) := ⟨_, _, g_check_call, F_check_call.kp, b_check_call, ok_chkC F_check_call TS c_name c_num c_chkh⟩
  have c_Call : CalI l.prog w K mg base CC 1 "Call" ["self", "worth", "heard"] (spCInit K CC) := ⟨_, _, g_Call, Mk_Call, b_Call_init, ok_cinit F_Call_init TS⟩
  have c_Scene : CalI l.prog w K mg base CS 4 "Scene" ["self", "channels", "calls"] (spSInit K CS CC) := ⟨_, _, g_Scene, Mk_Scene, b_Scene_init, ok_sinit F_Scene_init TC c_chkm c_chkc⟩
  have c_lm : Cal l.prog w K mg base 4 "_law_masts" ["draw", "most"] (spMasts K) := ⟨_, _, g_law_masts, F_law_masts.kp, b_law_masts, ok_lmasts F_law_masts TW c_take c_pick⟩
  have c_lh : Cal l.prog w K mg base 3 "_law_heard" ["draw", "channels"] (spHeard K) := ⟨_, _, g_law_heard, F_law_heard.kp, b_law_heard, ok_lheard F_law_heard c_take⟩
  have c_ls : Cal l.prog w K mg base 6 "_law_scene" ["draw", "masts", "calls"] (spScene K CS CC) := ⟨_, _, g_law_scene, F_law_scene.kp, b_law_scene, ok_lscene F_law_scene TW c_take c_lm c_lh c_Call c_Scene⟩
  have TO : TxO K mg CS CC := ⟨cls_Scene, na_Scene_calls, cls_Call, na_Call_worth, n_sorted⟩
  have c_rank : CalB l.prog w K mg base CS 1 "rank" ["self", "name"] (spRank K CS CC) := ⟨_, _, B_Scene_rank, b_Scene_rank, ok_rank F_Scene_rank TO⟩
  have c_order : CalM l.prog w K mg base CS 4 "order" ["self"] (spOrder K CS CC) := ⟨_, _, M_Scene_order, b_Scene_order, ok_order F_Scene_order TO c_rank⟩
  have TQ : TxEq K mg CS := ⟨cls_Scene, na_Scene_channels, na_Scene_calls, n_isinstance, g_Scene, ca_Scene, cg_Scene, ct_Scene, ob_Scene⟩
  have cB : CalBd l.prog w K mg base CB "word" := ⟨_, _, a_BadScene_init, i_BadScene_init, b_BadScene_init, ok_badI F_BadScene_init O_BadScene na_BadScene_word scBadS fun _ _ _ _ _ _ _ => pss_one (ps_ostB (pv 0) (pv 1))⟩
  have c_nameV : Cal l.prog w K mg base 1 "is_name" ["thing"] spNameV := ⟨_, _, g_is_name, F_is_name.kp, b_is_name, ok_nameV F_is_name TN⟩
  have c_numV : Cal l.prog w K mg base 1 "is_number" ["thing", "low", "high"] spNumV := ⟨_, _, g_is_number, F_is_number.kp, b_is_number, ok_numV F_is_number TN⟩
  have TX : TxX K mg CB := ⟨O_BadScene, g_BadScene⟩
  have c_chkmX : CalX l.prog w K mg base 4 "check_mast" ["mast", "many"] (spChkMX CB) := ⟨_, _, g_check_mast, F_check_mast.kp, b_check_mast, ok_chkMX F_check_mast TS TX cB c_nameV c_numV⟩
  have c_chkhX : CalX l.prog w K mg base 4 "check_heard" ["heard", "channels"] (spChkHX CB) := ⟨_, _, g_check_heard, F_check_heard.kp, b_check_heard, ok_chkHX F_check_heard TS TX cB c_hk⟩
  have c_chkcX : CalX l.prog w K mg base 5 "check_call" ["name", "call", "channels"] (spChkCX K CC CB) := ⟨_, _, g_check_call, F_check_call.kp, b_check_call, ok_chkCX F_check_call TS TX cB c_nameV c_numV c_chkhX⟩
  have c_SceneX : CalIX l.prog w K mg base CS 6 "Scene" ["self", "channels", "calls"] (spSInitX K CS CC CB) := ⟨_, _, g_Scene, Mk_Scene, b_Scene_init, ok_sinitX F_Scene_init c_chkmX c_chkcX⟩
  have TF : TxFt K mg CB := ⟨g_BadScene, xf_BadScene, na_BadScene_word, te_BadScene⟩
  have c_fault : Cal l.prog w K mg base 8 "_law_fault" ["channels", "calls"] (spFault K CC) := ⟨_, _, g_law_fault, F_law_fault.kp, b_law_fault, ok_fault F_law_fault TF c_SceneX c_Scene⟩
  have TMo : TxMo K mg CS CC := ⟨cls_Scene, na_Scene_channels, na_Scene_calls, cls_Call, na_Call_heard, n_tuple, n_sorted, n_sum⟩
  have c_mo : CalM l.prog w K mg base CS 1 "masts_of" ["self", "names"] (spMastsOf K CS CC false) := ⟨_, _, M_Scene_masts_of, b_Scene_masts_of, ok_mastsofL F_Scene_masts_of TMo⟩
  have c_ro : CalM l.prog w K mg base CS 1 "room" ["self", "masts"] (spSRoom K CS CC false) := ⟨_, _, M_Scene_room, b_Scene_room, ok_sroomL F_Scene_room TMo⟩
  have TWv : TxWv K mg CS CC := ⟨cls_Scene, na_Scene_channels, na_Scene_calls, cls_Call, na_Call_heard, n_any⟩
  have c_wr : Cal l.prog w K mg base 1 "wrong_seating" ["scene", "seating"] (spWrongV K CS CC) := ⟨_, _, g_wrong_seating, F_wrong_seating.kp, b_wrong_seating, ok_wrongV F_wrong_seating TWv⟩
  have TCe : TxCe K mg CC := ⟨cls_Call, na_Call_worth, na_Call_heard, n_isinstance, g_Call, ca_Call, cg_Call, ct_Call, ob_Call⟩
  have TL : TxL K mg CS CC _ _ _ _ := ⟨cls_Scene, na_Scene_channels, na_Scene_calls, cls_Call, na_Call_worth, na_Call_heard, n_len, n_dict, n_list, n_sorted, n_sum, n_any, n_zip, a_Scene_eq, i_Scene_eq, b_Scene_eq, a_Call_eq, ne_Call, ob_Call, i_Call_eq, b_Call_eq⟩
  exact ok_law F_law TL c_ls c_take c_pick c_order c_mo c_ro c_wr c_nameV c_Call c_Scene c_fault (ok_seq F_Scene_eq TQ) (ok_ceq F_Call_eq TCe)

theorem walk {l : PySem.W.OpenLaw} {q : Program} {loose : List PySem.Str} {XP : (PySem.Str → Option Value) → Heap → Prop} {YP : World → Heap → Prop} {d : DefRec} {K : Params → PySem.W.Frag} (hn : l.most = some 63) (hdf : d.params.defaults = [])
    (hY : ∀ (w : World) (h : Heap), YP w h → (K w.params).In h)
    (F : ∀ (w : World) (mg : PySem.Str → Option Value) (fa : Addr) (h : Heap), (K w.params).In h → h.Ns mainGlobals mg → mg d.name = some (.ref fa) →
      ∃ fd : FuncData, (∀ (s : Shared) (u : Value), BindsTo s fd ⟨[u], []⟩ [("script", u)]) ∧ ∀ base : Heap, (K w.params).In base → base.Ns mainGlobals mg → FnOk l.prog w (K w.params) mg base CX0 9 fa fd ["script"] (spLaw (K w.params))) :
    PySem.W.WalkO q loose XP YP l.row.toRowW d [] (fun f vs => PySem.call f vs) :=
  L2.walk_of (n := 63) (k := 9) (x := "script") (CX := fun _ => CX0) (sp := fun w => spLaw (K w.params)) hn (by decide) hdf ⟨rfl, by decide, by decide⟩ hY F (fun _ _ a ns hl _ hS => ⟨a, ns, rfl, hS, hl, fun _ => rfl⟩) fun _ _ _ _ _ z => z
end Mc
open PySem PySem.W PyProof.Rows
set_option maxRecDepth 100000 in
set_option maxHeartbeats 0 in
theorem PySem.Challenge.cw_mastcalls_k21_whole_scenes_holds : PySem.Challenge.rw_mastcalls_k21_whole_scenes.Holds := by
  w_on; o_law; k_head; (case hw => w_witness2)
  k_fill
  refine Mc.walk (l := PySem.Challenge.rw_mastcalls_k21_whole_scenes) rfl rfl (fun w h Y => PySem.W.kIn_of Y) ?F
  case F =>
    intro w mg fa h KX G hmg
    refine' Mc.all_mk KX G hmg ?a_Call ?a_Call_init ?i_Call_init ?l_Call_init ?c_Call_init ?k_Call_init ?a_Call_eq ?i_Call_eq ?l_Call_eq ?c_Call_eq ?k_Call_eq ?pg_Call ?hd_Call ?po_Call ?sa_Call ?mk_Call ?kc_Call ?ne_Call ?ob_Call ?ca_Call ?cg_Call ?ct_Call ?na_Call_worth ?na_Call_heard ?a_Scene ?a_Scene_init ?i_Scene_init ?l_Scene_init ?c_Scene_init ?k_Scene_init ?a_Scene_eq ?i_Scene_eq ?l_Scene_eq ?c_Scene_eq ?k_Scene_eq ?a_Scene_order ?i_Scene_order ?l_Scene_order ?c_Scene_order ?k_Scene_order ?a_Scene_rank ?i_Scene_rank ?l_Scene_rank ?c_Scene_rank ?k_Scene_rank ?a_Scene_room ?i_Scene_room ?l_Scene_room ?c_Scene_room ?k_Scene_room ?a_Scene_masts_of ?i_Scene_masts_of ?l_Scene_masts_of ?c_Scene_masts_of ?k_Scene_masts_of ?pg_Scene ?hd_Scene ?po_Scene ?sa_Scene ?mk_Scene ?kc_Scene ?bg_Scene_rank ?bt_Scene_rank ?bf_Scene_rank ?ne_Scene ?ob_Scene ?ca_Scene ?cg_Scene ?ct_Scene ?na_Scene_channels ?na_Scene_calls ?a_BadScene ?a_BadScene_init ?i_BadScene_init ?l_BadScene_init ?c_BadScene_init ?k_BadScene_init ?xi_BadScene ?xo_BadScene ?hd_BadScene ?sa_BadScene ?sb_BadScene ?ty_BadScene ?kc_BadScene ?ga_BadScene ?gg_BadScene ?ic_BadScene ?ss_BadScene ?na_BadScene_word ?a_is_number ?l_is_number ?c_is_number ?k_is_number ?a_has_key ?l_has_key ?c_has_key ?k_has_key ?a_is_name ?l_is_name ?c_is_name ?k_is_name ?a_check_mast ?l_check_mast ?c_check_mast ?k_check_mast ?a_check_heard ?l_check_heard ?c_check_heard ?k_check_heard ?a_check_call ?l_check_call ?c_check_call ?k_check_call ?a_law_number ?l_law_number ?c_law_number ?k_law_number ?a_law_take ?l_law_take ?c_law_take ?k_law_take ?a_law_pick ?l_law_pick ?c_law_pick ?k_law_pick ?a_law_masts ?l_law_masts ?c_law_masts ?k_law_masts ?a_law_heard ?l_law_heard ?c_law_heard ?k_law_heard ?a_law_scene ?l_law_scene ?c_law_scene ?k_law_scene ?a_law_fault ?l_law_fault ?c_law_fault ?k_law_fault ?a_wrong_seating ?l_wrong_seating ?c_wrong_seating ?k_wrong_seating ?a_law ?l_law ?c_law ?k_law ?a_SMALL_LETTERS ?a_FIGURES ?a_LONGEST_NAME ?a_LIMIT ?z_abs ?z_all ?z_any ?z_bool ?z_dict ?z_int ?z_isinstance ?z_len ?z_list ?z_range ?z_set ?z_sorted ?z_str ?z_sum ?z_tuple ?z_zip
    (case a_Call => k_is)
    (case a_Call_init => k_is)
    (case i_Call_init => k_is)
    (case l_Call_init => k_is)
    (case c_Call_init => k_is)
    (case k_Call_init => k_is)
    (case a_Call_eq => k_is)
    (case i_Call_eq => k_is)
    (case l_Call_eq => k_is)
    (case c_Call_eq => k_is)
    (case k_Call_eq => k_is)
    (case pg_Call => k_is)
    (case hd_Call => k_is)
    (case po_Call => k_is)
    (case sa_Call => k_is)
    (case mk_Call => k_is)
    (case kc_Call => k_is)
    (case ne_Call => first | k_is | rfl | decide +kernel)
    (case ob_Call => first | k_is | rfl | decide +kernel)
    (case ca_Call => first | k_is | rfl | decide +kernel)
    (case cg_Call => first | k_is | rfl | decide +kernel)
    (case ct_Call => first | k_is | rfl | decide +kernel)
    (case na_Call_worth => k_is)
    (case na_Call_heard => k_is)
    (case a_Scene => k_is)
    (case a_Scene_init => k_is)
    (case i_Scene_init => k_is)
    (case l_Scene_init => k_is)
    (case c_Scene_init => k_is)
    (case k_Scene_init => k_is)
    (case a_Scene_eq => k_is)
    (case i_Scene_eq => k_is)
    (case l_Scene_eq => k_is)
    (case c_Scene_eq => k_is)
    (case k_Scene_eq => k_is)
    (case a_Scene_order => k_is)
    (case i_Scene_order => k_is)
    (case l_Scene_order => k_is)
    (case c_Scene_order => k_is)
    (case k_Scene_order => k_is)
    (case a_Scene_rank => k_is)
    (case i_Scene_rank => k_is)
    (case l_Scene_rank => k_is)
    (case c_Scene_rank => k_is)
    (case k_Scene_rank => k_is)
    (case a_Scene_room => k_is)
    (case i_Scene_room => k_is)
    (case l_Scene_room => k_is)
    (case c_Scene_room => k_is)
    (case k_Scene_room => k_is)
    (case a_Scene_masts_of => k_is)
    (case i_Scene_masts_of => k_is)
    (case l_Scene_masts_of => k_is)
    (case c_Scene_masts_of => k_is)
    (case k_Scene_masts_of => k_is)
    (case pg_Scene => k_is)
    (case hd_Scene => k_is)
    (case po_Scene => k_is)
    (case sa_Scene => k_is)
    (case mk_Scene => k_is)
    (case kc_Scene => k_is)
    (case bg_Scene_rank => first | k_is | rfl | decide +kernel)
    (case bt_Scene_rank => first | k_is | rfl | decide +kernel)
    (case bf_Scene_rank => first | k_is | rfl | decide +kernel)
    (case ne_Scene => first | k_is | rfl | decide +kernel)
    (case ob_Scene => first | k_is | rfl | decide +kernel)
    (case ca_Scene => first | k_is | rfl | decide +kernel)
    (case cg_Scene => first | k_is | rfl | decide +kernel)
    (case ct_Scene => first | k_is | rfl | decide +kernel)
    (case na_Scene_channels => k_is)
    (case na_Scene_calls => k_is)
    (case a_BadScene => k_is)
    (case a_BadScene_init => k_is)
    (case i_BadScene_init => k_is)
    (case l_BadScene_init => k_is)
    (case c_BadScene_init => k_is)
    (case k_BadScene_init => k_is)
    (case xi_BadScene => first | k_is | rfl | decide +kernel)
    (case xo_BadScene => first | k_is | rfl | decide +kernel)
    (case hd_BadScene => k_is)
    (case sa_BadScene => k_is)
    (case sb_BadScene => k_is)
    (case ty_BadScene => k_is)
    (case kc_BadScene => k_is)
    (case ga_BadScene => k_is)
    (case gg_BadScene => k_is)
    (case ic_BadScene => k_is)
    (case ss_BadScene => first | rfl | k_is)
    (case na_BadScene_word => k_is)
    (case a_is_number => k_is)
    (case l_is_number => k_is)
    (case c_is_number => k_is)
    (case k_is_number => k_is)
    (case a_has_key => k_is)
    (case l_has_key => k_is)
    (case c_has_key => k_is)
    (case k_has_key => k_is)
    (case a_is_name => k_is)
    (case l_is_name => k_is)
    (case c_is_name => k_is)
    (case k_is_name => k_is)
    (case a_check_mast => k_is)
    (case l_check_mast => k_is)
    (case c_check_mast => k_is)
    (case k_check_mast => k_is)
    (case a_check_heard => k_is)
    (case l_check_heard => k_is)
    (case c_check_heard => k_is)
    (case k_check_heard => k_is)
    (case a_check_call => k_is)
    (case l_check_call => k_is)
    (case c_check_call => k_is)
    (case k_check_call => k_is)
    (case a_law_number => k_is)
    (case l_law_number => k_is)
    (case c_law_number => k_is)
    (case k_law_number => k_is)
    (case a_law_take => k_is)
    (case l_law_take => k_is)
    (case c_law_take => k_is)
    (case k_law_take => k_is)
    (case a_law_pick => k_is)
    (case l_law_pick => k_is)
    (case c_law_pick => k_is)
    (case k_law_pick => k_is)
    (case a_law_masts => k_is)
    (case l_law_masts => k_is)
    (case c_law_masts => k_is)
    (case k_law_masts => k_is)
    (case a_law_heard => k_is)
    (case l_law_heard => k_is)
    (case c_law_heard => k_is)
    (case k_law_heard => k_is)
    (case a_law_scene => k_is)
    (case l_law_scene => k_is)
    (case c_law_scene => k_is)
    (case k_law_scene => k_is)
    (case a_law_fault => k_is)
    (case l_law_fault => k_is)
    (case c_law_fault => k_is)
    (case k_law_fault => k_is)
    (case a_wrong_seating => k_is)
    (case l_wrong_seating => k_is)
    (case c_wrong_seating => k_is)
    (case k_wrong_seating => k_is)
    (case a_law => k_is)
    (case l_law => k_is)
    (case c_law => k_is)
    (case k_law => k_is)
    (case a_SMALL_LETTERS => k_is)
    (case a_FIGURES => k_is)
    (case a_LONGEST_NAME => k_is)
    (case a_LIMIT => k_is)
    (case z_abs => k_is)
    (case z_all => k_is)
    (case z_any => k_is)
    (case z_bool => k_is)
    (case z_dict => k_is)
    (case z_int => k_is)
    (case z_isinstance => k_is)
    (case z_len => k_is)
    (case z_list => k_is)
    (case z_range => k_is)
    (case z_set => k_is)
    (case z_sorted => k_is)
    (case z_str => k_is)
    (case z_sum => k_is)
    (case z_tuple => k_is)
    (case z_zip => k_is)
