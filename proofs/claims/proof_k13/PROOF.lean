import PyProof.Rows.All
import Wide.All
import OpenK.AllK
import Wide.FinOn
import HandS.ForMost
import HandS.Style
import HandS.Conv
import HandS.DictComp
import HandS.Evl
import HandS.SortRule
import KE.KDictPairs
import PySem.Challenge.RW_mastcalls_k13_whole_lists
set_option Elab.async false
set_option maxRecDepth 100000
set_option maxHeartbeats 4000000
namespace Mc
open PySem L2 PySem.Spec PyProof.Rows
/-! rules that the layer lacks -/
theorem get_list {X : Cx} : PGet X (rIxL X.K) := by
  intro pins s σ H o i ov iv Q I ro ri h
  obtain ⟨p, xs, k, v, rfl, rfl, hs, hv, q⟩ := h
  cases ro
  obtain ⟨t, rfl⟩ := ri
  obtain ⟨its, r, pl, hz⟩ := I.list hs
  obtain ⟨j, h1, h2, h3, h4, h5⟩ := atI_get hv
  obtain ⟨w, ew, rw'⟩ := r.get h2
  have hl := r.length
  have hn := line63
  have fin : EP X pins σ Q w s := ⟨v, H, I, rw', q⟩
  by_cases h0 : 0 ≤ k
  · have hj : k.toNat = j := by
      rw [seqIndex_of h0 h5] at h1
      exact Option.some.inj h1
    exact wpAny_getItem_list pl.isList h0 (by omega) (by rw [hj]; simpa using ew) fin
  · have hj : (k + (its.toArray.size : Int)).toNat = j := by
      rw [seqIndex_neg (by omega) h4] at h1
      rw [List.size_toArray, ← hl]
      exact Option.some.inj h1
    exact wpAny_getItem_list_neg pl.isList (by omega) (by rw [List.size_toArray] <;> omega) (by omega) (by rw [hj]; simpa using ew) fin

/-! ### a heap that is kept but for some objects -/
def Kp (M : List Addr) (H H' : Hp) : Prop := ∀ b o, H b = some o → b ∉ M → H' b = some o
theorem Kp.refl (M : List Addr) (H : Hp) : Kp M H H := fun _ _ h _ => h
theorem Kp.trans {M : List Addr} {H H1 H2 : Hp} (a : Kp M H H1) (b : Kp M H1 H2) : Kp M H H2 := fun c o h n => b c o (a c o h n) n
theorem Kp.mono {M N : List Addr} {H H' : Hp} (k : Kp M H H') (h : ∀ b ∈ M, b ∈ N) : Kp N H H' := fun b o e n => k b o e fun z => n (h b z)
theorem Kp.new {M : List Addr} {p : Addr} {H : Hp} {o : HO} (h : H p = none) : Kp M H (upd H p o) := fun b u e _ => by
  rw [upd_ne (ne_of_none e h)]
  exact e
theorem Kp.at {M : List Addr} {d : Addr} {H : Hp} {o : HO} (h : d ∈ M) : Kp M H (upd H d o) := fun b u e n => by
  rw [upd_ne fun z => n (by rw [z]; exact h)]
  exact e
theorem Kp.same {M : List Addr} {H H' : Hp} (h : Same H H') : Kp M H H' := fun b o e _ => h b o e
/-- nothing tracked is lost -/
def Lv (H H' : Hp) : Prop := ∀ b, H' b = none → H b = none
theorem Kp.live {M : List Addr} {H H' : Hp} (k : Kp M H H') (h : ∀ d ∈ M, ∃ o, H' d = some o) {p : Addr} (e : H' p = none) : H p = none := by
  cases q : H p with
  | none => rfl
  | some u =>
    by_cases n : p ∈ M
    · obtain ⟨o, z⟩ := h p n
      rw [z] at e; cases e
    · rw [k p u q n] at e; cases e
/-- what was not there may be changed freely -/
theorem Kp.drop {M : List Addr} {p : Addr} {H H' : Hp} (k : Kp (p :: M) H H') (h : H p = none) : Kp M H H' := fun b o e n => k b o e fun z => by
  rcases List.mem_cons.mp z with rfl | z
  · rw [h] at e; cases e
  · exact n z

/-- the draw stands at d: the script, and how many were drawn; M: all that may be changed -/
structure Dr (K : PySem.W.Frag) (M : List Addr) (d a : Addr) (H : Hp) : Prop where
  at_ : ∃ k : Int, H d = some (.lst [.ref a, .int k])
  mem : d ∈ M
  sc : ∃ ns : List Int, ns.length ≤ 63 ∧ ∀ H', Kp M H H' → SqL K H' a (ns.map V.int)
section
variable {K : PySem.W.Frag} {M : List Addr} {d a : Addr} {H H' : Hp}
theorem Dr.keep (D : Dr K M d a H) (k : Kp M H H') (e : ∀ o, H d = some o → H' d = some o) : Dr K M d a H' := by
  obtain ⟨⟨k0, h⟩, m, ns, hl, hs⟩ := D
  exact ⟨⟨k0, e _ h⟩, m, ns, hl, fun H2 k2 => hs H2 (k.trans k2)⟩
theorem Dr.same (D : Dr K M d a H) (k : Same H H') : Dr K M d a H' := D.keep (Kp.same k) fun o h => k _ o h
theorem Dr.new {p : Addr} {o : HO} (D : Dr K M d a H) (h : H p = none) : Dr K M d a (upd H p o) := D.same fun b u e => by rw [upd_ne (ne_of_none e h)]; exact e
theorem Dr.next (D : Dr K M d a H) (k : Kp M H H') {j : Int} (h : H' d = some (.lst [.ref a, .int j])) : Dr K M d a H' := by
  obtain ⟨_, m, ns, hl, hs⟩ := D
  exact ⟨⟨j, h⟩, m, ns, hl, fun H2 k2 => hs H2 (k.trans k2)⟩
/-- one more object may be changed, that was not there -/
theorem Dr.grow {p : Addr} (D : Dr K M d a H) (h : H p = none) : Dr K (p :: M) d a H := by
  obtain ⟨k0, m, ns, hl, hs⟩ := D
  exact ⟨k0, List.mem_cons_of_mem _ m, ns, hl, fun H2 k2 => hs H2 (k2.drop h)⟩
/-- fewer may be changed -/
theorem Dr.sub {N : List Addr} (D : Dr K M d a H) (h : ∀ b ∈ N, b ∈ M) (hd : d ∈ N) : Dr K N d a H := by
  obtain ⟨k0, _, ns, hl, hs⟩ := D
  exact ⟨k0, hd, ns, hl, fun H2 k2 => hs H2 (k2.mono h)⟩
/-- a draw made of the script -/
theorem Dr.mk' {ns : List Int} {j : Int} (hs : SqL K H a (ns.map V.int)) (hl : ns.length ≤ 63) (hd : H d = none) : Dr K [d] d a (upd H d (.lst [.ref a, .int j])) := by
  refine ⟨⟨j, upd_same⟩, List.mem_singleton.mpr rfl, ns, hl, fun H' k => ?_⟩
  have ne : ∀ {o}, H a = some o → a ∉ [d] := fun h z => ne_of_none h hd (List.mem_singleton.mp z)
  rcases hs with (h | ⟨o, h⟩) | h
  · exact .inl (.inl (k a _ (by rw [upd_ne (ne_of_none h hd)]; exact h) (ne h)))
  · exact .inl (.inr ⟨o, k a _ (by rw [upd_ne (ne_of_none h hd)]; exact h) (ne h)⟩)
  · exact .inr h
end

theorem rel_int {i : Int} {t : Tok} : RelV (.int i) (.int i t) := ⟨t, rfl⟩
theorem rel_str {x : PySem.Str} {t : Tok} : RelV (.str x) (.str x t) := ⟨t, rfl⟩
/-! ### rules for a comprehension's block: K by its name -/
section
variable {X : Cx} {K : PySem.W.Frag} {e : Expr} {f : PySem.Str} {pos : Pos} {ta : TE}
theorem pe_fldK (h : X.K = K) (he : PE X e ta) (hb : attributeBase e f X.env (eval e X.env) = eval e X.env) : PE X (.Attribute e f pos) (tFld K ta f) := by
  subst h
  exact pe_fld he hb
theorem ix_listK (h : X.K = K) : IxR X (rIxL K) := by
  subst h
  exact ix_list
theorem ix_tupK (h : X.K = K) : IxR X (rIxT K) := by
  subst h
  exact ix_tup
theorem sl_listK (h : X.K = K) : SlR X (rSlL K) := by
  subst h
  exact sl_list
theorem call_len_seqK (h : X.K = K) : CallR X (.builtin "len") (fun xs H Q => ∃ p ys, xs = [.ref p] ∧ (SqL K H p ys ∨ SqT K H p ys) ∧ Q (.int ys.length) H) := by
  subst h
  exact call_len_seq
theorem op_eqDK (h : X.K = K) (hu : X.A.units + 64 < cLine) : OpR X (compareOp .Eq) (rEqD K) := by
  subst h
  exact op_eqD hu
theorem op_neDK (h : X.K = K) (hu : X.A.units + 64 < cLine) : OpR X (compareOp .NotEq) (rNeD K) := by
  subst h
  exact op_neD hu
theorem pe_tupleOfK (h : X.K = K) {a : Expr} {p pos : Pos} (hg : Gl X "tuple") (hm : X.mg "tuple" = none) (ha : PE X a ta) (na : starEach [a] X.env = (false, eval a X.env) :: starEach [] X.env := by rfl) :
    PE X (.Call (.Name "tuple" p) [a] [] pos) (tThen ta (kTup K)) := by
  subst h
  exact pe_tupleOf hg hm ha na
end
/-! ### defs, methods, classes: what a caller needs -/
/-- a def of the module keeps its promise -/
def Cal (P : Program) (w : World) (K : PySem.W.Frag) (mg : PySem.Str → Option Value) (base : Heap) (k : Nat) (x : PySem.Str) (ps : List PySem.Str) (sp : Sp) : Prop :=
  ∃ (f : Addr) (fd : FuncData), mg x = some (.ref f) ∧ PySem.W.keepIn K (.ref f) = true ∧ Binds K fd ps [] ∧ FnOk P w K mg base CX0 k f fd ps sp
/-- a method of the class at C -/
def CalM (P : Program) (w : World) (K : PySem.W.Frag) (mg : PySem.Str → Option Value) (base : Heap) (C : Addr) (k : Nat) (m : PySem.Str) (ps : List PySem.Str) (sp : Sp) : Prop :=
  ∃ (f : Addr) (fd : FuncData), Meth K C m f ∧ Binds K fd ps [] ∧ FnOk P w K mg base CX0 k f fd ps sp
/-- the class of that name, made by its __init__ -/
def CalI (P : Program) (w : World) (K : PySem.W.Frag) (mg : PySem.Str → Option Value) (base : Heap) (C : Addr) (k : Nat) (x : PySem.Str) (ps : List PySem.Str) (sp : Sp) : Prop :=
  ∃ (f : Addr) (fd : FuncData), mg x = some (.ref C) ∧ Mk K C f ∧ Binds K fd ps [] ∧ FnOk P w K mg base CX0 k f fd ps sp
section
variable {X : Cx} {k : Nat} {x m : PySem.Str} {ps : List PySem.Str} {sp : Sp} {C : Addr} {p pos apos : Pos} {e o : Expr} {es : List Expr} {t : TA} {ta : TE}
theorem pe_cal (c : Cal X.prog X.w X.K X.mg X.base k x ps sp) (hr : Room k X.A) (hg : Gl X x) (ha : PA X (e :: es) t) (hdb : (x == ("__debug__" : PySem.Str)) = false := by decide)
    (he : starEach (e :: es) X.env = (false, eval e X.env) :: starEach es X.env := by rfl) (hpl : (backTo pos (starEach es X.env)).any (·.1) = false := by rfl) : PE X (.Call (.Name x p) (e :: es) [] pos) (tCall sp [] E0 t) := by
  obtain ⟨f, fd, hm, hk, hb, F⟩ := c
  exact pe_call F hr hg hm hk hb .nil pass0 ha hdb he hpl
theorem pe_cal0 (c : Cal X.prog X.w X.K X.mg X.base k x ps sp) (hr : Room k X.A) (hg : Gl X x) (hdb : (x == ("__debug__" : PySem.Str)) = false := by decide) : PE X (.Call (.Name x p) [] [] pos) (tCall sp [] E0 tNil) := by
  obtain ⟨f, fd, hm, hk, hb, F⟩ := c
  exact pe_call0 F hr hg hm hk hb .nil pass0 hdb
theorem pe_calM {pl : Sem Bool} (he : PE X o ta) (cl : Cls X.K C) (c : CalM X.prog X.w X.K X.mg X.base C k m ps sp) (hr : Room k X.A) (ha : PA X (e :: es) t)
    (hst : starEach (e :: es) X.env = (false, eval e X.env) :: starEach es X.env := by rfl) (hpl : (backTo pos (starEach es X.env)).any (·.1) = false := by rfl)
    (ht : eval (.Call (.Attribute o m apos) (e :: es) [] pos) X.env = (do
      let ov ← eval o X.env
      standAt apos.atName
      let (f, first) ← holding [ov] (getMethod ov m pl)
      callWith pos f first (backTo pos (starEach (e :: es) X.env)) (backToKw pos (keywordEach [] X.env))) := by rfl) :
    PE X (.Call (.Attribute o m apos) (e :: es) [] pos) (tMeth C m sp [] E0 ta t) := by
  obtain ⟨f, fd, hm, hb, F⟩ := c
  exact pe_meth he cl hm F hr hb .nil pass0 ha hst hpl ht
theorem pe_calM0 {pl : Sem Bool} (he : PE X o ta) (cl : Cls X.K C) (c : CalM X.prog X.w X.K X.mg X.base C k m ps sp) (hr : Room k X.A)
    (ht : eval (.Call (.Attribute o m apos) [] [] pos) X.env = (do
      let ov ← eval o X.env
      standAt apos.atName
      let (f, first) ← holding [ov] (getMethod ov m pl)
      callWith pos f first (backTo pos (starEach [] X.env)) (backToKw pos (keywordEach [] X.env))) := by rfl) :
    PE X (.Call (.Attribute o m apos) [] [] pos) (tMeth C m sp [] E0 ta tNil) := by
  obtain ⟨f, fd, hm, hb, F⟩ := c
  exact pe_meth0 he cl hm F hr hb .nil pass0 ht
theorem pe_calI (c : CalI X.prog X.w X.K X.mg X.base C k x ps sp) (hr : Room (k + 1) X.A) (hg : Gl X x) (ha : PA X (e :: es) t) (hdb : (x == ("__debug__" : PySem.Str)) = false := by decide)
    (he : starEach (e :: es) X.env = (false, eval e X.env) :: starEach es X.env := by rfl) (hpl : (backTo pos (starEach es X.env)).any (·.1) = false := by rfl) : PE X (.Call (.Name x p) (e :: es) [] pos) (tMake C sp [] E0 t) := by
  obtain ⟨f, fd, hm, M, hb, F⟩ := c
  exact pe_make M F hr hg hm hb .nil pass0 ha hdb he hpl
theorem pe_calI0 (c : CalI X.prog X.w X.K X.mg X.base C k x ps sp) (hr : Room (k + 1) X.A) (hg : Gl X x) (hdb : (x == ("__debug__" : PySem.Str)) = false := by decide) : PE X (.Call (.Name x p) [] [] pos) (tMake C sp [] E0 tNil) := by
  obtain ⟨f, fd, hm, M, hb, F⟩ := c
  exact pe_make0 M F hr hg hm hb .nil pass0 hdb
end
/-! ### data of ints -/
def pdI (ns : List Int) : PyData := .list (ns.map PyData.int)
theorem dpAll_ints (K : PySem.W.Frag) (H : Hp) : ∀ ns : List Int, DpAll K H (ns.map V.int) (ns.map PyData.int)
  | [] => .nil
  | n :: ns => .cons (.int n) (dpAll_ints K H ns)
theorem dp_ints {K : PySem.W.Frag} {H : Hp} {a : Addr} {ns : List Int} (h : SqL K H a (ns.map V.int)) : Dp K H (.ref a) (pdI ns) := .lst h (dpAll_ints K H ns)
theorem canLay_ints : ∀ ns : List Int, PyData.canLayAll0 (ns.map PyData.int) = true
  | [] => rfl
  | n :: ns => by
    show (PyData.canLay0 (.int n) && PyData.canLayAll0 (ns.map PyData.int)) = true
    rw [canLay_ints ns]
    rfl
theorem depth_ints : ∀ ns : List Int, PyData.depthAll (ns.map PyData.int) = 0
  | [] => rfl
  | n :: ns => by
    show max (PyData.depth (.int n)) (PyData.depthAll (ns.map PyData.int)) = 0
    rw [depth_ints ns]
    rfl
theorem shaped_ints (ns : List Int) : SeqAt.shaped (pdI ns) = true := by
  have h : PyData.depth (pdI ns) = PyData.depthAll (ns.map PyData.int) + 1 := by unfold pdI; rw [PyData.depth]
  unfold SeqAt.shaped
  rw [h, depth_ints]
  have h2 : (pdI ns).canLay0 = true := by unfold pdI; rw [PyData.canLay0]; exact canLay_ints ns
  rw [h2]
  rfl
theorem eqvAll_ints : ∀ ns ms : List Int, PyData.eqvAll (ns.map PyData.int) (ms.map PyData.int) = decide (ns = ms)
  | [], [] => rfl
  | [], m :: ms => by simp [PyData.eqvAll]
  | n :: ns, [] => by simp [PyData.eqvAll]
  | n :: ns, m :: ms => by
    show (PyData.eqv (.int n) (.int m) && PyData.eqvAll (ns.map PyData.int) (ms.map PyData.int)) = _
    rw [eqvAll_ints ns ms]
    have : PyData.eqv (.int n) (.int m) = (n == m) := by rw [PyData.eqv]
    rw [this]
    by_cases h : n = m <;> simp [h]
theorem eqv_ints (ns ms : List Int) : PyData.eqv (pdI ns) (pdI ms) = decide (ns = ms) := by
  unfold pdI
  rw [PyData.eqv]
  exact eqvAll_ints ns ms
end Mc
namespace Mc
open PySem PySem.Spec PyProof.Rows SrtO
/-! ### sorted of pairs of a text and an int, out of a list or a tuple -/
def IsPairS (h : Heap) (v : Value) (x : PySem.Str) (y : Int) : Prop := ∃ a o t u n, v = .ref a ∧ h.get? a = some o ∧ o.cls = .type "tuple" ∧ o.data = .seq #[.str x t, .int y u] n
theorem IsPairS.keeps {h h' : Heap} {v : Value} {x : PySem.Str} {y : Int} (p : IsPairS h v x y) (k : ∀ b o, h.get? b = some o → o.cls = .type "tuple" → h'.get? b = some o) : IsPairS h' v x y := by
  obtain ⟨a, o, t, u, n, e, ho, hc, hd⟩ := p
  exact ⟨a, o, t, u, n, e, k _ _ ho hc, hc, hd⟩
def lexS (p q : PySem.Str × Int) : Bool := if p.1 = q.1 then decide (p.2 < q.2) else decide (p.1.cps.toList < q.1.cps.toList)
theorem str_ext {a b : PySem.Str} (h : a.cps.toList = b.cps.toList) : a = b := by
  obtain ⟨x⟩ := a
  obtain ⟨y⟩ := b
  have : x = y := by simpa using congrArg List.toArray h
  rw [this]
theorem swo_lexS {α : Type} (k : α → PySem.Str × Int) : Swo fun v u => lexS (k v) (k u) := by
  have irr : ∀ l : List Nat, ¬ l < l := fun l => List.lt_irrefl l
  refine ⟨fun x y h => ?_, fun x y z h1 h2 => ?_⟩
  · unfold lexS at h ⊢
    by_cases e : (k x).1 = (k y).1
    · rw [if_pos e, decide_eq_true_eq] at h
      rw [if_pos e.symm, decide_eq_false_iff_not]
      omega
    · rw [if_neg e, decide_eq_true_eq] at h
      rw [if_neg (Ne.symm e), decide_eq_false_iff_not]
      exact fun z => irr _ (List.lt_trans h z)
  · unfold lexS at h1 h2 ⊢
    generalize (k x).1 = a at *
    generalize (k y).1 = b at *
    generalize (k z).1 = c at *
    by_cases e1 : b = a
    · subst e1
      rw [if_pos rfl, decide_eq_false_iff_not] at h1
      by_cases e2 : c = b
      · subst e2
        rw [if_pos rfl, decide_eq_false_iff_not] at h2
        rw [if_pos rfl, decide_eq_false_iff_not]
        omega
      · rw [if_neg e2] at h2
        rw [if_neg e2]
        exact h2
    · rw [if_neg e1, decide_eq_false_iff_not] at h1
      by_cases e2 : c = b
      · subst e2
        rw [if_neg e1, decide_eq_false_iff_not]
        exact h1
      · rw [if_neg e2, decide_eq_false_iff_not] at h2
        have l1 : a.cps.toList ≤ b.cps.toList := List.not_lt.mp h1
        have l2 : b.cps.toList ≤ c.cps.toList := List.not_lt.mp h2
        by_cases e3 : c = a
        · subst e3
          exact absurd (str_ext (List.le_antisymm l2 l1)) e1
        · rw [if_neg e3, decide_eq_false_iff_not]
          exact List.not_lt.mpr (List.le_trans l1 l2)
section
variable {prog : Program} {w : World} {A : Around} {E : Value → Shared → Prop} {s : Shared}
theorem pairS_cmp {vs : List Value} {k : Value → PySem.Str × Int} (hp : ∀ v ∈ vs, IsPairS s.heap v (k v).1 (k v).2) : Cmp prog w A s (tuples' true) (fun p => p.1 ∈ vs) (lt2 fun v u => lexS (k v) (k u)) := by
  intro p q hm hm'
  have h1 := hp _ hm
  have h2 := hp _ hm'
  show wpAny (model prog w) A (keyLt' (tuples' true) p.1 q.1) (fun r s' => s' = s ∧ r = lexS (k p.1) (k q.1)) (fun _ _ => False) s
  unfold lexS
  generalize (k p.1).1 = x at h1 ⊢
  generalize (k p.1).2 = y at h1 ⊢
  generalize (k q.1).1 = x' at h2 ⊢
  generalize (k q.1).2 = y' at h2 ⊢
  obtain ⟨a, o, t, u, n, e, ho, hc, hd⟩ := h1
  obtain ⟨a', o', t', u', n', e', ho', hc', hd'⟩ := h2
  rw [e, e']
  refine PySem.W.kat_lt ho hd ho' hd' ?_
  show PySem.W.KatLex prog w A true (decide (2 < 2)) _ [(.str x t, .str x' t'), (.int y u, .int y' u')] 0 s
  refine PySem.W.kat_cons (SeqAt.EqAt.str_str x t x' t' prog w _ _ ?_)
  refine PySem.W.kat_go (fun e1 => ?_) (fun e1 => ?_)
  · have ex : x = x' := by simpa using e1
    refine PySem.W.kat_yes (PySem.W.kat_cons (SeqAt.EqAt.int_int y u y' u' prog w _ _ ?_))
    refine PySem.W.kat_go (fun e2 => ?_) (fun e2 => ?_)
    · have ey : y = y' := by simpa using e2
      have e3 : (if x = x' then decide (y < y') else decide (x.cps.toList < x'.cps.toList)) = false := by
        rw [if_pos ex, ey]
        exact decide_eq_false (Int.lt_irrefl _)
      exact PySem.W.kat_yes (PySem.W.kat_nil ⟨rfl, e3.symm⟩)
    · have e3 : (if x = x' then decide (y < y') else decide (x.cps.toList < x'.cps.toList)) = decide (y < y') := if_pos ex
      refine PySem.W.kat_no (PySem.W.kat_one _ _ (PyProof.Rows.lt_int ?_))
      exact (show s = s ∧ decide (y < y') = (if x = x' then decide (y < y') else decide (x.cps.toList < x'.cps.toList)) from ⟨rfl, e3.symm⟩)
  · have ex : ¬ x = x' := by simpa using e1
    have e3 : (if x = x' then decide (y < y') else decide (x.cps.toList < x'.cps.toList)) = decide (x.cps.toList < x'.cps.toList) := if_neg ex
    exact PySem.W.kat_no (oneLt_str ⟨rfl, e3.symm⟩)
theorem firstsS_of {h : Heap} : ∀ {vs : List Value}, (∀ v ∈ vs, ∃ x y, IsPairS h v x y) → ∃ fs : List Value, PySem.W.KatTups h vs fs ∧ fs.length = vs.length ∧ ∀ f ∈ fs, ∃ x t, f = Value.str x t
  | [], _ => ⟨[], PySem.W.KatTups.nil, rfl, fun _ hm => by simp at hm⟩
  | v :: vs, hp => by
    obtain ⟨fs, h1, h2, h3⟩ := firstsS_of (vs := vs) fun v' hm => hp v' (List.mem_cons_of_mem _ hm)
    obtain ⟨x, y, a, o, t, u, n, e, ho, hc, hd⟩ := hp v (List.mem_cons_self ..)
    subst e
    refine ⟨.str x t :: fs, PySem.W.KatTups.cons ho hc hd rfl h1, by rw [List.length_cons, List.length_cons, h2], fun f hm => ?_⟩
    rcases List.mem_cons.mp hm with rfl | hm
    · exact ⟨x, t, rfl⟩
    · exact h3 f hm
theorem pairsS_sortable {a : Addr} {vs : List Value} {k : Value → PySem.Str × Int} (h0 : 0 < vs.length) (hp : ∀ v ∈ vs, IsPairS s.heap v (k v).1 (k v).2) (ha : ∀ o, s.heap.get? a = some o → o.cls ≠ .type "tuple") : SortableO prog w A s a vs fun v u => lexS (k v) (k u) := by
  intro h' keep
  have hp' : ∀ v ∈ vs, IsPairS h' v (k v).1 (k v).2 := fun v hm => (hp v hm).keeps fun b o e c => keep b o (fun z => by subst z; exact ha o e c) e
  obtain ⟨fs, h1, h2, h3⟩ := firstsS_of fun v hm => ⟨_, _, hp' v hm⟩
  refine ⟨tuples' true, fun Q E hq => ?_, pairS_cmp hp'⟩
  refine PySem.W.kat_kind (T := .type "str") h1 (by omega) (fun f hm => ?_) (by rfl) ?_
  · obtain ⟨x, t, rfl⟩ := h3 f hm
    exact PySem.W.Looks.now
  · have e : (Value.type "str" != Value.type "tuple") = true := by first | decide +kernel | rfl | decide
    rw [e]
    exact hq
/-- what a tuple gives out, told with the heap behind -/
theorem collect_tupE {it : Addr} {o : Obj} {vs : List Value} {n : Nat} {Q : List Value → Shared → Prop} (ho : s.heap.get? it = some o) (hc : o.cls = .type "tuple") (hd : o.data = .seq vs.toArray n) (hz : vs.length ≤ sizeLine)
    (hQ : Q vs { s with heap := (s.heap.push (seqObj "list" #[] 0)).update s.heap.objs.size (Obj.mapSeq (· ++ vs.toArray)) }) : wpAny (model prog w) A (collect (.ref it)) Q E s := by
  have hz' : vs.toArray.size ≤ sizeLine := by rw [List.size_toArray]; exact hz
  have h0 : (s.heap.push (seqObj "list" #[] 0)).get? s.heap.objs.size = some { cls := .type "list", data := .seq #[] 0 } := Heap.get?_push_size _ rfl
  have h1 := Heap.get?_update_self (Obj.mapSeq (· ++ vs.toArray)) h0 rfl
  unfold collect
  refine wpAny_bind (wpAny_runValue (codeAny_builtin F.entry_proto_collect ?_))
  rw [Around.under_plainId F.plain_proto_collect _]
  refine wpAny_bind (m := newList []) (wpAny_newList ?_ (Nat.zero_le _))
  refine wpAny_pure ⟨plainId_quiet F.plain_list_iadd _, codeAny_builtin F.entry_list_iadd ?_⟩
  rw [Around.under_plainId F.plain_list_iadd _]
  have last : wpAny (model prog w) A (load s.heap.objs.size >>= fun o => match o.data with | .seq xs _ => pure xs.toList | _ => unsupported "internal:collect") Q E { s with heap := (s.heap.push (seqObj "list" #[] 0)).update s.heap.objs.size (Obj.mapSeq (· ++ vs.toArray)) } := by
    refine wpAny_bind (wpAny_load h1 (wpAny_pure ?_))
    have e : ((#[] : Array Value) ++ vs.toArray).toList = vs := by simp
    show Q ((#[] : Array Value) ++ vs.toArray).toList _
    rw [e]
    exact hQ
  refine wpAny_mono (wpAny_extend_seq (hsz := hz') (A := A) (R := fun r s' => r = .ok (.ret (.ref s.heap.objs.size)) ∧ s' = { s with heap := (s.heap.push (seqObj "list" #[] 0)).update s.heap.objs.size (Obj.mapSeq (· ++ vs.toArray)) })
    (s := { s with heap := s.heap.push (seqObj "list" #[] 0) }) _ it _ 0 (.inr rfl) h0 (Heap.get?_push_of_some _ ho) hc hd ⟨rfl, rfl⟩) (fun fin s' h => ?_) (fun e s' h => absurd h.1 (by simp))
  cases fin with
  | done f =>
    obtain ⟨e, rfl⟩ := h
    cases e
    exact last
  | again c' => exact ⟨h.1, codeAny_mono h.2 fun r s'' hr => by obtain ⟨rfl, rfl⟩ := hr; exact last⟩
/-- sorted(t), t a tuple of such pairs -/
theorem sorted_pairsS {it : Addr} {o : Obj} {vs : List Value} {n : Nat} {k : Value → PySem.Str × Int} {Q : Value → Shared → Prop} (ho : s.heap.get? it = some o) (hc : o.cls = .type "tuple") (hd : o.data = .seq vs.toArray n)
    (hz : vs.length ≤ sizeLine) (hp : ∀ v ∈ vs, IsPairS s.heap v (k v).1 (k v).2)
    (h : ∀ (h' : Heap) (d : Addr) (out : List Value), Srtd (fun v u => lexS (k v) (k u)) out → Stb (fun v u => lexS (k v) (k u)) out vs → (∀ b o, s.heap.get? b = some o → h'.get? b = some o) → s.heap.objs.size ≤ d → (∃ n, h'.get? d = some (seqObj "list" out.toArray n)) → Q (.ref d) { s with heap := h' }) :
    wpAny (model prog w) A (call (.builtin "sorted") [.ref it]) Q E s := by
  refine Calls.call_function_entry kind_sorted plain_sorted entry_sorted (args_sorted1 _) ?_
  unfold Builtin.«sorted»
  refine wpAny_bind (m := checkCount "sorted" 1 1 _) (wpAny_pure ?_)
  refine wpAny_bind (collect_tupE ho hc hd hz ?_)
  have k' : ∀ b o, s.heap.get? b = some o → ((s.heap.push (seqObj "list" #[] 0)).update s.heap.objs.size (Obj.mapSeq (· ++ vs.toArray))).get? b = some o := fun b o q => by
    rw [Heap.get?_update_ne _ _ _ _ (Nat.ne_of_lt (Heap.lt_size q))]
    exact Heap.get?_push_of_some _ q
  have hsz : ((s.heap.push (seqObj "list" #[] 0)).update s.heap.objs.size (Obj.mapSeq (· ++ vs.toArray))).objs.size = s.heap.objs.size + 1 := by rw [Heap.size_update, size_push']
  generalize (s.heap.push (seqObj "list" #[] 0)).update s.heap.objs.size (Obj.mapSeq (· ++ vs.toArray)) = h' at k' hsz ⊢
  refine wpAny_bind (wpAny_newList ?_ hz)
  have hoL : (h'.push (seqObj "list" vs.toArray 0)).get? h'.objs.size = some (seqObj "list" vs.toArray 0) := Heap.get?_push_size _ rfl
  have kp : ∀ b o, s.heap.get? b = some o → b ≠ h'.objs.size ∧ (h'.push (seqObj "list" vs.toArray 0)).get? b = some o := fun b o q => ⟨Nat.ne_of_lt (Heap.lt_size (k' b o q)), Heap.get?_push_of_some _ (k' b o q)⟩
  refine wpAny_bind (wpAny_holding (wpAny_call_entry slot_list_sort ⟨_, hoL, rfl⟩ entry_list_sort (list_sort_ord (s := { s with heap := h'.push (seqObj "list" vs.toArray 0) }) (swo_lexS k) hoL hz (fun h2 => ?_) fun out hs hb => ⟨_, rfl, ?_⟩) (args_list_sort _)))
  · refine pairsS_sortable (s := { s with heap := h'.push (seqObj "list" vs.toArray 0) }) (by omega) (fun v hm => (hp v hm).keeps fun b o e _ => (kp b o e).2) fun o e => ?_
    have e' : some o = some (seqObj "list" vs.toArray 0) := e.symm.trans hoL
    cases e'
    intro c
    exact absurd (Value.type.inj c) (by decide)
  · refine wpAny_pure ⟨_, rfl, h _ _ out hs hb (fun b o e => ?_) (by rw [hsz]; exact Nat.le_succ _) (sortedHeap_at hoL)⟩
    rw [sortedHeap_old (kp b o e).1 (Heap.lt_size (kp b o e).2)]
    exact (kp b o e).2
end
open L2
/-- x before y: by its text, then by its int -/
abbrev ltS (k : V → PySem.Str × Int) (x y : V) : Bool := lexS (k x) (k y)
/-! ### a tuple whose object is known whole -/
def TupR (h : Heap) (a : Addr) (xs : List V) : Prop := xs.length ≤ sizeLine ∧ ∃ (its : List Value) (n : Nat), Vals xs its ∧ h.get? a = some { cls := .type "tuple", data := .seq its.toArray n }
def TupO (a : Addr) (xs : List V) : HO := .ext fun h => TupR h a xs
theorem tupO_new {P : Program} {w : World} {H : Hp} {h : Heap} {a : Addr} {xs : List V} (R : TupR h a xs) : ObjOk P w H h a (TupO a xs) := by
  obtain ⟨z, its, n, r, e⟩ := id R
  exact ⟨R, ⟨_, e⟩, fun h1 h2 ⟨z1, its1, n1, r1, e1⟩ k => ⟨z1, its1, n1, r1, k _ e1⟩⟩
section
variable {X : Cx} {pins : List (Addr × Obj)} {σ : L2.St} {H : Hp} {s : Shared} {a : Addr} {xs : List V}
theorem tupO_get (I : Inv X pins σ H s) (h : H a = some (TupO a xs)) : TupR s.heap a xs := (I.hok a _ h).1
end
section
variable {X : Cx} {es : List Expr} {t : TA} {pos : Pos} {x1 : Nat}
def tTupO (t : TA) : TE := fun σ H Q => t σ H fun xs H1 => xs.length ≤ sizeLine ∧ ∀ p, H1 p = none → Q (.ref p) (upd H1 p (TupO p xs))
theorem pe_tupO (h : PA X es t) : PE X (.Tuple es x1 pos) (tTupO t) := by
  refine ⟨fun pins s σ H Q I hq => ?_⟩
  refine wpAny_Tuple_spliced (thn (h.run pos pins s σ H _ I hq) fun us s1 ⟨xs, H1, I1, r, z, q⟩ => ⟨by rw [← r.length]; exact z, ?_⟩)
  exact ⟨.ref s1.heap.objs.size, upd H1 s1.heap.objs.size (TupO s1.heap.objs.size xs), I1.laid (t' := s1.toks) (fun b u e => Heap.get?_push_of_some _ e) (Nat.le_refl _) (tupO_new ⟨z, us, _, r, Heap.get?_push_size _ rfl⟩), rfl, q _ (I1.hok.fresh (Nat.le_refl _))⟩
/-- tuple(xs), xs a list -/
def kTupO (K : PySem.W.Frag) (x : V) (H : Hp) (Q : VK) : Prop := ∃ p xs, x = .ref p ∧ SqL K H p xs ∧ ∀ q, H q = none → Q (.ref q) (upd H q (TupO q xs))
theorem rl_tupO {K : PySem.W.Frag} (hK : X.K = K) (pins : List (Addr × Obj)) (s : Shared) (σ : L2.St) (H : Hp) (x : V) (v : Value) (Q : VK) (I : Inv X pins σ H s) (r : RelV x v) (h : kTupO K x H Q) :
    wpAny (model X.prog X.w) X.A (call (.type "tuple") [v]) (EP X pins σ Q) X.xe s := by
  subst hK
  obtain ⟨p, xs, rfl, hs, q⟩ := h
  obtain rfl : v = .ref p := r
  obtain ⟨its, rv, pl, hz⟩ := I.list hs
  refine call_tuple_list pl.isList (fun h' hk => ?_) (by rw [List.size_toArray, ← rv.length]; exact hz)
  have I1 : Inv X pins σ H { s with heap := h' } := I.kept (t' := s.toks) hk
  have I2 := I1.laid (t' := s.toks) (o := TupO h'.objs.size xs) (h' := h'.push { cls := .type "tuple", data := .seq its.toArray }) (fun b o e => Heap.get?_push_of_some _ e) (Nat.le_refl _) (tupO_new ⟨hz, its, _, rv, Heap.get?_push_size _ rfl⟩)
  exact ⟨.ref h'.objs.size, _, I2, rfl, q _ (I1.hok.fresh (Nat.le_refl _))⟩
theorem pe_tupleOfO {K : PySem.W.Frag} (hK : X.K = K) {a : Expr} {ta : TE} {p pos : Pos} (hg : Gl X "tuple") (hm : X.mg "tuple" = none) (ha : PE X a ta) (na : starEach [a] X.env = (false, eval a X.env) :: starEach [] X.env := by rfl) :
    PE X (.Call (.Name "tuple" p) [a] [] pos) (tThen ta (kTupO K)) := by
  refine ⟨fun pins s σ H Q I h => ?_⟩
  exact Call_ (ld_blt I hg hm boot_tuple (PyProof.Rows.callWith_type1 (one_arg ha I h (fun v s2 x H2 I2 r q => rl_tupO hK pins s2 σ H2 x v Q I2 r q) na) na))
end
def rSortedPS : List V → Hp → VK → Prop := fun vs H Q => ∃ (a : Addr) (xs : List V) (k : V → PySem.Str × Int), vs = [V.ref a] ∧ H a = some (TupO a xs) ∧ (∀ x ∈ xs, ∃ t, x = V.ref t ∧ H t = some (.tup [.str (k x).1, .int (k x).2])) ∧
  ∀ ys p, Srtd (ltS k) ys → Stb (ltS k) ys xs → H p = none → Q (.ref p) (upd H p (.lst ys))
theorem cr_sortedPS {X : Cx} : CallR X (.builtin "sorted") rSortedPS := by
  intro pins s σ H vs us Q I r h
  obtain ⟨a, xs, k, rfl, hs, hx, q⟩ := h
  obtain ⟨hz, its, n, rv, ho⟩ := tupO_get I hs
  obtain ⟨u, rfl, ru⟩ := vals1 r
  obtain rfl : u = Value.ref a := ru
  obtain ⟨e1, e2⟩ := refs_back rv fun x m => (hx x m).imp fun t e => e.1
  refine sorted_pairsS (k := fun u => k (backV u)) ho rfl rfl (by rw [← rv.length]; exact hz) (fun v hv => ?_) fun h' d out h1 h2 kp hd hn => ?_
  · obtain ⟨t, rfl⟩ := e2 v hv
    obtain ⟨t', e, ht⟩ := hx (V.ref t) (by rw [e1]; exact List.mem_map.mpr ⟨_, hv, rfl⟩)
    cases e
    obtain ⟨_, its2, r2, o2, ho2, hc2, n2, hd2⟩ := I.hok _ _ ht
    obtain ⟨u1, u2, rfl, ri, rj⟩ := vals2 r2
    obtain ⟨t1, rfl⟩ := ri
    obtain ⟨t2, rfl⟩ := rj
    exact ⟨t, o2, t1, t2, n2, rfl, ho2, hc2, hd2⟩
  · have h3 : ∀ u ∈ out, ∃ a, u = Value.ref a := fun u hu => e2 u (h2.perm.mem_iff.mp hu)
    obtain ⟨m, hn⟩ := hn
    have hb : Stb (ltS k) (out.map backV) xs := by
      rw [e1]
      exact Stb.map (swo_lexS k) backV h2
    exact ⟨.ref d, upd H d (.lst (out.map backV)), I.laid (t' := s.toks) kp hd ⟨by rw [hb.len]; exact hz, out, m, vals_back h3, hn⟩, rfl, q _ d (srtd_map h1) hb (I.hok.fresh hd)⟩
theorem pairsV_of {X : Cx} {pins : List (Addr × Obj)} {σ : L2.St} {H : Hp} {s : Shared} (I : Inv X pins σ H s) : ∀ {ps : List Addr} {kvs : List (L2.Key × V)}, Paired (fun p kv => SqT X.K H p [kV kv.1, kv.2]) ps kvs →
    ∃ (prs : List (L2.Key × Value)) (pvs : List (Value × Value)), KV kvs prs ∧ pvs.length = ps.length ∧ prs.length = ps.length ∧
      ∀ (j : Nat) k v, pvs[j]? = some (k, v) → (∃ b, ps[j]? = some b ∧ PairAt s.heap b k v) ∧ ∃ key, prs[j]? = some (key, v) ∧ (mixKind X.prog X.w).is key k = true
  | _, _, .nil => ⟨[], [], .nil, rfl, rfl, fun j k v e => by simp at e⟩
  | _, _, .cons (a := p) (b := kv) h t => by
    obtain ⟨prs, pvs, r, l1, l2, hp⟩ := pairsV_of I t
    obtain ⟨its, rv, ht, _⟩ := I.tuple h
    obtain ⟨u, y, ei, ru, ry⟩ := vals2 rv
    subst ei
    refine ⟨(kv.1, y) :: prs, (u, y) :: pvs, .cons ⟨rfl, ry⟩ r, congrArg Nat.succ l1, congrArg Nat.succ l2, fun j k v e => ?_⟩
    cases j with
    | zero =>
      cases Option.some.inj e
      exact ⟨⟨p, rfl, .inl ht⟩, kv.1, rfl, kV_is (P := X.prog) (w := X.w) ru⟩
    | succ j => exact hp j k v e
/-- dict(t), t a tuple of pairs -/
def rDictO (K : PySem.W.Frag) : List V → Hp → VK → Prop := fun vs H Q => ∃ (a : Addr) (ps : List Addr) (kvs : List (L2.Key × V)), vs = [.ref a] ∧ H a = some (TupO a (ps.map V.ref)) ∧ Paired (fun p kv => SqT K H p [kV kv.1, kv.2]) ps kvs ∧
  ∀ p, H p = none → Q (.ref p) (upd H p (.dK (mergeK [] kvs)))
theorem call_dictO {X : Cx} (hcalm : X.calm = true) : CallR X (.type "dict") (rDictO X.K) := by
  intro pins s σ H vs us Q I r h
  obtain ⟨a, ps, kvs, rfl, hs, hp, q⟩ := h
  obtain ⟨hz, its, n, rv, ho⟩ := tupO_get I hs
  obtain ⟨u, rfl, ru⟩ := vals1 r
  obtain rfl : u = Value.ref a := ru
  have ei := refs_at rv
  subst ei
  rw [List.length_map] at hz
  obtain ⟨prs, pvs, rel, l1, l2, hpr⟩ := pairsV_of I hp
  have hq : ∀ j, j < ps.length → ∃ k v, pvs[j]? = some (k, v) := fun j hj => ⟨_, _, List.getElem?_eq_getElem (by omega)⟩
  refine PySem.call_dict_pairs (knd := mixKind X.prog X.w) (kvs := prs) (PairArg.tuple a (ps.map Value.ref).toArray (fun j => ps.getD j 0) pvs) (I.ok.hd hcalm)
    ⟨⟨_, n, ho, rfl, rfl, rfl⟩, by rw [List.size_toArray, List.length_map, l1], fun j k v e => ?_⟩ ⟨by omega, fun i key v e => ?_⟩ (by omega) fun h' tk hd' k => ?_
  · obtain ⟨⟨b, hb, hat⟩, _⟩ := hpr j k v e
    have e2 : ps.getD j 0 = b := by rw [List.getD_eq_getElem?_getD, hb]; rfl
    show (ps.map Value.ref).toArray[j]? = some (Value.ref (ps.getD j 0)) ∧ PairAt s.heap (ps.getD j 0) k v
    rw [e2]
    exact ⟨by simp [hb], hat⟩
  · obtain ⟨_, key', e1, e2⟩ := hpr i key v e
    exact ⟨key', e1, e2⟩
  · have hm : (s.heap.objs.size == sysModules) = false := beq_eq_false_iff_ne.mpr (Nat.ne_of_gt I.big)
    have hlen : (mergeK [] kvs).length ≤ sizeLine := by
      refine Nat.le_trans (length_mergeK kvs []) ?_
      rw [List.length_nil, Nat.zero_add, rel.length, l2]
      exact hz
    exact ⟨.ref s.heap.objs.size, upd H s.heap.objs.size (.dK (mergeK [] kvs)), I.laid (t' := tk) (fun b o e => k b o (by simp) e) (Nat.le_refl _) (show ObjOk X.prog X.w _ _ _ (.dK (mergeK [] kvs)) from ⟨hlen, hm, merged [] prs, KV.merge rel .nil, hd'⟩), rfl, q _ (I.hok.fresh (Nat.le_refl _))⟩
/-- what is sorted already stays as it is -/
theorem sorted_same {k : V → PySem.Str × Int} {xs ys : List V} (hx : xs.Pairwise fun x y => (k x).1.cps.toList < (k y).1.cps.toList) (hs : Srtd (ltS k) ys) (hb : Stb (ltS k) ys xs) : ys = xs := by
  refine stb_uniq (swo_lexS k) hs ?_ hb
  refine hx.imp fun {x y} h => ?_
  have ne : ¬ (k x).1 = (k y).1 := fun e => by rw [e] at h; exact List.lt_irrefl _ h
  show lexS (k y) (k x) = false
  unfold lexS
  rw [if_neg (Ne.symm ne), decide_eq_false_iff_not]
  exact fun w => List.lt_irrefl _ (List.lt_trans h w)
/-- a dict comprehension over a list that stays -/
theorem dc_list {K : PySem.W.Frag} {a : Addr} {xs : List V} {g : TG} {tt : TT} {tk tv : TE} {vs : List Nat} {σ : L2.St} {H1 : Hp} {D : Addr} {Qd : Hp → Prop} (Pv : Nat → Hp → Prop) (h0 : Pv 0 (upd H1 D (.dK []))) (hl : ∀ i H, i ≤ xs.length → Pv i H → SqL K H a xs)
    (hs : ∀ i x H, xs[i]? = some x → Pv i H → g x (wipe σ vs) H fun σ2 H2 => wipe σ2 vs = wipe σ vs ∧ tt σ2 H2 fun b H3 =>
      if b = true then tk σ2 H3 fun y H4 => tv σ2 H4 fun z H5 => ∃ kvs k, y = kV k ∧ H5 D = some (.dK kvs) ∧ kvs.length < sizeLine ∧ Pv (i + 1) (upd H5 D (.dK (putK kvs k z))) else Pv (i + 1) H3) (hd : ∀ H, Pv xs.length H → Qd H) :
    ∃ W : Nat → Nat → Hp → Prop, (∃ m, W 0 m (upd H1 D (.dK []))) ∧ ∀ i m H, W i m H →
      ((Itl K a).stop i H ∧ Qd H) ∨ ((Itl K a).go i H ∧ ∃ Nx : Hp → Prop, (∀ H', Nx H' → ∃ m', m' < m ∧ W (i + 1) m' H') ∧ ∀ x H', (Itl K a).yld i H x H' → g x (wipe σ vs) H' fun σ2 H2 => wipe σ2 vs = wipe σ vs ∧ tt σ2 H2 fun b H3 =>
        if b = true then tk σ2 H3 fun y H4 => tv σ2 H4 fun z H5 => ∃ kvs k, y = kV k ∧ H5 D = some (.dK kvs) ∧ kvs.length < sizeLine ∧ Nx (upd H5 D (.dK (putK kvs k z))) else Nx H3) := by
  refine ⟨fun i m H => m = xs.length - i ∧ i ≤ xs.length ∧ Pv i H, ⟨xs.length, by simp, Nat.zero_le _, h0⟩, ?_⟩
  rintro i m H ⟨rfl, hi, p⟩
  have q := hl i H hi p
  by_cases hlt : i < xs.length
  · refine .inr ⟨⟨xs, xs[i], q, by simp [hlt]⟩, Pv (i + 1), fun H' p' => ⟨xs.length - (i + 1), by omega, rfl, hlt, p'⟩, fun x H' y => ?_⟩
    obtain ⟨e, y⟩ := y
    subst e
    exact hs i x _ (y xs q) p
  · have e : i = xs.length := by omega
    subst e
    exact .inl ⟨⟨xs, q, Nat.le_refl _⟩, hd H p⟩
end Mc
namespace Mc
open PySem L2 PySem.Spec PyProof.Rows
def top (i : Nat) : Stmt := PySem.Challenge.pw_mastcalls_k13_whole_lists.main.body.getD i (.Pass ⟨0, 0, 0, 0⟩)
/-! ### the draws -/
abbrev sNum : Stmt := top 3
abbrev sTake : Stmt := top 4
def spNum (K : PySem.W.Frag) : Sp := fun vs H Q _ => ∃ (a : Addr) (ns : List Int) (k : Int), vs = [.ref a, .int k] ∧ SqL K H a (ns.map V.int) ∧ ns.length ≤ 63 ∧
  ∀ (v : Int) (H' : Hp), 0 ≤ v → Same H H' → Q (.int v) H'
def spTake (K : PySem.W.Frag) : Sp := fun vs H Q _ => ∃ (M : List Addr) (d a : Addr) (m : Int), vs = [.ref d, .int m] ∧ Dr K M d a H ∧ 0 < m ∧
  ∀ (v : Int) (H' : Hp), 0 ≤ v → v < m → Dr K M d a H' → Kp [d] H H' → Q (.int v) H'
/-- what the draws ask of the module -/
structure TxD (K : PySem.W.Frag) (mg : Str → Option Value) (fN fT : Addr) : Prop where
  len : mg "len" = none
  int : mg "int" = none
  abs : mg "abs" = none
  num : mg "_law_number" = some (.ref fN)
  take : mg "_law_take" = some (.ref fT)
section
variable {P : Program} {w : World} {K : PySem.W.Frag} {mg : Str → Option Value} {base : Heap}
theorem scNum : FnScope ["script", "index", "cell", "blend"] ["script", "index"] (defScope sNum) := ⟨rfl, rfl, rfl, by decide +kernel, rfl, by decide +kernel, by decide +kernel⟩
theorem ok_num {f fN fT : Addr} {fd : FuncData} (F : Fun K "_law_number" "_law_number" sNum f fd) (T : TxD K mg fN fT) : FnOk P w K mg base CX0 1 f fd ["script", "index"] (spNum K) := by
  refine F.ok scNum (fun vs H Q E h => ?_) (fun cdv A outer s H vs Q E hr h => ?_)
  · obtain ⟨a, ns, k, rfl, _⟩ := h
    rfl
  · obtain ⟨a, ns, k, rfl, hS, hl, q⟩ := h
    refine ⟨_, pss_cons (ps_if (pt_cmpR (op_eqD hr.units) (pv 0) (pe_lst pa_nil) (nomark _)) (pss_one (ps_ret (pe_callTy call_int1 (by rfl) T.int boot_int (pa_cons (pe_op op_mod (pe_op op_add (pe_op op_mul (pv 1) pe_int) pe_int) pe_int) pa_nil)))) pss_nil)
      (pss_cons (ps_set (i := 2) scNum.nd rfl (Or.inl rfl) (pe_ix ix_list (pv 0) (pe_op op_mod (pv 1) (pe_callB call_len_seq (by rfl) T.len PySem.boot_len (pa_cons (pv 0) pa_nil))) (fun _ _ => rfl)))
      (pss_cons (ps_if (pt_cmpR op_ge (pe_callB call_abs (by rfl) T.abs boot_abs (pa_cons (pv 2) pa_nil)) (pe_op op_pow pe_int pe_int) (nomark _)) (pss_one (ps_set (i := 2) scNum.nd rfl (Or.inl rfl) (pe_op op_mod (pv 2) (pe_op op_pow pe_int pe_int)))) pss_nil)
      (pss_cons (ps_set (i := 3) scNum.nd rfl (Or.inl rfl) (pe_op op_mod (pe_op op_add (pe_op op_mul (pe_op op_add (pv 2) (pe_op op_mul pe_int (pv 1))) pe_int) (pe_op op_mul pe_int (pe_callB call_len_seq (by rfl) T.len PySem.boot_len (pa_cons (pv 0) pa_nil)))) pe_int))
      (pss_one (ps_ret (pe_callTy call_int1 (by rfl) T.int boot_int (pa_cons (pe_op op_mod (pe_op op_add (pe_op op_mul (pe_op op_mod (pe_op op_mul (pv 3) pe_int) pe_int) pe_int) (pv 1)) pe_int) pa_nil))))))), ?_⟩
    refine ⟨_, rfl, Nat.zero_le _, fun p hp => ?_⟩
    have s1 : Same H (upd H p (.lst [])) := fun b o e => by rw [upd_ne (ne_of_none e hp)]; exact e
    have hS1 := s1.seq hS
    refine ⟨pdI ns, pdI [], dp_ints hS1, dp_ints (SqL.of upd_same), shaped_ints _, shaped_ints _, _, rfl, ?_⟩
    refine ite2 (fun _ => ?_) (fun e => ?_)
    · refine ⟨_, rfl, _, _, rfl, rfl, .inr (by decide), _, _, rfl, rfl, _, _, rfl, rfl, (by show (0 : Int) < _; decide), .inl ⟨_, rfl, ?_⟩⟩
      exact q _ _ (Int.emod_nonneg _ (by decide)) s1
    · have hn : 0 < ns.length := by
        rw [eqv_ints] at e
        cases ns with
        | nil => exact absurd (decide_eq_true rfl) e
        | cons x r => exact Nat.succ_pos _
      have hlen : ((ns.map V.int).length : Int) = (ns.length : Int) := by rw [List.length_map]
      have hlt : (k % (((ns.map V.int).length : Nat) : Int)).toNat < ns.length := by
        have h1 := Int.emod_nonneg k (b := (((ns.map V.int).length : Nat) : Int)) (by omega)
        have h2 := Int.emod_lt_of_pos k (b := (((ns.map V.int).length : Nat) : Int)) (by omega)
        omega
      refine ⟨_, rfl, _, rfl, _, rfl, a, _, rfl, .inl hS1, _, _, rfl, rfl, (by show (0 : Int) < _; omega), a, _, _, V.int ns[(k % (((ns.map V.int).length : Nat) : Int)).toNat], rfl, rfl, hS1, at_of (j := (k % (((ns.map V.int).length : Nat) : Int)).toNat) (by
        have h1 := Int.emod_nonneg k (b := (((ns.map V.int).length : Nat) : Int)) (by omega)
        omega) (by rw [List.getElem?_map, List.getElem?_eq_getElem hlt]; rfl), ?_⟩
      generalize ns[(k % (((ns.map V.int).length : Nat) : Int)).toNat] = c
      refine ⟨_, rfl, _, rfl, _, _, rfl, rfl, ⟨by decide, by decide, by decide⟩, _, _, rfl, rfl, _, rfl, ?_⟩
      refine ite2 (fun _ => ?_) (fun _ => ?_)
      refine ⟨_, rfl, _, _, rfl, rfl, ⟨by decide, by decide, by decide⟩, _, _, rfl, rfl, (by show (0 : Int) < _; decide), ?_⟩
      all_goals
        refine ⟨_, rfl, _, rfl, _, _, rfl, rfl, .inl ⟨by decide, by decide⟩, _, _, rfl, rfl, _, _, rfl, rfl, .inr (by decide), _, rfl, a, _, rfl, .inl hS1, _, _, rfl, rfl, .inl ⟨by decide, by decide⟩, _, _, rfl, rfl, _, _, rfl, rfl, (by show (0 : Int) < _; decide), ?_⟩
        refine ⟨_, rfl, _, _, rfl, rfl, .inr (by decide), _, _, rfl, rfl, (by show (0 : Int) < _; decide), _, _, rfl, rfl, .inr (by decide), _, rfl, _, _, rfl, rfl, _, _, rfl, rfl, (by show (0 : Int) < _; decide), .inl ⟨_, rfl, ?_⟩⟩
        exact q _ _ (Int.emod_nonneg _ (by decide)) s1
theorem scTake : FnScope ["draw", "many"] ["draw", "many"] (defScope sTake) := ⟨rfl, rfl, rfl, by decide +kernel, rfl, by decide +kernel, by decide +kernel⟩
theorem ok_take {f fN fT : Addr} {fd fdN : FuncData} (F : Fun K "_law_take" "_law_take" sTake f fd) (T : TxD K mg fN fT) (FN : Fun K "_law_number" "_law_number" sNum fN fdN) (bN : Binds K fdN ["script", "index"] []) :
    FnOk P w K mg base CX0 2 f fd ["draw", "many"] (spTake K) := by
  have GN : FnOk P w K mg base CX0 1 fN fdN ["script", "index"] (spNum K) := ok_num FN T
  refine F.ok scTake (fun vs H Q E h => ?_) (fun cdv A outer s H vs Q E hr h => ?_)
  · obtain ⟨M, d, a, m, rfl, _⟩ := h
    rfl
  · obtain ⟨M, d, a, m, rfl, D, hm, q⟩ := h
    obtain ⟨⟨k, hd⟩, hM, ns, hl, hs⟩ := id D
    refine ⟨_, pss_cons (ps_augS (pv 0) pe_int get_list pe_int ip_add set_list)
      (pss_one (ps_ret (pe_op op_mod (pe_callTy call_int1 (by rfl) T.int boot_int (pa_cons (pe_call GN hr rfl T.num FN.kp bN .nil pass0 (pa_cons (pe_ix ix_list (pv 0) pe_int (fun _ _ => rfl)) (pa_cons (pe_callTy call_int1 (by rfl) T.int boot_int (pa_cons (pe_ix ix_list (pv 0) pe_int (fun _ _ => rfl)) pa_nil)) pa_nil))) pa_nil)) (pv 1)))), ?_⟩
    refine ⟨_, rfl, d, _, _, .int k, rfl, rfl, SqL.of hd, rfl, _, _, rfl, rfl, d, _, _, 1, rfl, rfl, hd, rfl, ?_⟩
    have hd1 : (upd H d (HO.lst ([V.ref a, V.int k].set 1 (V.int (k + 1))))) d = some (.lst [.ref a, .int (k + 1)]) := upd_same
    have k1 : Kp [d] H (upd H d (HO.lst ([V.ref a, V.int k].set 1 (V.int (k + 1))))) := Kp.at (List.mem_singleton.mpr rfl)
    have up : ∀ b ∈ [d], b ∈ M := fun b z => by rw [List.mem_singleton.mp z]; exact hM
    refine ⟨_, rfl, d, _, _, .ref a, rfl, rfl, SqL.of hd1, rfl, _, rfl, d, _, _, .int (k + 1), rfl, rfl, SqL.of hd1, rfl, .inl ⟨_, rfl, ?_⟩⟩
    refine ⟨a, ns, k + 1, rfl, hs _ (k1.mono up), hl, fun v H' hv s1 => .inl ⟨_, rfl, ?_⟩⟩
    refine ⟨_, rfl, _, _, rfl, rfl, hm, ?_⟩
    have k2 := k1.trans (Kp.same s1)
    exact q _ H' (Int.emod_nonneg _ (by omega)) (Int.emod_lt_of_pos _ hm) (D.next (k2.mono up) (s1 _ _ hd1)) k2
end
abbrev sPick : Stmt := top 5
def spPick (K : PySem.W.Frag) : Sp := fun vs H Q _ => ∃ (M : List Addr) (d a l : Addr) (xs : List V), vs = [.ref d, .ref l] ∧ Dr K M d a H ∧ 0 < xs.length ∧ (∀ H', Kp [d] H H' → SqL K H' l xs ∨ SqT K H' l xs) ∧
  ∀ (j : Nat) (x : V) (H' : Hp), xs[j]? = some x → Dr K M d a H' → Kp [d] H H' → Q x H'
section
variable {P : Program} {w : World} {K : PySem.W.Frag} {mg : Str → Option Value} {base : Heap}
theorem scPick : FnScope ["draw", "items"] ["draw", "items"] (defScope sPick) := ⟨rfl, rfl, rfl, by decide +kernel, rfl, by decide +kernel, by decide +kernel⟩
theorem ok_pick {f fN fT : Addr} {fd fdN fdT : FuncData} (F : Fun K "_law_pick" "_law_pick" sPick f fd) (T : TxD K mg fN fT) (FN : Fun K "_law_number" "_law_number" sNum fN fdN) (bN : Binds K fdN ["script", "index"] [])
    (FT : Fun K "_law_take" "_law_take" sTake fT fdT) (bT : Binds K fdT ["draw", "many"] []) : FnOk P w K mg base CX0 3 f fd ["draw", "items"] (spPick K) := by
  have GT : FnOk P w K mg base CX0 2 fT fdT ["draw", "many"] (spTake K) := ok_take FT T FN bN
  refine F.ok scPick (fun vs H Q E h => ?_) (fun cdv A outer s H vs Q E hr h => ?_)
  · obtain ⟨M, d, a, l, xs, rfl, _⟩ := h
    rfl
  · obtain ⟨M, d, a, l, xs, rfl, D, hx, hs, q⟩ := h
    refine ⟨_, pss_one (ps_ret (pe_ix ix_seq (pv 1) (pe_call GT hr rfl T.take FT.kp bT .nil pass0 (pa_cons (pv 0) (pa_cons (pe_callB call_len_seq (by rfl) T.len PySem.boot_len (pa_cons (pv 1) pa_nil)) pa_nil))) (fun _ _ => rfl))), ?_⟩
    refine ⟨_, rfl, _, rfl, _, rfl, l, xs, rfl, hs H (Kp.refl _ H), M, d, a, _, rfl, D, (by show (0 : Int) < _; omega), fun v H' h0 h1 D1 k1 => ?_⟩
    have hj : v.toNat < xs.length := by omega
    have e : v = ((v.toNat : Nat) : Int) := by omega
    have hg : xs[v.toNat]? = some xs[v.toNat] := List.getElem?_eq_getElem hj
    have fin := q v.toNat _ H' hg D1 k1
    rcases hs H' k1 with hL | hT
    · exact .inl ⟨l, xs, v, _, rfl, rfl, hL, at_of e hg, fin⟩
    · exact .inr (.inl ⟨l, xs, v, _, rfl, rfl, hT, at_of e hg, fin⟩)
end
/-! ### a mast -/
abbrev sMInit : Stmt := inClass (top 1) 0
abbrev sMTake : Stmt := inClass (top 1) 1
abbrev sMFall : Stmt := inClass (top 1) 2
abbrev sMUp : Stmt := inClass (top 1) 3
abbrev sMDown : Stmt := inClass (top 1) 4
abbrev Rows := List (PySem.Str × Int)
/-- rows by calls, in order -/
def Asc (rows : Rows) : Prop := rows.Pairwise fun x y => x.1.cps.toList < y.1.cps.toList
def kvR (rows : Rows) : List (L2.Key × V) := rows.map fun r => (Sum.inr r.1, V.int r.2)
def look (rows : Rows) (c : PySem.Str) : Option Int := (rows.find? fun r => decide (r.1 = c)).map (·.2)
theorem look_val (rows : Rows) (c : PySem.Str) : valV (kvR rows) (Sum.inr c : L2.Key) = (look rows c).map V.int := by
  induction rows with
  | nil => rfl
  | cons r rs ih =>
    by_cases h : r.1 = c
    · have e1 : (Sum.inr r.1 : L2.Key) = Sum.inr c := by rw [h]
      show valV ((Sum.inr r.1, V.int r.2) :: kvR rs) _ = _
      rw [valV_pos e1]
      unfold look
      rw [List.find?_cons, decide_eq_true h]
      rfl
    · have e1 : ¬ (Sum.inr r.1 : L2.Key) = Sum.inr c := fun z => h (Sum.inr.inj z)
      show valV ((Sum.inr r.1, V.int r.2) :: kvR rs) _ = _
      rw [valV_neg (p := ((Sum.inr r.1 : L2.Key), V.int r.2)) e1, ih]
      unfold look
      rw [List.find?_cons, decide_eq_false h]
theorem asc_new {rows : Rows} {i : Nat} {r : PySem.Str × Int} (h : Asc rows) (e : rows[i]? = some r) : valV (kvR (rows.take i)) (Sum.inr r.1 : L2.Key) = none := by
  rw [look_val]
  have : look (rows.take i) r.1 = none := by
    unfold look
    rw [Option.map_eq_none_iff, List.find?_eq_none]
    intro x hx
    obtain ⟨j, hj⟩ := List.mem_iff_getElem?.mp hx
    rw [List.getElem?_take] at hj
    split at hj
    · rename_i hji
      have h1 := (List.getElem?_eq_some_iff.mp hj)
      have h2 := (List.getElem?_eq_some_iff.mp e)
      obtain ⟨l1, e1⟩ := h1
      obtain ⟨l2, e2⟩ := h2
      have lt := List.pairwise_iff_getElem.mp h j i l1 l2 hji
      rw [e1, e2] at lt
      intro z
      rw [of_decide_eq_true z] at lt
      exact List.lt_irrefl _ lt
    · cases hj
  rw [this]
  rfl
theorem asc_put {rows : Rows} {i : Nat} {r : PySem.Str × Int} (h : Asc rows) (e : rows[i]? = some r) : putK (kvR (rows.take i)) (Sum.inr r.1 : L2.Key) (V.int r.2) = kvR (rows.take (i + 1)) := by
  rw [putK_new _ (asc_new h e), List.take_add_one, e]
  unfold kvR
  rw [List.map_append]
  rfl
/-- a tuple of such rows stands at a -/
structure TRow (H : Hp) (a : Addr) (rows : Rows) : Prop where
  at_ : ∃ as : List Addr, H a = some (TupO a (as.map V.ref)) ∧ as.length = rows.length ∧ ∀ (i : Nat) b r, as[i]? = some b → rows[i]? = some r → H b = some (.tup [.str r.1, .int r.2])
def mF (nm : PySem.Str) (n : Int) (dr : Addr) : List (PySem.Str × V) := [("name", .str nm), ("number", .int n), ("rows", .ref dr)]
structure MastAt (C : Addr) (H : Hp) (m dr : Addr) (nm : PySem.Str) (n : Int) (rows : Rows) : Prop where
  ob : ∃ dx, H m = some (.ins C dx (mF nm n dr))
  dc : H dr = some (.dK (kvR rows))
def spMInit (C : Addr) : Sp := fun vs H Q _ => ∃ (p dx : Addr) (nm : PySem.Str), vs = [.ref p, .str nm] ∧ H p = some (.ins C dx []) ∧ ∀ (dr : Addr) (H' : Hp), H dr = none → MastAt C H' p dr nm 0 [] → Kp [p] H H' → Q .non H'
def spMTake (C : Addr) : Sp := fun vs H Q _ => ∃ (m dr a : Addr) (nm : PySem.Str) (n n' : Int) (rows rows' : Rows), vs = [.ref m, .int n', .ref a] ∧ MastAt C H m dr nm n rows ∧ TRow H a rows' ∧ Asc rows' ∧ rows'.length ≤ 1000 ∧
  ∀ (dr' : Addr) (H' : Hp), MastAt C H' m dr' nm (if n' < n then n else n') (if n' < n then rows else rows') → Kp [m] H H' → Q .non H'
def spMFall (C : Addr) : Sp := fun vs H Q _ => ∃ (m dr : Addr) (nm : PySem.Str) (n : Int) (rows : Rows), vs = [.ref m] ∧ MastAt C H m dr nm n rows ∧ ∀ (dr' : Addr) (H' : Hp), MastAt C H' m dr' nm n [] → Kp [m] H H' → Q .non H'
def spMUp (C : Addr) : Sp := fun vs H Q _ => ∃ (m dr fr : Addr) (nm c : PySem.Str) (n : Int) (rows : Rows), vs = [.ref m, .str c, .ref fr] ∧ MastAt C H m dr nm n rows ∧
  (look rows c = none → Q .non H) ∧ (∀ e, look rows c = some e → ∀ p, H p = none → Q (.ref p) (upd H p (.tup [.str "up", .str c, .int e, .ref fr])))
def spMDown (C : Addr) : Sp := fun vs H Q _ => ∃ (m dr fr : Addr) (nm c : PySem.Str) (n e : Int) (rows : Rows), vs = [.ref m, .str c, .int e, .ref fr] ∧ MastAt C H m dr nm n rows ∧
  (look rows c ≠ some e → Q .non H) ∧ (look rows c = some e → ∀ p, H p = none → Q (.ref p) (upd H p (.tup [.str "air", .str c, .int e, .ref fr])))
structure TxM (K : PySem.W.Frag) (mg : PySem.Str → Option Value) (C : Addr) : Prop where
  cl : Cls K C
  nN : NoAttr K C "name"
  nU : NoAttr K C "number"
  nR : NoAttr K C "rows"
  mgC : mg "Mast" = some (.ref C)
  sorted : mg "sorted" = none
section
variable {P : Program} {w : World} {K : PySem.W.Frag} {mg : PySem.Str → Option Value} {base : Heap}
theorem scMI : FnScope ["self", "name"] ["self", "name"] (defScope sMInit) := ⟨rfl, rfl, rfl, by decide +kernel, rfl, by decide +kernel, by decide +kernel⟩
theorem ok_minit {f C : Addr} {fd : FuncData} (F : Fun K "__init__" "Mast.__init__" sMInit f fd) (T : TxM K mg C) : FnOk P w K mg base CX0 1 f fd ["self", "name"] (spMInit C) := by
  refine F.ok scMI (fun vs H Q E h => ?_) (fun cdv A outer s H vs Q E hr h => ?_)
  · obtain ⟨p, dx, nm, rfl, _⟩ := h
    rfl
  · obtain ⟨p, dx, nm, rfl, hp, k⟩ := h
    refine ⟨_, pss_cons (ps_fld (pv 0) (pv 1) rfl) (pss_cons (ps_fld (pv 0) pe_int rfl) (pss_one (ps_fld (pv 0) pe_dnewK rfl))), ?_⟩
    refine ⟨_, rfl, _, rfl, p, C, dx, [], rfl, hp, T.cl, T.nN, (by show 0 < 1000; decide), ?_⟩
    refine ⟨_, rfl, p, C, dx, _, rfl, upd_same, T.cl, T.nU, (by show 1 < 1000; decide), ?_⟩
    intro dr hd
    have npd : p ≠ dr := ne_of_none upd_same hd
    refine ⟨_, rfl, p, C, dx, _, rfl, (by rw [upd_ne npd]; exact upd_same), T.cl, T.nR, (by show 2 < 1000; decide), ?_⟩
    have hd0 : H dr = none := by rw [upd_ne npd.symm, upd_ne npd.symm] at hd; exact hd
    refine k dr _ hd0 ⟨⟨dx, upd_same⟩, by rw [upd_ne npd.symm, upd_same]; rfl⟩ fun b o e n => ?_
    have nb : b ≠ p := fun z => n (List.mem_singleton.mpr z)
    rw [upd_ne nb, upd_ne (ne_of_none e hd0), upd_ne nb, upd_ne nb]
    exact e
theorem scMF : FnScope ["self"] ["self"] (defScope sMFall) := ⟨rfl, rfl, rfl, by decide +kernel, rfl, by decide +kernel, by decide +kernel⟩
theorem ok_mfall {f C : Addr} {fd : FuncData} (F : Fun K "fall" "Mast.fall" sMFall f fd) (T : TxM K mg C) : FnOk P w K mg base CX0 1 f fd ["self"] (spMFall C) := by
  refine F.ok scMF (fun vs H Q E h => ?_) (fun cdv A outer s H vs Q E hr h => ?_)
  · obtain ⟨m, dr, nm, n, rows, rfl, _⟩ := h
    rfl
  · obtain ⟨m, dr, nm, n, rows, rfl, ⟨⟨dx, hm⟩, hd⟩, k⟩ := h
    refine ⟨_, pss_one (ps_fld (pv 0) pe_dnewK rfl), ?_⟩
    intro d2 hd2
    have nmd : m ≠ d2 := ne_of_none hm hd2
    refine ⟨_, rfl, m, C, dx, _, rfl, (by rw [upd_ne nmd]; exact hm), T.cl, T.nR, (by show 3 < 1000; decide), ?_⟩
    refine k d2 _ ⟨⟨dx, upd_same⟩, by rw [upd_ne nmd.symm, upd_same]; rfl⟩ fun b o e n => ?_
    have nb : b ≠ m := fun z => n (List.mem_singleton.mpr z)
    rw [upd_ne nb, upd_ne (ne_of_none e hd2)]
    exact e
theorem scMU : FnScope ["self", "call", "frame"] ["self", "call", "frame"] (defScope sMUp) := ⟨rfl, rfl, rfl, by decide +kernel, rfl, by decide +kernel, by decide +kernel⟩
theorem ok_mup {f C : Addr} {fd : FuncData} (F : Fun K "lead_up" "Mast.lead_up" sMUp f fd) (T : TxM K mg C) : FnOk P w K mg base CX0 1 f fd ["self", "call", "frame"] (spMUp C) := by
  refine F.ok scMU (fun vs H Q E h => ?_) (fun cdv A outer s H vs Q E hr h => ?_)
  · obtain ⟨m, dr, fr, nm, c, n, rows, rfl, _⟩ := h
    rfl
  · obtain ⟨m, dr, fr, nm, c, n, rows, rfl, ⟨⟨dx, hm⟩, hd⟩, k1, k2⟩ := h
    have hu := hu_of hr
    refine ⟨_, (pss_cons (ps_if (pt_cmp (pc_dnotin hu (pv 1) (pe_fld (pv 0) rfl)))
        (pss_one (ps_ret pe_non))
        pss_nil)
      (pss_one (ps_ret (pe_tup (pa_cons pe_str (pa_cons (pv 1) (pa_cons (pe_dget hu (pe_fld (pv 0) rfl) (pv 1) (fun _ _ => rfl)) (pa_cons (pv 2) pa_nil)))))))), ?_⟩
    refine ⟨_, rfl, _, rfl, m, C, dx, _, _, rfl, hm, T.cl, T.nR, rfl, dr, _, rfl, DGet.k (k := Sum.inr c) hd, _, rfl, ?_⟩
    have hv := look_val rows c
    cases hl : look rows c with
    | none =>
      rw [hl] at hv
      rw [hv]
      exact k1 hl
    | some e =>
      rw [hl] at hv
      rw [hv]
      refine ⟨_, rfl, _, rfl, m, C, dx, _, _, rfl, hm, T.cl, T.nR, rfl, _, rfl, dr, V.int e, rfl, ?_, _, rfl, (by show 4 ≤ sizeLine; decide), fun p hp => k2 e hl p hp⟩
      have g := DGet.k (k := Sum.inr c) hd
      rw [hv] at g
      exact g
theorem scMD : FnScope ["self", "call", "epoch", "frame"] ["self", "call", "epoch", "frame"] (defScope sMDown) := ⟨rfl, rfl, rfl, by decide +kernel, rfl, by decide +kernel, by decide +kernel⟩
theorem ok_mdown {f C : Addr} {fd : FuncData} (F : Fun K "lead_down" "Mast.lead_down" sMDown f fd) (T : TxM K mg C) : FnOk P w K mg base CX0 1 f fd ["self", "call", "epoch", "frame"] (spMDown C) := by
  refine F.ok scMD (fun vs H Q E h => ?_) (fun cdv A outer s H vs Q E hr h => ?_)
  · obtain ⟨m, dr, fr, nm, c, n, e, rows, rfl, _⟩ := h
    rfl
  · obtain ⟨m, dr, fr, nm, c, n, e, rows, rfl, ⟨⟨dx, hm⟩, hd⟩, k1, k2⟩ := h
    have hu := hu_of hr
    refine ⟨_, (pss_cons (ps_if (PW.pt (pw_or (pt_cmp (pc_dnotin hu (pv 1) (pe_fld (pv 0) rfl))) (pw_or1 (pt_cmpR op_ne (pe_dget hu (pe_fld (pv 0) rfl) (pv 1) (fun _ _ => rfl)) (pv 2) (nomark _)))))
        (pss_one (ps_ret pe_non))
        pss_nil)
      (pss_one (ps_ret (pe_tup (pa_cons pe_str (pa_cons (pv 1) (pa_cons (pv 2) (pa_cons (pv 3) pa_nil)))))))), ?_⟩
    refine ⟨_, rfl, _, rfl, m, C, dx, _, _, rfl, hm, T.cl, T.nR, rfl, dr, _, rfl, DGet.k (k := Sum.inr c) hd, _, rfl, ?_⟩
    have hv := look_val rows c
    cases hl : look rows c with
    | none =>
      rw [hl] at hv
      rw [hv]
      exact k1 (by rw [hl]; exact fun z => nomatch z)
    | some e' =>
      rw [hl] at hv
      rw [hv]
      have g := DGet.k (k := Sum.inr c) hd
      rw [hv] at g
      refine ⟨_, rfl, m, C, dx, _, _, rfl, hm, T.cl, T.nR, rfl, _, rfl, dr, V.int e', rfl, g, _, rfl, rfl, _, rfl, ?_⟩
      by_cases he : e' = e
      · subst he
        rw [decide_eq_true rfl]
        exact ⟨_, rfl, _, rfl, _, rfl, (by show 4 ≤ sizeLine; decide), fun p hp => k2 hl p hp⟩
      · rw [decide_eq_false (fun z => he (V.int.inj z))]
        exact k1 (by rw [hl]; exact fun z => he (Option.some.inj z))
theorem scMT : FnScope ["self", "number", "rows", "call", "epoch"] ["self", "number", "rows"] (defScope sMTake) := ⟨rfl, rfl, rfl, by decide +kernel, rfl, by decide +kernel, by decide +kernel⟩
theorem ok_mtake {f C : Addr} {fd : FuncData} (F : Fun K "take" "Mast.take" sMTake f fd) (T : TxM K mg C) : FnOk P w K mg base CX0 1 f fd ["self", "number", "rows"] (spMTake C) := by
  refine F.ok scMT (fun vs H Q E h => ?_) (fun cdv A outer s H vs Q E hr h => ?_)
  · obtain ⟨m, dr, a, nm, n, n', rows, rows', rfl, _⟩ := h
    rfl
  · obtain ⟨m, dr, a, nm, n, n', rows, rows', rfl, ⟨⟨dx, hm⟩, hd⟩, ⟨as, ha, hla, hat⟩, hasc, hsz, k⟩ := h
    refine ⟨_, (pss_cons (ps_if (pt_cmpR op_lt (pv 1) (pe_fld (pv 0) rfl) (nomark _))
        (pss_one ps_retN)
        pss_nil)
      (pss_cons (ps_fld (pv 0) (pv 1) rfl)
      (pss_one (ps_fld (pv 0) (pe_dc (own := [("call", 3), ("epoch", 4)]) (g := gTup K 2 (gCons (gName 3) (gCons (gName 4) gNil))) (tt := tYes) rfl scMT.nd (pi_list (pe_callB cr_sortedPS (by rfl) T.sorted boot_sorted (pa_cons (pv 2) pa_nil))) (blkOk_by (own := [("call", 3), ("epoch", 4)]) (N := ["self", "number", "rows", "call", "epoch"]) (sc := defScope sMTake) (by decide +kernel))
        (fun _ _ _ _ _ => (pg_tup rfl (pgs_cons (pg_name (i := 3) scMT.nd rfl (Or.inl rfl)) (pgs_cons (pg_name (i := 4) scMT.nd rfl (Or.inl rfl)) pgs_nil)))) (fun _ _ _ _ _ => pts_nil) (fun _ _ _ _ _ => (pv 3)) (fun _ _ _ _ _ => (pv 4))) rfl)))), ?_⟩
    refine ⟨_, rfl, _, rfl, m, C, dx, _, _, rfl, hm, T.cl, T.nU, rfl, _, _, rfl, rfl, _, rfl, ?_⟩
    refine ite2 (fun h1 => ?_) (fun h1 => ?_)
    · have h1 : n' < n := of_decide_eq_true h1
      exact k dr H (by rw [if_pos h1, if_pos h1]; exact ⟨⟨dx, hm⟩, hd⟩) (Kp.refl _ _)
    have h1 : ¬ n' < n := fun z => h1 (decide_eq_true z)
    rw [if_neg h1, if_neg h1] at k
    refine ⟨_, rfl, _, rfl, m, C, dx, _, rfl, hm, T.cl, T.nU, (by show 3 < 1000; decide), ?_⟩
    have kM : Kp [m] H (upd H m (.ins C dx (mF nm n' dr))) := Kp.at (List.mem_singleton.mpr rfl)
    have hm1 : (upd H m (.ins C dx (mF nm n' dr))) m = some (.ins C dx (mF nm n' dr)) := upd_same
    have hext : ∀ b xs, some (TupO b xs) ≠ some (HO.ins C dx (mF nm n dr)) := fun b xs z => by unfold TupO at z; cases Option.some.inj z
    have nam : a ≠ m := fun z => by rw [z, hm] at ha; exact hext _ _ ha.symm
    have ha1 : (upd H m (.ins C dx (mF nm n' dr))) a = some (TupO a (as.map V.ref)) := by rw [upd_ne nam]; exact ha
    have hat1 : ∀ (i : Nat) b r, as[i]? = some b → rows'[i]? = some r → (upd H m (.ins C dx (mF nm n' dr))) b = some (.tup [.str r.1, .int r.2]) := fun i b r e1 e2 => by
      have q := hat i b r e1 e2
      rw [upd_ne (ne_of q hm (by intro z; cases z))]
      exact q
    rw [show putF "number" (V.int n') (mF nm n dr) = mF nm n' dr from rfl]
    generalize upd H m (.ins C dx (mF nm n' dr)) = H1 at kM hm1 ha1 hat1 ⊢
    let kf : V → PySem.Str × Int := fun x => match x with
      | .ref b => match H1 b with
        | some (.tup [.str s, .int e]) => (s, e)
        | _ => (⟨#[]⟩, 0)
      | _ => (⟨#[]⟩, 0)
    have hkf : ∀ (i : Nat) b r, as[i]? = some b → rows'[i]? = some r → kf (.ref b) = r := fun i b r e1 e2 => by
      have q := hat1 i b r e1 e2
      show (match H1 b with
        | some (.tup [.str s, .int e]) => (s, e)
        | _ => (⟨#[]⟩, 0)) = r
      rw [q]
    have hmap : (as.map V.ref).map kf = rows' := by
      refine List.ext_getElem? fun i => ?_
      rw [List.getElem?_map, List.getElem?_map]
      cases ea : as[i]? with
      | none =>
        have : rows'.length ≤ i := by rw [← hla]; exact List.getElem?_eq_none_iff.mp ea
        rw [List.getElem?_eq_none this]
        rfl
      | some b =>
        have hi : i < rows'.length := by rw [← hla]; exact (List.getElem?_eq_some_iff.mp ea).1
        have er : rows'[i]? = some rows'[i] := List.getElem?_eq_getElem hi
        rw [er]
        show some (kf (.ref b)) = _
        rw [hkf i b _ ea er]
    refine ⟨_, rfl, a, as.map V.ref, kf, rfl, ha1, fun x hx => ?_, fun ys p hs hb hp => ?_⟩
    · obtain ⟨b, hb, rfl⟩ := List.mem_map.mp hx
      obtain ⟨i, hi⟩ := List.mem_iff_getElem?.mp hb
      have hi' : i < rows'.length := by rw [← hla]; exact (List.getElem?_eq_some_iff.mp hi).1
      have er : rows'[i]? = some rows'[i] := List.getElem?_eq_getElem hi'
      exact ⟨b, rfl, by rw [hkf i b _ hi er]; exact hat1 i b _ hi er⟩
    have hys : ys = as.map V.ref := by
      refine sorted_same ?_ hs hb
      rw [← List.pairwise_map (f := kf) (R := fun x y => x.1.cps.toList < y.1.cps.toList), hmap]
      exact hasc
    subst hys
    have s2 : Same H1 (upd H1 p (.lst (as.map V.ref))) := fun b o z => by rw [upd_ne (ne_of_none z hp)]; exact z
    have hp2 : (upd H1 p (.lst (as.map V.ref))) p = some (.lst (as.map V.ref)) := upd_same
    generalize upd H1 p (.lst (as.map V.ref)) = H2 at s2 hp2 ⊢
    refine ⟨p, rfl, ⟨_, SqL.of hp2⟩, fun D hD => dc_list (K := K) (a := p) (xs := as.map V.ref) (fun i H' => Same H2 H' ∧ H' D = some (.dK (kvR (rows'.take i))))
      ⟨fun b o z => by rw [upd_ne (ne_of_none z hD)]; exact z, upd_same⟩ (fun i H' _ q => SqL.of (q.1 _ _ hp2)) ?_ ?_⟩
    · rintro i x H' hx ⟨s3, hd3⟩
      rw [List.getElem?_map] at hx
      cases ea : as[i]? with
      | none => rw [ea] at hx; cases hx
      | some b =>
        rw [ea] at hx
        cases Option.some.inj hx
        have hi : i < rows'.length := by rw [← hla]; exact (List.getElem?_eq_some_iff.mp ea).1
        have er : rows'[i]? = some rows'[i] := List.getElem?_eq_getElem hi
        generalize rows'[i] = r at er
        have q := s3 _ _ (s2 _ _ (hat1 i b r ea er))
        refine ⟨b, _, rfl, SqT.of q, rfl, _, _, rfl, _, _, rfl, rfl, rfl, ?_⟩
        refine ⟨_, rfl, _, rfl, kvR (rows'.take i), Sum.inr r.1, rfl, hd3, small1000 (by unfold kvR; rw [List.length_map, List.length_take]; omega), fun c o z => ?_, by rw [upd_same, asc_put hasc er]⟩
        rw [upd_ne (ne_of_none z hD)]
        exact s3 _ _ z
    · rintro H3 ⟨s3, hd3⟩
      rw [List.length_map, hla, List.take_length] at hd3
      have hm3 := s3 _ _ (s2 _ _ hm1)
      have nmD : D ≠ m := ne_of hd3 hm3 (by intro z; cases z)
      refine ⟨_, rfl, m, C, dx, _, rfl, hm3, T.cl, T.nR, (by show 3 < 1000; decide), ?_⟩
      refine k D _ ⟨⟨dx, upd_same⟩, by rw [upd_ne nmD]; exact hd3⟩ ?_
      exact (kM.trans (Kp.same (s2.trans s3))).trans (Kp.at (List.mem_singleton.mpr rfl))
end
end Mc
namespace Mc
open PySem L2 PySem.Spec PyProof.Rows
/-! ### the law -/
theorem merge_kvR {rows : Rows} (h : Asc rows) : mergeK [] (kvR rows) = kvR rows := by
  have go : ∀ i, i ≤ rows.length → mergeK [] (kvR (rows.take i)) = kvR (rows.take i) := by
    intro i
    induction i with
    | zero => intro _; rfl
    | succ i ih =>
      intro hi
      have e : rows[i]? = some rows[i] := List.getElem?_eq_getElem (by omega)
      have p := asc_put h e
      rw [← p]
      have q : kvR (rows.take (i + 1)) = kvR (rows.take i) ++ [((Sum.inr rows[i].1 : L2.Key), V.int rows[i].2)] := by
        rw [List.take_add_one, e]
        unfold kvR
        rw [List.map_append]
        rfl
      rw [p]
      unfold mergeK
      rw [q, List.foldl_append]
      have ih' := ih (by omega)
      unfold mergeK at ih'
      rw [ih', ← q, ← p]
      rfl
  have := go rows.length (Nat.le_refl _)
  rw [List.take_length] at this
  exact this
/-- the names of the block around the inner comprehension -/
def scIn : Scope := { kind := .function, names := [(".0", .local), ("number", .local), ("tuple", .globalImplicit), ("range", .globalImplicit), ("_law_take", .globalImplicit), ("draw", .cell)], isGenerator := false, isCoroutine := false }
/-- all that may change is a list or an instance -/
def NT (M : List Addr) (H : Hp) : Prop := ∀ b ∈ M, (∃ xs, H b = some (.lst xs)) ∨ ∃ C dx fs, H b = some (.ins C dx fs)
theorem NT.tup {M : List Addr} {H : Hp} (n : NT M H) {b : Addr} {xs : List V} (h : H b = some (.tup xs)) : b ∉ M := fun hb => by
  rcases n b hb with ⟨ys, e⟩ | ⟨C, dx, fs, e⟩ <;> (rw [h] at e; cases e)
theorem NT.tupO {M : List Addr} {H : Hp} (n : NT M H) {b c : Addr} {xs : List V} (h : H b = some (TupO c xs)) : b ∉ M := fun hb => by
  unfold TupO at h
  rcases n b hb with ⟨ys, e⟩ | ⟨C, dx, fs, e⟩ <;> (rw [h] at e; cases e)
theorem NT.free {M : List Addr} {H : Hp} (n : NT M H) {b : Addr} (h : H b = none) : b ∉ M := fun hb => by
  rcases n b hb with ⟨ys, e⟩ | ⟨C, dx, fs, e⟩ <;> (rw [h] at e; cases e)
theorem TRow.keep {M : List Addr} {H H' : Hp} (n : NT M H) (k : Kp M H H') {a : Addr} {rows : Rows} (h : TRow H a rows) : TRow H' a rows := by
  obtain ⟨as, h1, h2, h3⟩ := h
  exact ⟨as, k _ _ h1 (n.tupO h1), h2, fun i b r e1 e2 => k _ _ (h3 i b r e1 e2) (n.tup (h3 i b r e1 e2))⟩
def PrAt (H : Hp) (t : Addr) (x : Int × Rows) : Prop := ∃ r, H t = some (.tup [.int x.1, .ref r]) ∧ TRow H r x.2
theorem PrAt.keep {M : List Addr} {H H' : Hp} (n : NT M H) (k : Kp M H H') {t : Addr} {x : Int × Rows} (h : PrAt H t x) : PrAt H' t x := by
  obtain ⟨r, h1, h2⟩ := h
  exact ⟨r, k _ _ h1 (n.tup h1), h2.keep n k⟩
structure LsAt (M : List Addr) (H : Hp) (L : Addr) (lists : List (Int × Rows)) : Prop where
  nl : L ∉ M
  at_ : ∃ ts : List Addr, H L = some (.lst (ts.map V.ref)) ∧ ts.length = lists.length ∧ ∀ (i : Nat) t x, ts[i]? = some t → lists[i]? = some x → PrAt H t x
theorem LsAt.keep {M : List Addr} {H H' : Hp} (n : NT M H) (k : Kp M H H') {L : Addr} {lists : List (Int × Rows)} (h : LsAt M H L lists) : LsAt M H' L lists := by
  obtain ⟨nl, ts, h1, h2, h3⟩ := h
  exact ⟨nl, ts, k _ _ h1 nl, h2, fun i t x e1 e2 => (h3 i t x e1 e2).keep n k⟩
def Good (x : Int × Rows) : Prop := Asc x.2 ∧ x.2.length ≤ 3
def cN (j : Nat) : PySem.Str := PySem.Str.ofString "c" ++ PySem.Str.ofString (toString ((0 : Int) + (j : Int)))
theorem cN_lt : ∀ j, j < 4 → ∀ i, i < j → (cN i).cps.toList < (cN j).cps.toList := by decide +kernel
theorem cN_ok : ∀ j : Nat, j < 4 → (PySem.Str.ofString "c").length + (PySem.Str.ofString (toString ((0 : Int) + (j : Int)))).length ≤ sizeLine := by decide +kernel
theorem num_small : ∀ j : Nat, j < 4 → ((0 : Int) + (j : Int)).natAbs.log2 < 1920 := by decide +kernel
theorem four {j : Nat} {p : Nat → Prop} (h : j < 4) (h0 : p 0) (h1 : p 1) (h2 : p 2) (h3 : p 3) : p j := by
  have : j = 0 ∨ j = 1 ∨ j = 2 ∨ j = 3 := by omega
  rcases this with rfl | rfl | rfl | rfl
  · exact h0
  · exact h1
  · exact h2
  · exact h3
/-- rows by their keys -/
theorem asc_of {rows : Rows} (h : rows.length ≤ 4) (hk : ∀ (i : Nat) r, rows[i]? = some r → r.1 = cN i) : Asc rows := by
  refine List.pairwise_iff_getElem.mpr fun i j hi hj hij => ?_
  rw [hk i _ (List.getElem?_eq_getElem hi), hk j _ (List.getElem?_eq_getElem hj)]
  exact cN_lt j (by omega) i hij
structure IW (K : PySem.W.Frag) (C a d m dr : Addr) (n : Int) (rows : Rows) (H : Hp) : Prop where
  dr_ : Dr K [d, m] d a H
  ma : MastAt C H m dr "m0" n rows
  ne : d ≠ m
section
variable {K : PySem.W.Frag} {C a d m dr : Addr} {n : Int} {rows : Rows} {H H' : Hp}
theorem IW.nt (I : IW K C a d m dr n rows H) : NT [d, m] H := by
  obtain ⟨⟨⟨k, hd⟩, _, _⟩, ⟨⟨dx, hm⟩, _⟩, _⟩ := I
  intro b hb
  simp only [List.mem_cons, List.not_mem_nil, or_false] at hb
  rcases hb with rfl | rfl
  · exact .inl ⟨_, hd⟩
  · exact .inr ⟨_, _, _, hm⟩
theorem IW.nd (I : IW K C a d m dr n rows H) : dr ∉ [d, m] := fun hb => by
  rcases I.nt _ hb with ⟨ys, e⟩ | ⟨C', dx, fs, e⟩ <;> (rw [I.ma.dc] at e; cases e)
theorem IW.draw (I : IW K C a d m dr n rows H) (D : Dr K [d, m] d a H') (k : Kp [d] H H') : IW K C a d m dr n rows H' := by
  obtain ⟨_, ⟨⟨dx, hm⟩, hd⟩, ne⟩ := id I
  exact ⟨D, ⟨⟨dx, k _ _ hm (by simp; exact Ne.symm ne)⟩, k _ _ hd fun z => I.nd (by rw [List.mem_singleton.mp z]; exact List.mem_cons_self)⟩, ne⟩
theorem IW.same (I : IW K C a d m dr n rows H) (s : Same H H') : IW K C a d m dr n rows H' := by
  obtain ⟨D, ⟨⟨dx, hm⟩, hd⟩, ne⟩ := id I
  exact ⟨D.same s, ⟨⟨dx, s _ _ hm⟩, s _ _ hd⟩, ne⟩
theorem IW.step (I : IW K C a d m dr n rows H) {dr' : Addr} {n' : Int} {rows' : Rows} (A : MastAt C H' m dr' "m0" n' rows') (k : Kp [m] H H') : IW K C a d m dr' n' rows' H' := by
  obtain ⟨D, _, ne⟩ := id I
  exact ⟨D.keep (k.mono (by simp)) fun o z => k _ _ z (by simp; exact ne), A, ne⟩
theorem dM : ∀ b ∈ [d], b ∈ [d, m] := by simp
theorem mM : ∀ b ∈ [m], b ∈ [d, m] := by simp
end
def LI (K : PySem.W.Frag) (C a d m L : Addr) (lists : List (Int × Rows)) (_ : Nat) (σ : L2.St) (H : Hp) : Prop := ∃ (n : Int) (rows : Rows) (R dr : Addr) (v6 v7 v8 v9 v10 v11 v12 v13 : Option V),
  σ = [some (.ref a), some (.ref d), some (.ref L), some (.ref m), some (.ref R), some (.int n), v6, v7, v8, v9, v10, v11, v12, v13] ∧ IW K C a d m dr n rows H ∧ TRow H R rows ∧ Asc rows ∧ rows.length ≤ 3 ∧ LsAt [d, m] H L lists
def LI2 (K : PySem.W.Frag) (C a d m L : Addr) (lists : List (Int × Rows)) (i : Nat) (σ : L2.St) (H : Hp) : Prop := ∃ (n : Int) (rows : Rows) (R dr : Addr) (v7 v8 v9 v10 v11 v12 v13 : Option V),
  σ = [some (.ref a), some (.ref d), some (.ref L), some (.ref m), some (.ref R), some (.int n), some (.int (0 + (i : Int))), v7, v8, v9, v10, v11, v12, v13] ∧ IW K C a d m dr n rows H ∧ TRow H R rows ∧ Asc rows ∧ rows.length ≤ 3 ∧ LsAt [d, m] H L lists
theorem look_mem {rows : Rows} (h : Asc rows) {r : PySem.Str × Int} (hr : r ∈ rows) : look rows r.1 = some r.2 := by
  induction rows with
  | nil => cases hr
  | cons x rs ih =>
    have h' : (∀ y ∈ rs, x.1.cps.toList < y.1.cps.toList) ∧ Asc rs := List.pairwise_cons.mp h
    unfold look
    rw [List.find?_cons]
    rcases List.mem_cons.mp hr with e | e
    · rw [e, decide_eq_true rfl]
      rfl
    · have lt := h'.1 r e
      have ne : ¬ x.1 = r.1 := fun z => by rw [z] at lt; exact List.lt_irrefl _ lt
      rw [decide_eq_false ne]
      exact ih h'.2 e
theorem paired_of {K : PySem.W.Frag} {H : Hp} : ∀ {as : List Addr} {rows : Rows}, as.length = rows.length → (∀ (i : Nat) b r, as[i]? = some b → rows[i]? = some r → H b = some (.tup [.str r.1, .int r.2])) → Paired (fun p kv => SqT K H p [kV kv.1, kv.2]) as (kvR rows)
  | [], [], _, _ => .nil
  | a :: as, r :: rs, h, k => .cons (SqT.of (k 0 a r rfl rfl)) (paired_of (Nat.succ.inj h) fun i b y e1 e2 => k (i + 1) b y e1 e2)
  | [], _ :: _, h, _ => nomatch h
  | _ :: _, [], h, _ => nomatch h
/-- the tuples that are told -/
def pdF (n : Int) : PyData := .tuple [.str "frame", .int n, .int 7, .int 0]
def pdT (s c : PySem.Str) (e n : Int) : PyData := .tuple [.str s, .str c, .int e, pdF n]
theorem pdT_shaped {s c : PySem.Str} {e n : Int} (hs : PyData.canLay0 (.str s) = true) (hc : PyData.canLay0 (.str c) = true) : SeqAt.shaped (pdT s c e n) = true := by
  have hf : PyData.canLay0 (.str "frame") = true := by rw [PyData.canLay0]; decide +kernel
  unfold SeqAt.shaped
  rw [Bool.and_eq_true, decide_eq_true_eq]
  unfold pdT pdF
  exact ⟨by simp only [PyData.canLay0, PyData.canLayAll0] at hs hc hf ⊢; simp [hs, hc, hf], by simp [PyData.depth, PyData.depthAll]⟩
theorem pdT_eqv (s c : PySem.Str) (e n : Int) : PyData.eqv (pdT s c e n) (pdT s c e n) = true := by
  unfold pdT pdF
  simp [PyData.eqv, PyData.eqvAll]
theorem cV_ok : ∀ j : Nat, j < 4 → (PySem.Str.ofString "c").length + (PySem.Str.ofString (toString (j : Int))).length ≤ sizeLine := by decide +kernel
theorem cV_small : ∀ j : Nat, j < 4 → ((j : Int)).natAbs.log2 < 1920 := by decide +kernel
theorem cV_lay {j : Nat} (h : j < 4) : PyData.canLay0 (.str (PySem.Str.ofString "c" ++ PySem.Str.ofString (toString (j : Int)))) = true := by
  rw [PyData.canLay0]
  exact four (p := fun j => PyData.strOk (PySem.Str.ofString "c" ++ PySem.Str.ofString (toString (j : Int))) = true) h (by decide +kernel) (by decide +kernel) (by decide +kernel) (by decide +kernel)
theorem via {α : Type} {R G : α → Prop} {g : Prop} (h : (∀ x, R x → G x) → g) (t : ∀ x, R x → G x) : g := h t
structure TxL (K : PySem.W.Frag) (mg : PySem.Str → Option Value) (C : Addr) : Prop extends TxM K mg C where
  len : mg "len" = none
  tuple : mg "tuple" = none
  range : mg "range" = none
  str : mg "str" = none
  dict : mg "dict" = none
section
variable {P : Program} {w : World} {K : PySem.W.Frag} {mg : PySem.Str → Option Value} {base : Heap}
abbrev s_law : Stmt := top 6
theorem sc_law : FnScope ["script", "draw", "lists", "mast", "rows", "number", "turn", "kind", "late", "call", "epoch", "frame", "own", "at"] ["script"] (defScope s_law) := ⟨rfl, rfl, rfl, by decide +kernel, rfl, by decide +kernel, by decide +kernel⟩

def spLaw (K : PySem.W.Frag) : Sp := fun vs H Q _ => ∃ (a : Addr) (ns : List Int), vs = [.ref a] ∧ SqL K H a (ns.map V.int) ∧ ns.length ≤ 63 ∧ ∀ H', Q (.bl true) H'
theorem ok_law {f C : Addr} {fd : FuncData} (F : Fun K "law" "law" s_law f fd) (T : TxL K mg C) (c__law_take : Cal P w K mg base 2 "_law_take" ["draw", "many"] (spTake K)) (c__law_pick : Cal P w K mg base 3 "_law_pick" ["draw", "items"] (spPick K))
    (c_Mast : CalI P w K mg base C 1 "Mast" ["self", "name"] (spMInit C)) (c_Mast_take : CalM P w K mg base C 1 "take" ["self", "number", "rows"] (spMTake C)) (c_Mast_fall : CalM P w K mg base C 1 "fall" ["self"] (spMFall C))
    (c_Mast_lead_up : CalM P w K mg base C 1 "lead_up" ["self", "call", "frame"] (spMUp C)) (c_Mast_lead_down : CalM P w K mg base C 1 "lead_down" ["self", "call", "epoch", "frame"] (spMDown C)) :
    FnOk P w K mg base CX0 5 f fd ["script"] (spLaw K) := by
  refine F.ok sc_law (fun vs H Q E h => ?_) (fun cdv A outer s H vs Q E hr h => ?_)
  · obtain ⟨a, ns, rfl, _⟩ := h
    rfl
  · obtain ⟨a, ns, rfl, hS, hlen, k⟩ := h
    have hu := hu_of hr
    refine ⟨_, (pss_cons (ps_set (i := 1) sc_law.nd rfl (Or.inr rfl) (pe_lst (pa_cons (pv 0) (pa_cons pe_int pa_nil))))
        (pss_cons (ps_setLc (i := 2) (own := [("number", 5)]) (g := gName 5) (tt := tYes) rfl sc_law.nd rfl rfl (sw_true rfl rfl rfl (by decide +kernel)) (pi_range1 (by rfl) T.range (pa_cons pe_int pa_nil)) (blkOk_by (own := [("number", 5)]) (N := ["script", "draw", "lists", "mast", "rows", "number", "turn", "kind", "late", "call", "epoch", "frame", "own", "at"]) (sc := defScope s_law) (by decide +kernel)) (fun _ _ _ _ _ => pg_name (i := 5) sc_law.nd rfl (Or.inl rfl)) (fun _ _ _ _ _ => pts_nil) (fun _ _ _ _ _ => (pe_tup (pa_cons (pe_op op_add (pv 5) pe_int) (pa_cons (pe_tupleOfO (K := K) rfl (by rfl) T.tuple (pe_lc (own := [("at", 13)]) (g := gName 13) (tt := tYes) rfl sc_law.nd (pi_range1 (by rfl) T.range (pa_cons (pe_cal c__law_take (hr.mono (by decide)) rfl (pa_cons (pv 1) (pa_cons pe_int pa_nil))) pa_nil)) (blkOk_by (own := [("at", 13)]) (N := ["script", "draw", "lists", "mast", "rows", "number", "turn", "kind", "late", "call", "epoch", "frame", "own", "at"]) (sc := scIn) (by decide +kernel)) (fun _ _ _ _ _ => pg_name (i := 13) sc_law.nd rfl (Or.inl rfl)) (fun _ _ _ _ _ => pts_nil) (fun _ _ _ _ _ => (pe_tup (pa_cons (pe_op op_add_str pe_str (pe_callTy call_str_int (by rfl) T.str boot_str (pa_cons (pv 13) pa_nil))) (pa_cons (pe_op op_add pe_int (pe_cal c__law_take (hr.mono (by decide)) rfl (pa_cons (pv 1) (pa_cons pe_int pa_nil)))) pa_nil)))))) pa_nil)))))
        (pss_cons (ps_par3 (i := 3) (j := 4) (l := 5) rfl sc_law.nd rfl rfl rfl (by decide) (by decide) (by decide) rfl rfl rfl (pa_cons (pe_calI c_Mast (hr.mono (by decide)) rfl (pa_cons pe_str pa_nil)) (pa_cons (pe_tupO pa_nil) (pa_cons pe_int pa_nil))) (by rfl))
        (pss_cons (ps_for PassesOwn.never rfl (pi_range1 (by rfl) T.range (pa_cons pe_int pa_nil)) (pg_name (i := 6) sc_law.nd rfl (Or.inl rfl))
          (pss_cons (ps_set (i := 7) sc_law.nd rfl (Or.inl rfl) (pe_cal c__law_take (hr.mono (by decide)) rfl (pa_cons (pv 1) (pa_cons pe_int pa_nil))))
          (Evl.pss_cut (ps_if (pt_cmpR op_lt (pv 7) pe_int (nomark _))
            (pss_cons (ps_set (i := 8) sc_law.nd rfl (Or.inl rfl) (pe_cal c__law_pick (hr.mono (by decide)) rfl (pa_cons (pv 1) (pa_cons (pv 2) pa_nil))))
            (pss_cons (ps_expr (pe_calM (pv 3) T.cl c_Mast_take (hr.mono (by decide)) (pa_cons (pe_ix ix_tup (pv 8) pe_int (fun _ _ => rfl)) (pa_cons (pe_ix ix_tup (pv 8) pe_int (fun _ _ => rfl)) pa_nil))))
            (pss_one (ps_if (pt_cmpR op_ge (pe_ix ix_tup (pv 8) pe_int (fun _ _ => rfl)) (pv 5) (nomark _))
              (pss_one (ps_asg (pv 8) (pg_tup rfl (pgs_cons (pg_name (i := 5) sc_law.nd rfl (Or.inl rfl)) (pgs_cons (pg_name (i := 4) sc_law.nd rfl (Or.inl rfl)) pgs_nil)))))
              pss_nil))))
            (pss_one (ps_if (PW.pt (pw_and (pt_cmpR op_eq (pv 7) pe_int (nomark _)) (pw_and1 (pt_cmpR op_eq (pe_cal c__law_take (hr.mono (by decide)) rfl (pa_cons (pv 1) (pa_cons pe_int pa_nil))) pe_int (nomark _)))))
              (pss_cons (ps_expr (pe_calM0 (pv 3) T.cl c_Mast_fall (hr.mono (by decide))))
              (pss_one (ps_set (i := 4) sc_law.nd rfl (Or.inl rfl) (pe_tupO pa_nil))))
              pss_nil)))
          (pss_cons (ps_par3 (i := 9) (j := 10) (l := 11) rfl sc_law.nd rfl rfl rfl (by decide) (by decide) (by decide) rfl rfl rfl (pa_cons (pe_op op_add_str pe_str (pe_callTy call_str_int (by rfl) T.str boot_str (pa_cons (pe_cal c__law_take (hr.mono (by decide)) rfl (pa_cons (pv 1) (pa_cons pe_int pa_nil))) pa_nil))) (pa_cons (pe_op op_add pe_int (pe_cal c__law_take (hr.mono (by decide)) rfl (pa_cons (pv 1) (pa_cons pe_int pa_nil)))) (pa_cons (pe_tup (pa_cons pe_str (pa_cons (pv 6) (pa_cons pe_int (pa_cons pe_int pa_nil))))) pa_nil))) (by rfl))
          (pss_cons (ps_set (i := 12) sc_law.nd rfl (Or.inl rfl) (pe_dget1 hu (pe_callTy (call_dictO rfl) (by rfl) T.dict boot_dict (pa_cons (pv 4) pa_nil)) (pv 9) ⟨by rfl, by rfl, by rfl, by rfl⟩))
          (pss_cons (ps_if (pt_cmpR (op_neD hr.units) (pe_calM (pv 3) T.cl c_Mast_lead_up (hr.mono (by decide)) (pa_cons (pv 9) (pa_cons (pv 11) pa_nil))) (pe_ifExp (pt_cmpR op_notN (pv 12) pe_non (nomark _)) (pe_tup (pa_cons pe_str (pa_cons (pv 9) (pa_cons (pv 12) (pa_cons (pv 11) pa_nil))))) pe_non) (nomark _))
            (pss_one (ps_ret pe_bl))
            pss_nil)
          (pss_cons (ps_if (pt_cmpR (op_neD hr.units) (pe_calM (pv 3) T.cl c_Mast_lead_down (hr.mono (by decide)) (pa_cons (pv 9) (pa_cons (pv 10) (pa_cons (pv 11) pa_nil)))) (pe_ifExp (pt_cmpR op_eq (pv 12) (pv 10) (nomark _)) (pe_tup (pa_cons pe_str (pa_cons (pv 9) (pa_cons (pv 10) (pa_cons (pv 11) pa_nil))))) pe_non) (nomark _))
            (pss_one (ps_ret pe_bl))
            pss_nil)
          (pss_one (ps_if (PW.pt (pw_or (pt_cmpR op_ne (pe_fld (pv 3) rfl) (pv 5) (nomark _)) (pw_or (pt_cmpR (op_ne_dictA (Nat.lt_of_succ_lt hu)) (pe_fld (pv 3) rfl) (pe_callTy (call_dictO rfl) (by rfl) T.dict boot_dict (pa_cons (pv 4) pa_nil)) (nomark _)) (pw_or1 (pt_cmpR op_ne (pe_fld (pv 3) rfl) pe_str (nomark _))))))
            (pss_one (ps_ret pe_bl))
            pss_nil)))))))))
        (pss_one (ps_ret pe_bl)))))), ?_⟩
    -- draw = [script, 0]
    refine ⟨_, rfl, (by show 2 ≤ sizeLine; decide), fun d hd => ?_⟩
    have D0 : Dr K [d] d a (upd H d (.lst [.ref a, .int 0])) := Dr.mk' hS hlen hd
    generalize upd H d (.lst [.ref a, .int 0]) = H0 at D0 ⊢
    have nt : ∀ {M H}, Dr K M d a H → NT [d] H := fun D b hb => by
      obtain ⟨k, e⟩ := D.at_
      rw [List.mem_singleton.mp hb]
      exact .inl ⟨_, e⟩
    have dne : ∀ {M H p}, Dr K M d a H → H p = none → d ≠ p := fun D hp => by
      obtain ⟨k, e⟩ := D.at_
      exact ne_of_none e hp
    -- lists = [..]
    refine ⟨6, rfl, by decide, by decide, fun L hL => ?_⟩
    have hdL := dne D0 hL
    refine lc_range (lo := 0) (n := 6) (fun i H' => ∃ (ts : List Addr) (lists : List (Int × Rows)), ts.length = i ∧ lists.length = i ∧ Dr K [L, d] d a H' ∧ H' L = some (.lst (ts.map V.ref)) ∧ (∀ (j : Nat) t x, ts[j]? = some t → lists[j]? = some x → PrAt H' t x) ∧ ∀ x ∈ lists, Good x)
      ⟨[], [], rfl, rfl, (D0.grow hL).new hL, upd_same, fun j t x e => by simp at e, fun x hx => by simp at hx⟩ ?_ ?_
    · rintro i H1 hi ⟨ts, lists, hlt, hll, D1, hd1, hts, hgood⟩
      refine ⟨rfl, _, rfl, _, _, rfl, rfl, _, rfl, [L, d], d, a, 4, rfl, D1, by decide, fun kk H2 hk0 hk1 D2 k2 => ⟨kk, rfl, by omega, by omega, fun D' hD' => ?_⟩⟩
      have hd2 := k2 _ _ hd1 (by simp; exact Ne.symm hdL)
      have hts2 : ∀ (j : Nat) t x, ts[j]? = some t → lists[j]? = some x → PrAt H2 t x := fun j t x e1 e2 => (hts j t x e1 e2).keep (nt D1) k2
      have hdD := dne D2 hD'
      refine lc_range (lo := 0) (n := kk.toNat) (fun j H' => ∃ (as : List Addr) (rows : Rows), as.length = j ∧ rows.length = j ∧ Dr K [D', L, d] d a H' ∧ Kp [d] H2 H' ∧ H' D' = some (.lst (as.map V.ref)) ∧ (∀ (q : Nat) b r, as[q]? = some b → rows[q]? = some r → H' b = some (.tup [.str r.1, .int r.2])) ∧ ∀ (q : Nat) r, rows[q]? = some r → r.1 = cN q)
        ⟨[], [], rfl, rfl, (D2.grow hD').new hD', Kp.new hD', upd_same, fun q b r e => by simp at e, fun q r e => by simp at e⟩ ?_ ?_
      · rintro j H3 hj ⟨as, rows, hla, hlr, D3, k3, hd3, hat, hkey⟩
        have hj4 : j < 4 := by omega
        refine ⟨rfl, _, rfl, (0 : Int) + (j : Int), rfl, num_small j hj4, _, _, rfl, rfl, cN_ok j hj4, _, rfl, [D', L, d], d, a, 9, rfl, D3, by decide, fun e H4 _ _ D4 k4 => ⟨_, _, rfl, rfl, (by show 2 ≤ sizeLine; decide), fun b hb => ?_⟩⟩
        have hd4 := k4 _ _ hd3 (by simp; exact Ne.symm hdD)
        have nbD : D' ≠ b := ne_of_none hd4 hb
        have hat4 : ∀ (q : Nat) c r, as[q]? = some c → rows[q]? = some r → H4 c = some (.tup [.str r.1, .int r.2]) := fun q c r e1 e2 => k4 _ _ (hat q c r e1 e2) ((nt D3).tup (hat q c r e1 e2))
        refine ⟨as.map V.ref, by rw [upd_ne nbD]; exact hd4, small1000 (by rw [List.length_map]; omega), as ++ [b], rows ++ [(cN j, 1 + e)], by rw [List.length_append, hla]; rfl, by rw [List.length_append, hlr]; rfl, ?_, fun x o z nx => ?_, by rw [upd_same, List.map_append]; rfl, fun q c r e1 e2 => ?_, fun q r e2 => ?_⟩
        · exact (D4.new hb).keep (Kp.at (by simp)) fun o z => by rw [upd_ne hdD]; exact z
        · have z4 := k4 _ _ (k3 _ _ z nx) nx
          rw [upd_ne (ne_of_none z hD'), upd_ne (ne_of_none z4 hb)]
          exact z4
        · by_cases hq : q < as.length
          · rw [List.getElem?_append_left hq] at e1
            rw [List.getElem?_append_left (by omega)] at e2
            have z := hat4 q c r e1 e2
            rw [upd_ne (ne_of z hd4 (by intro w; cases w)), upd_ne (ne_of_none z hb)]
            exact z
          · have eq' : q = as.length := by
              have := (List.getElem?_eq_some_iff.mp e1).1
              rw [List.length_append] at this
              simp at this
              omega
            subst eq'
            rw [List.getElem?_append_right (Nat.le_refl _), Nat.sub_self] at e1
            rw [List.getElem?_append_right (by omega)] at e2
            have e0 : as.length - rows.length = 0 := by omega
            rw [e0] at e2
            cases Option.some.inj e1
            cases Option.some.inj e2
            rw [upd_ne nbD.symm, upd_same]
            rfl
        · by_cases hq : q < rows.length
          · rw [List.getElem?_append_left hq] at e2
            exact hkey q r e2
          · have eq' : q = rows.length := by
              have := (List.getElem?_eq_some_iff.mp e2).1
              rw [List.length_append] at this
              simp at this
              omega
            subst eq'
            rw [List.getElem?_append_right (Nat.le_refl _), Nat.sub_self] at e2
            cases Option.some.inj e2
            rw [hlr]
      · rintro H3 ⟨as, rows, hla, hlr, D3, k3, hd3, hat, hkey⟩
        refine ⟨D', _, rfl, SqL.of hd3, fun r hr => ⟨(by show 2 ≤ sizeLine; decide), fun t ht => ?_⟩⟩
        have hd3L := k3 _ _ hd2 (by simp; exact Ne.symm hdL)
        have ntr : r ≠ t := ne_of_none upd_same ht
        have ht3 : H3 t = none := by rw [upd_ne ntr.symm] at ht; exact ht
        have nLr : L ≠ r := ne_of_none hd3L hr
        have nLt : L ≠ t := ne_of_none hd3L ht3
        have s5 : Same H3 (upd (upd H3 r (TupO r (as.map V.ref))) t (.tup [.int (0 + (i : Int) + 1), .ref r])) := fun x o z => by rw [upd_ne (ne_of_none z ht3), upd_ne (ne_of_none z hr)]; exact z
        refine ⟨ts.map V.ref, s5 _ _ hd3L, small1000 (by rw [List.length_map]; omega), ts ++ [t], lists ++ [(0 + (i : Int) + 1, rows)], by rw [List.length_append, hlt]; rfl, by rw [List.length_append, hll]; rfl, ?_, by rw [upd_same, List.map_append]; rfl, fun q c x e1 e2 => ?_, fun x hx => ?_⟩
        · have D5 := (D3.same s5).sub (N := [L, d]) (by simp) (by simp)
          exact D5.keep (Kp.at (by simp)) fun o z => by rw [upd_ne hdL]; exact z
        · have st : ∀ {c : Addr} {x : Int × Rows}, PrAt H3 c x → PrAt (upd (upd (upd H3 r (TupO r (as.map V.ref))) t (.tup [.int (0 + (i : Int) + 1), .ref r])) L (.lst (ts.map V.ref ++ [.ref t]))) c x := fun {c x} z => by
            have z5 := z.keep (M := []) (fun b hb => (nomatch hb)) (Kp.same s5)
            refine z5.keep (M := [L]) (fun b hb => ?_) (Kp.at (by simp))
            rw [List.mem_singleton.mp hb]
            exact .inl ⟨_, s5 _ _ hd3L⟩
          by_cases hq : q < ts.length
          · rw [List.getElem?_append_left hq] at e1
            rw [List.getElem?_append_left (by omega)] at e2
            exact st ((hts2 q c x e1 e2).keep (nt D2) k3)
          · have eq' : q = ts.length := by
              have := (List.getElem?_eq_some_iff.mp e1).1
              rw [List.length_append] at this
              simp at this
              omega
            subst eq'
            rw [List.getElem?_append_right (Nat.le_refl _), Nat.sub_self] at e1
            rw [List.getElem?_append_right (by omega)] at e2
            have e0 : ts.length - lists.length = 0 := by omega
            rw [e0] at e2
            cases Option.some.inj e1
            cases Option.some.inj e2
            refine ⟨r, by rw [upd_ne nLt.symm, upd_same], as, ?_, by rw [hla, hlr], fun q b y f1 f2 => ?_⟩
            · rw [upd_ne nLr.symm, upd_ne ntr, upd_same]
            · have z := hat q b y f1 f2
              rw [upd_ne (ne_of z hd3L (by intro w; cases w)), upd_ne (ne_of_none z ht3), upd_ne (ne_of_none z hr)]
              exact z
        · rcases List.mem_append.mp hx with h | h
          · exact hgood x h
          · rw [List.mem_singleton.mp h]
            exact ⟨asc_of (by show rows.length ≤ 4; omega) hkey, by show rows.length ≤ 3; omega⟩
    · rintro H1 ⟨ts, lists, hlt, hll, D1, hd1, hts, hgood⟩
      have D1' : Dr K [d] d a H1 := D1.sub (by simp) (by simp)
      clear D1 D0
      -- mast, rows, number = Mast("m0"), (), 0
      intro m dx hm hdx hne
      refine ⟨m, dx, _, rfl, upd_same, fun dr H2 hdr A2 k2 => ⟨rfl, ?_⟩⟩
      refine ⟨Nat.zero_le _, fun R hR => ⟨_, _, _, rfl, ?_⟩⟩
      have g1 : Same H1 (upd (upd H1 dx (.own m)) m (.ins C dx [])) := fun b o z => by rw [upd_ne (ne_of_none z hm), upd_ne (ne_of_none z hdx)]; exact z
      have s2 : Same H1 H2 := fun b o z => k2 b o (g1 b o z) fun y => ne_of_none z hm (List.mem_singleton.mp y)
      have s3 : Same H2 (upd H2 R (TupO R [])) := fun b o z => by rw [upd_ne (ne_of_none z hR)]; exact z
      have hdm := dne D1' hm
      have I3 : IW K C a d m dr 0 [] (upd H2 R (TupO R [])) := by
        obtain ⟨⟨dxx, a1⟩, a2⟩ := A2
        exact ⟨((D1'.grow hm).sub (by simp) (by simp)).same (s2.trans s3), ⟨⟨dxx, s3 _ _ a1⟩, s3 _ _ a2⟩, hdm⟩
      have R3 : TRow (upd H2 R (TupO R [])) R [] := ⟨[], upd_same, rfl, fun i b r e => by simp at e⟩
      have Ls3 : LsAt [d, m] (upd H2 R (TupO R [])) L lists := by
        have hLm : L ≠ m := ne_of_none hd1 hm
        refine ⟨by simp; exact ⟨Ne.symm hdL, hLm⟩, ts, s3 _ _ (s2 _ _ hd1), by rw [hlt, hll], fun i t x e1 e2 => ?_⟩
        exact (hts i t x e1 e2).keep (M := []) (fun b hb => (nomatch hb)) (Kp.same (s2.trans s3))
      generalize upd H2 R (TupO R []) = H3 at I3 R3 Ls3 ⊢
      clear s2 s3 g1 k2 A2 hts D1' hd1 hR
      -- for turn in range(25)
      refine ⟨25, rfl, by decide, by decide, for_range (lo := 0) (n := 25) (LI K C a d m L lists) ⟨0, [], R, dr, _, _, _, _, _, _, _, _, rfl, I3, R3, List.Pairwise.nil, Nat.zero_le _, Ls3⟩ ?_ ?_⟩
      · clear I3 R3 Ls3 H3
        rintro i σ H3 hi ⟨n, rows, R, dr, v6, v7, v8, v9, v10, v11, v12, v13, rfl, I, TR, asc, hr3, Ls⟩
        refine ⟨_, rfl, [d, m], d, a, 6, rfl, I.dr_, by decide, fun kd H4 hk0 hk1 D4 k4 => ?_⟩
        have I4 := I.draw D4 k4
        have kM := k4.mono (dM (m := m))
        have TR4 := TR.keep I.nt kM
        have Ls4 := Ls.keep I.nt kM
        refine ⟨LI2 K C a d m L lists i, ?_, ?_⟩
        · refine ⟨_, rfl, _, _, rfl, rfl, _, rfl, ?_⟩
          refine ite2 (fun _ => ?_) (fun _ => ?_)
          · -- late = _law_pick(draw, lists); mast.take(..)
            obtain ⟨nL, ts', hL', hl', hts'⟩ := id Ls4
            refine ⟨_, rfl, _, rfl, [d, m], d, a, L, ts'.map V.ref, rfl, I4.dr_, by rw [List.length_map]; omega, fun H' k' => .inl (SqL.of (k' _ _ hL' fun z => nL (dM _ z))), fun j x H5 hx D5 k5 => ?_⟩
            have I5 := I4.draw D5 k5
            have kM5 := k5.mono (dM (m := m))
            have TR5 := TR4.keep I4.nt kM5
            have Ls5 := Ls4.keep I4.nt kM5
            rw [List.getElem?_map] at hx
            cases et : ts'[j]? with
            | none => rw [et] at hx; cases hx
            | some t =>
              rw [et] at hx
              cases Option.some.inj hx
              have hj : j < lists.length := by rw [← hl']; exact (List.getElem?_eq_some_iff.mp et).1
              have ex : lists[j]? = some lists[j] := List.getElem?_eq_getElem hj
              have hg := hgood _ (List.getElem_mem hj)
              have hp5 := (hts' j t _ et ex).keep I4.nt kM5
              generalize lists[j] = x at ex hg hp5
              obtain ⟨num, rows'⟩ := x
              obtain ⟨r, ht5, tr5⟩ := hp5
              obtain ⟨⟨dxm, hm5⟩, _⟩ := id I5.ma
              refine ⟨_, rfl, m, dxm, _, rfl, hm5, rfl, _, rfl, t, _, 0, .int num, rfl, rfl, SqT.of ht5, rfl, _, rfl, t, _, 1, .ref r, rfl, rfl, SqT.of ht5, rfl, m, dr, r, _, n, num, rows, rows', rfl, I5.ma, tr5, hg.1, Nat.le_trans hg.2 (by decide), fun dr' H6 A6 k6 => ?_⟩
              have I6 := I5.step A6 k6
              have kM6 := k6.mono (mM (d := d))
              have TR6 := TR5.keep I5.nt kM6
              have Ls6 := Ls5.keep I5.nt kM6
              have tr6 := tr5.keep I5.nt kM6
              have ht6 := kM6 _ _ ht5 (I5.nt.tup ht5)
              refine ⟨_, rfl, t, _, 0, .int num, rfl, rfl, SqT.of ht6, rfl, _, rfl, _, _, rfl, rfl, _, rfl, ?_⟩
              refine ite2 (fun h => ?_) (fun h => ?_)
              · have h : ¬ num < n := by have := of_decide_eq_true h; omega
                rw [if_neg h, if_neg h] at I6
                exact ⟨_, rfl, t, _, rfl, SqT.of ht6, rfl, _, _, rfl, _, _, rfl, rfl, num, rows', r, dr', _, _, _, _, _, _, _, rfl, I6, tr6, hg.1, hg.2, Ls6⟩
              · have h : num < n := by
                  have h' : ¬ n ≤ num := fun z => h (decide_eq_true z)
                  omega
                rw [if_pos h, if_pos h] at I6
                exact ⟨n, rows, R, dr', _, _, _, _, _, _, _, rfl, I6, TR6, asc, hr3, Ls6⟩
          · -- elif kind == 3 and ..
            refine' via (R := fun H' => IW K C a d m dr n rows H' ∧ TRow H' R rows ∧ LsAt [d, m] H' L lists) (fun tail => ?_) ?_
            rotate_left 1
            · refine ⟨_, rfl, rfl, _, rfl, ?_⟩
              refine ite2 (fun _ => ?_) (fun _ => ?_)
              · refine ⟨_, rfl, [d, m], d, a, 2, rfl, I4.dr_, by decide, fun wd H5 _ _ D5 k5 => ?_⟩
                have I5 := I4.draw D5 k5
                have kM5 := k5.mono (dM (m := m))
                have TR5 := TR4.keep I4.nt kM5
                have Ls5 := Ls4.keep I4.nt kM5
                refine ⟨rfl, _, rfl, ?_⟩
                refine ite2 (fun _ => ?_) (fun _ => ?_)
                · obtain ⟨⟨dxm, hm5⟩, _⟩ := id I5.ma
                  refine ⟨_, rfl, m, dxm, _, rfl, hm5, rfl, m, dr, _, n, rows, rfl, I5.ma, fun dr' H6 A6 k6 => ?_⟩
                  have I6 := I5.step A6 k6
                  have Ls6 := Ls5.keep I5.nt (k6.mono (mM (d := d)))
                  refine ⟨Nat.zero_le _, fun R' hR' => ?_⟩
                  have s7 : Same H6 (upd H6 R' (TupO R' [])) := fun b o z => by rw [upd_ne (ne_of_none z hR')]; exact z
                  exact ⟨n, [], R', dr', _, _, _, _, _, _, _, rfl, I6.same s7, ⟨[], upd_same, rfl, fun i b r e => by simp at e⟩, List.Pairwise.nil, Nat.zero_le _, Ls6.keep I6.nt (Kp.same s7)⟩
                · exact tail H5 ⟨I5, TR5, Ls5⟩
              · exact tail H4 ⟨I4, TR4, Ls4⟩
            · rintro H5 ⟨I5, TR5, Ls5⟩
              exact ⟨n, rows, R, dr, _, _, _, _, _, _, _, rfl, I5, TR5, asc, hr3, Ls5⟩
        · clear I4 TR4 Ls4 D4 k4 kM H4 I TR Ls H3 asc hr3
          rintro σ H3 ⟨n, rows, R, dr, v7, v8, v9, v10, v11, v12, v13, rfl, I, TR, asc, hr3, Ls⟩
          -- call, epoch, frame = ..
          refine ⟨_, rfl, [d, m], d, a, 4, rfl, I.dr_, by decide, fun v H4 hv0 hv1 D4 k4 => ?_⟩
          obtain ⟨j, rfl⟩ : ∃ j : Nat, v = (j : Int) := ⟨v.toNat, by omega⟩
          have hj4 : j < 4 := by omega
          have I4 := I.draw D4 k4
          have kM4 := k4.mono (dM (m := m))
          have TR4 := TR.keep I.nt kM4
          have Ls4 := Ls.keep I.nt kM4
          refine ⟨(j : Int), rfl, cV_small j hj4, _, _, rfl, rfl, cV_ok j hj4, ?_⟩
          have hlay := cV_lay hj4
          generalize PySem.Str.ofString "c" ++ PySem.Str.ofString (toString (j : Int)) = c at hlay ⊢
          refine ⟨_, rfl, [d, m], d, a, 9, rfl, I4.dr_, by decide, fun ev H5 _ _ D5 k5 => ⟨_, _, rfl, rfl, ?_⟩⟩
          have I5 := I4.draw D5 k5
          have kM5 := k5.mono (dM (m := m))
          have TR5 := TR4.keep I4.nt kM5
          have Ls5 := Ls4.keep I4.nt kM5
          refine ⟨_, rfl, (by show 4 ≤ sizeLine; decide), fun fr hfr => ⟨_, _, _, rfl, ?_⟩⟩
          have s6 : Same H5 (upd H5 fr (.tup [.str "frame", .int (0 + (i : Int)), .int 7, .int 0])) := fun b o z => by rw [upd_ne (ne_of_none z hfr)]; exact z
          have hfr6 : (upd H5 fr (.tup [.str "frame", .int (0 + (i : Int)), .int 7, .int 0])) fr = some (.tup [.str "frame", .int (0 + (i : Int)), .int 7, .int 0]) := upd_same
          have I6 := I5.same s6
          have TR6 := TR5.keep I5.nt (Kp.same s6)
          have Ls6 := Ls5.keep I5.nt (Kp.same s6)
          generalize upd H5 fr (.tup [.str "frame", .int (0 + (i : Int)), .int 7, .int 0]) = H6 at I6 TR6 Ls6 hfr6 ⊢
          clear I I4 I5 TR TR4 TR5 Ls Ls4 Ls5 D4 D5 k4 k5 kM4 kM5 s6 hfr
          -- own = dict(rows).get(call)
          obtain ⟨as, ha6, hla, hat6⟩ := id TR6
          refine ⟨_, rfl, R, as, kvR rows, rfl, ha6, paired_of hla hat6, fun p hp => ?_⟩
          rw [merge_kvR asc]
          have s7 : Same H6 (upd H6 p (.dK (kvR rows))) := fun b o z => by rw [upd_ne (ne_of_none z hp)]; exact z
          have hp7 : (upd H6 p (.dK (kvR rows))) p = some (.dK (kvR rows)) := upd_same
          have I7 := I6.same s7
          have TR7 := TR6.keep I6.nt (Kp.same s7)
          have Ls7 := Ls6.keep I6.nt (Kp.same s7)
          have hfr7 := s7 _ _ hfr6
          generalize upd H6 p (.dK (kvR rows)) = H7 at s7 hp7 I7 TR7 Ls7 hfr7 ⊢
          refine ⟨p, rfl, .inl ⟨_, .inl hp7⟩, _, rfl, _, DGet.k (k := Sum.inr c) hp7, ?_⟩
          rw [look_val]
          clear I6 TR6 Ls6 hfr6 s7 hp7 hp ha6 hat6 hla
          have hov : ∀ ov, ov = (((look rows c).map V.int).getD .non : V) → (look rows c = none → ov = .non) ∧ ∀ e, look rows c = some e → ov = .int e := fun ov z => by
            subst z
            exact ⟨fun h => by rw [h]; rfl, fun e h => by rw [h]; rfl⟩
          have hov := hov _ rfl
          generalize (((look rows c).map V.int).getD .non : V) = ov at hov ⊢
          obtain ⟨hov1, hov2⟩ := hov
          -- if mast.lead_up(..) != ..
          refine' via (R := fun H' => Same H7 H') (fun tail => ?_) ?_
          rotate_left 1
          · obtain ⟨⟨dxm, hm7⟩, _⟩ := id I7.ma
            refine ⟨_, rfl, m, dxm, _, rfl, hm7, rfl, _, rfl, _, rfl, m, dr, fr, _, c, n, rows, rfl, I7.ma, fun hl => ?_, fun e hl p hp => ?_⟩
            · have ho := hov1 hl
              refine ⟨_, rfl, rfl, _, rfl, ?_⟩
              refine ite2 (fun h => absurd h (by rw [ho, decide_eq_true rfl]; decide)) (fun _ => ?_)
              refine ⟨.none, .none, .non, .non, rfl, rfl, _, rfl, ?_⟩
              refine ite2 (fun h => absurd h (by rw [PyData.eqv]; decide)) (fun _ => ?_)
              exact tail _ (Same.refl _)
            · have ho := hov2 e hl
              have s8 : Same H7 (upd H7 p (.tup [.str "up", .str c, .int e, .ref fr])) := fun b o z => by rw [upd_ne (ne_of_none z hp)]; exact z
              refine ⟨_, rfl, rfl, _, rfl, ?_⟩
              refine ite2 (fun _ => ?_) (fun h => absurd (by rw [ho]; rfl) h)
              refine ⟨_, rfl, _, rfl, _, rfl, (by show 4 ≤ sizeLine; decide), fun q hq => ?_⟩
              have npq : p ≠ q := ne_of_none upd_same hq
              have s9 : Same H7 (upd (upd H7 p (.tup [.str "up", .str c, .int e, .ref fr])) q (.tup [.str "up", .str c, ov, .ref fr])) := fun b o z => by rw [upd_ne (ne_of_none (s8 _ _ z) hq)]; exact s8 _ _ z
              have hF := s9 _ _ hfr7
              have dF : Dp K (upd (upd H7 p (.tup [.str "up", .str c, .int e, .ref fr])) q (.tup [.str "up", .str c, ov, .ref fr])) (.ref fr) (pdF (0 + (i : Int))) := .tup (SqT.of hF) (.cons (.str _) (.cons (.int _) (.cons (.int _) (.cons (.int _) .nil))))
              have hu1 : PyData.canLay0 (.str "up") = true := by rw [PyData.canLay0]; decide +kernel
              refine ⟨pdT "up" c e (0 + (i : Int)), pdT "up" c e (0 + (i : Int)), .tup (SqT.of (by rw [upd_ne npq]; exact upd_same)) (.cons (.str _) (.cons (.str _) (.cons (.int _) (.cons dF .nil)))), ?_, pdT_shaped hu1 hlay, pdT_shaped hu1 hlay, _, rfl, ?_⟩
              · refine .tup (xs := [.str "up", .str c, .int e, .ref fr]) (SqT.of (by rw [upd_same, ho])) (.cons (.str _) (.cons (.str _) (.cons (.int _) (.cons dF .nil))))
              · refine ite2 (fun h => absurd h (by rw [pdT_eqv]; decide)) (fun _ => ?_)
                exact tail _ s9
          · intro H8 s8
            have I8 := I7.same s8
            have TR8 := TR7.keep I7.nt (Kp.same s8)
            have Ls8 := Ls7.keep I7.nt (Kp.same s8)
            have hfr8 := s8 _ _ hfr7
            clear I7 TR7 Ls7 hfr7
            -- if mast.lead_down(..) != ..
            refine' via (R := fun H' => Same H8 H') (fun tail => ?_) ?_
            rotate_left 1
            · obtain ⟨⟨dxm, hm8⟩, _⟩ := id I8.ma
              refine ⟨_, rfl, m, dxm, _, rfl, hm8, rfl, _, rfl, _, rfl, _, rfl, m, dr, fr, _, c, n, _, rows, rfl, I8.ma, fun hl => ?_, fun hl p hp => ?_⟩
              · have ho : ¬ ov = .int (1 + ev) := fun z => by
                  cases hlo : look rows c with
                  | none => rw [hov1 hlo] at z; cases z
                  | some e => rw [hov2 e hlo] at z; exact hl (by rw [hlo, V.int.inj z])
                have hsc : scal ov (.int (1 + ev)) = true := by
                  cases hlo : look rows c with
                  | none => rw [hov1 hlo]; rfl
                  | some e => rw [hov2 e hlo]; rfl
                refine ⟨_, rfl, _, rfl, hsc, _, rfl, ?_⟩
                refine ite2 (fun h => absurd (of_decide_eq_true h) ho) (fun _ => ?_)
                refine ⟨.none, .none, .non, .non, rfl, rfl, _, rfl, ?_⟩
                refine ite2 (fun h => absurd h (by rw [PyData.eqv]; decide)) (fun _ => ?_)
                exact tail _ (Same.refl _)
              · have ho := hov2 _ hl
                have s9 : Same H8 (upd H8 p (.tup [.str "air", .str c, .int (1 + ev), .ref fr])) := fun b o z => by rw [upd_ne (ne_of_none z hp)]; exact z
                refine ⟨_, rfl, _, rfl, by rw [ho]; rfl, _, rfl, ?_⟩
                refine ite2 (fun _ => ?_) (fun h => absurd (decide_eq_true ho) h)
                refine ⟨_, rfl, _, rfl, _, rfl, (by show 4 ≤ sizeLine; decide), fun q hq => ?_⟩
                have npq : p ≠ q := ne_of_none upd_same hq
                have s10 : Same H8 (upd (upd H8 p (.tup [.str "air", .str c, .int (1 + ev), .ref fr])) q (.tup [.str "air", .str c, .int (1 + ev), .ref fr])) := fun b o z => by rw [upd_ne (ne_of_none (s9 _ _ z) hq)]; exact s9 _ _ z
                have hF := s10 _ _ hfr8
                have dF : Dp K (upd (upd H8 p (.tup [.str "air", .str c, .int (1 + ev), .ref fr])) q (.tup [.str "air", .str c, .int (1 + ev), .ref fr])) (.ref fr) (pdF (0 + (i : Int))) := .tup (SqT.of hF) (.cons (.str _) (.cons (.int _) (.cons (.int _) (.cons (.int _) .nil))))
                have hu1 : PyData.canLay0 (.str "air") = true := by rw [PyData.canLay0]; decide +kernel
                refine ⟨pdT "air" c (1 + ev) (0 + (i : Int)), pdT "air" c (1 + ev) (0 + (i : Int)), .tup (SqT.of (by rw [upd_ne npq]; exact upd_same)) (.cons (.str _) (.cons (.str _) (.cons (.int _) (.cons dF .nil)))), .tup (SqT.of upd_same) (.cons (.str _) (.cons (.str _) (.cons (.int _) (.cons dF .nil)))), pdT_shaped hu1 hlay, pdT_shaped hu1 hlay, _, rfl, ?_⟩
                refine ite2 (fun h => absurd h (by rw [pdT_eqv]; decide)) (fun _ => ?_)
                exact tail _ s10
            · intro H9 s9
              have I9 := I8.same s9
              have TR9 := TR8.keep I8.nt (Kp.same s9)
              have Ls9 := Ls8.keep I8.nt (Kp.same s9)
              clear I8 TR8 Ls8 hfr8
              obtain ⟨⟨dxm, hm9⟩, hd9⟩ := id I9.ma
              obtain ⟨as, ha9, hla, hat9⟩ := id TR9
              refine ⟨_, rfl, m, C, dxm, _, _, rfl, hm9, T.cl, T.nU, rfl, _, rfl, rfl, _, rfl, ?_⟩
              refine ite2 (fun h => absurd h (by rw [decide_eq_true rfl]; decide)) (fun _ => ?_)
              refine ⟨_, rfl, m, C, dxm, _, _, rfl, hm9, T.cl, T.nR, rfl, _, rfl, R, as, kvR rows, rfl, ha9, paired_of hla hat9, fun p hp => ?_⟩
              rw [merge_kvR asc]
              have s10 : Same H9 (upd H9 p (.dK (kvR rows))) := fun b o z => by rw [upd_ne (ne_of_none z hp)]; exact z
              refine ⟨dr, p, kvR rows, kvR rows, rfl, rfl, s10 _ _ hd9, upd_same, rfl, fun q hq => ?_, _, rfl, ?_⟩
              · obtain ⟨r, hr', rfl⟩ := List.mem_map.mp hq
                exact ⟨by show valV (kvR rows) (Sum.inr r.1) = some (V.int r.2); rw [look_val, look_mem asc hr']; rfl, rfl⟩
              refine ite2 (fun h => absurd h (by decide)) (fun _ => ?_)
              refine ⟨_, rfl, m, C, dxm, _, _, rfl, s10 _ _ hm9, T.cl, T.nN, rfl, rfl, _, rfl, ?_⟩
              refine ite2 (fun h => absurd h (by rw [decide_eq_true rfl]; decide)) (fun _ => ?_)
              exact ⟨n, rows, R, dr, _, _, _, _, _, _, _, _, rfl, I9.same s10, TR9.keep I9.nt (Kp.same s10), asc, hr3, Ls9.keep I9.nt (Kp.same s10)⟩
      · rintro σ H4 ⟨n, rows, R, dr, v6, v7, v8, v9, v10, v11, v12, v13, rfl, I, _⟩
        exact k _
end
end Mc
namespace Mc
open PySem L2 PySem.Spec PyProof.Rows
theorem all_mk {l : PySem.W.OpenLaw} {w : World} {K : PySem.W.Frag} {h : Heap} {mg : PySem.Str → Option Value} {fa : Addr} (X : K.In h) (G : h.Ns mainGlobals mg) (hfa : mg "law" = some (.ref fa))
    {C : Addr}
    {f_Mast_init : Addr} {od_Mast_init an_Mast_init : Option Addr} {sl_Mast_init : Array (Option Value)} {oc_Mast_init kV_Mast_init dc_Mast_init pm_Mast_init cd_Mast_init ct_Mast_init : Value}
    {f_Mast_take : Addr} {od_Mast_take an_Mast_take : Option Addr} {sl_Mast_take : Array (Option Value)} {oc_Mast_take kV_Mast_take dc_Mast_take pm_Mast_take cd_Mast_take ct_Mast_take : Value}
    {f_Mast_fall : Addr} {od_Mast_fall an_Mast_fall : Option Addr} {sl_Mast_fall : Array (Option Value)} {oc_Mast_fall kV_Mast_fall dc_Mast_fall pm_Mast_fall cd_Mast_fall ct_Mast_fall : Value}
    {f_Mast_lead_up : Addr} {od_Mast_lead_up an_Mast_lead_up : Option Addr} {sl_Mast_lead_up : Array (Option Value)} {oc_Mast_lead_up kV_Mast_lead_up dc_Mast_lead_up pm_Mast_lead_up cd_Mast_lead_up ct_Mast_lead_up : Value}
    {f_Mast_lead_down : Addr} {od_Mast_lead_down an_Mast_lead_down : Option Addr} {sl_Mast_lead_down : Array (Option Value)} {oc_Mast_lead_down kV_Mast_lead_down dc_Mast_lead_down pm_Mast_lead_down cd_Mast_lead_down ct_Mast_lead_down : Value}
    {f_law_number : Addr} {od_law_number an_law_number : Option Addr} {sl_law_number : Array (Option Value)} {oc_law_number kV_law_number dc_law_number pm_law_number cd_law_number ct_law_number : Value}
    {f_law_take : Addr} {od_law_take an_law_take : Option Addr} {sl_law_take : Array (Option Value)} {oc_law_take kV_law_take dc_law_take pm_law_take cd_law_take ct_law_take : Value}
    {f_law_pick : Addr} {od_law_pick an_law_pick : Option Addr} {sl_law_pick : Array (Option Value)} {oc_law_pick kV_law_pick dc_law_pick pm_law_pick cd_law_pick ct_law_pick : Value}
    {f_law : Addr} {od_law an_law : Option Addr} {sl_law : Array (Option Value)} {oc_law kV_law dc_law pm_law cd_law ct_law : Value}
    (a_Mast : PySem.W.nsIn K mainGlobals "Mast" = some (some (.ref C)))
    (a_Mast_init : PySem.W.findIn K (.ref C) "__init__" = some (some (.ref f_Mast_init)))
    (i_Mast_init : PySem.W.isFn K (.ref f_Mast_init) = true)
    (l_Mast_init : K.lookup f_Mast_init = some ⟨oc_Mast_init, od_Mast_init, .func (PySem.W.fnOf "__init__" "Mast.__init__" (defArgs sMInit) (defBody sMInit) (defScope sMInit) .none kV_Mast_init dc_Mast_init pm_Mast_init an_Mast_init cd_Mast_init ct_Mast_init), sl_Mast_init⟩)
    (c_Mast_init : PySem.W.codeIn K cd_Mast_init "Mast.__init__" = true)
    (k_Mast_init : PySem.W.keepIn K (.ref f_Mast_init) = true)
    (a_Mast_take : PySem.W.findIn K (.ref C) "take" = some (some (.ref f_Mast_take)))
    (i_Mast_take : PySem.W.isFn K (.ref f_Mast_take) = true)
    (l_Mast_take : K.lookup f_Mast_take = some ⟨oc_Mast_take, od_Mast_take, .func (PySem.W.fnOf "take" "Mast.take" (defArgs sMTake) (defBody sMTake) (defScope sMTake) .none kV_Mast_take dc_Mast_take pm_Mast_take an_Mast_take cd_Mast_take ct_Mast_take), sl_Mast_take⟩)
    (c_Mast_take : PySem.W.codeIn K cd_Mast_take "Mast.take" = true)
    (k_Mast_take : PySem.W.keepIn K (.ref f_Mast_take) = true)
    (a_Mast_fall : PySem.W.findIn K (.ref C) "fall" = some (some (.ref f_Mast_fall)))
    (i_Mast_fall : PySem.W.isFn K (.ref f_Mast_fall) = true)
    (l_Mast_fall : K.lookup f_Mast_fall = some ⟨oc_Mast_fall, od_Mast_fall, .func (PySem.W.fnOf "fall" "Mast.fall" (defArgs sMFall) (defBody sMFall) (defScope sMFall) .none kV_Mast_fall dc_Mast_fall pm_Mast_fall an_Mast_fall cd_Mast_fall ct_Mast_fall), sl_Mast_fall⟩)
    (c_Mast_fall : PySem.W.codeIn K cd_Mast_fall "Mast.fall" = true)
    (k_Mast_fall : PySem.W.keepIn K (.ref f_Mast_fall) = true)
    (a_Mast_lead_up : PySem.W.findIn K (.ref C) "lead_up" = some (some (.ref f_Mast_lead_up)))
    (i_Mast_lead_up : PySem.W.isFn K (.ref f_Mast_lead_up) = true)
    (l_Mast_lead_up : K.lookup f_Mast_lead_up = some ⟨oc_Mast_lead_up, od_Mast_lead_up, .func (PySem.W.fnOf "lead_up" "Mast.lead_up" (defArgs sMUp) (defBody sMUp) (defScope sMUp) .none kV_Mast_lead_up dc_Mast_lead_up pm_Mast_lead_up an_Mast_lead_up cd_Mast_lead_up ct_Mast_lead_up), sl_Mast_lead_up⟩)
    (c_Mast_lead_up : PySem.W.codeIn K cd_Mast_lead_up "Mast.lead_up" = true)
    (k_Mast_lead_up : PySem.W.keepIn K (.ref f_Mast_lead_up) = true)
    (a_Mast_lead_down : PySem.W.findIn K (.ref C) "lead_down" = some (some (.ref f_Mast_lead_down)))
    (i_Mast_lead_down : PySem.W.isFn K (.ref f_Mast_lead_down) = true)
    (l_Mast_lead_down : K.lookup f_Mast_lead_down = some ⟨oc_Mast_lead_down, od_Mast_lead_down, .func (PySem.W.fnOf "lead_down" "Mast.lead_down" (defArgs sMDown) (defBody sMDown) (defScope sMDown) .none kV_Mast_lead_down dc_Mast_lead_down pm_Mast_lead_down an_Mast_lead_down cd_Mast_lead_down ct_Mast_lead_down), sl_Mast_lead_down⟩)
    (c_Mast_lead_down : PySem.W.codeIn K cd_Mast_lead_down "Mast.lead_down" = true)
    (k_Mast_lead_down : PySem.W.keepIn K (.ref f_Mast_lead_down) = true)
    (pg_Mast : PySem.W.plainGet K C PySem.Str.empty = true)
    (hd_Mast : PySem.W.hasDictIn K C = true)
    (po_Mast : PySem.W.plainOver K C = true)
    (sa_Mast : PySem.W.findIn K (.ref C) "__setattr__" = some (some (.builtin "object.__setattr__")))
    (mk_Mast : PySem.W.makesIn K C = true)
    (kc_Mast : PySem.W.keepIn K (.ref C) = true)
    (na_Mast_name : PySem.W.findIn K (.ref C) "name" = some none)
    (na_Mast_number : PySem.W.findIn K (.ref C) "number" = some none)
    (na_Mast_rows : PySem.W.findIn K (.ref C) "rows" = some none)
    (a_law_number : PySem.W.nsIn K mainGlobals "_law_number" = some (some (.ref f_law_number)))
    (l_law_number : K.lookup f_law_number = some ⟨oc_law_number, od_law_number, .func (PySem.W.fnOf "_law_number" "_law_number" (defArgs sNum) (defBody sNum) (defScope sNum) .none kV_law_number dc_law_number pm_law_number an_law_number cd_law_number ct_law_number), sl_law_number⟩)
    (c_law_number : PySem.W.codeIn K cd_law_number "_law_number" = true)
    (k_law_number : PySem.W.keepIn K (.ref f_law_number) = true)
    (a_law_take : PySem.W.nsIn K mainGlobals "_law_take" = some (some (.ref f_law_take)))
    (l_law_take : K.lookup f_law_take = some ⟨oc_law_take, od_law_take, .func (PySem.W.fnOf "_law_take" "_law_take" (defArgs sTake) (defBody sTake) (defScope sTake) .none kV_law_take dc_law_take pm_law_take an_law_take cd_law_take ct_law_take), sl_law_take⟩)
    (c_law_take : PySem.W.codeIn K cd_law_take "_law_take" = true)
    (k_law_take : PySem.W.keepIn K (.ref f_law_take) = true)
    (a_law_pick : PySem.W.nsIn K mainGlobals "_law_pick" = some (some (.ref f_law_pick)))
    (l_law_pick : K.lookup f_law_pick = some ⟨oc_law_pick, od_law_pick, .func (PySem.W.fnOf "_law_pick" "_law_pick" (defArgs sPick) (defBody sPick) (defScope sPick) .none kV_law_pick dc_law_pick pm_law_pick an_law_pick cd_law_pick ct_law_pick), sl_law_pick⟩)
    (c_law_pick : PySem.W.codeIn K cd_law_pick "_law_pick" = true)
    (k_law_pick : PySem.W.keepIn K (.ref f_law_pick) = true)
    (a_law : PySem.W.nsIn K mainGlobals "law" = some (some (.ref f_law)))
    (l_law : K.lookup f_law = some ⟨oc_law, od_law, .func (PySem.W.fnOf "law" "law" (defArgs s_law) (defBody s_law) (defScope s_law) .none kV_law dc_law pm_law an_law cd_law ct_law), sl_law⟩)
    (c_law : PySem.W.codeIn K cd_law "law" = true)
    (k_law : PySem.W.keepIn K (.ref f_law) = true)
    (z_len : PySem.W.nsIn K mainGlobals "len" = some none)
    (z_int : PySem.W.nsIn K mainGlobals "int" = some none)
    (z_abs : PySem.W.nsIn K mainGlobals "abs" = some none)
    (z_sorted : PySem.W.nsIn K mainGlobals "sorted" = some none)
    (z_tuple : PySem.W.nsIn K mainGlobals "tuple" = some none)
    (z_range : PySem.W.nsIn K mainGlobals "range" = some none)
    (z_str : PySem.W.nsIn K mainGlobals "str" = some none)
    (z_dict : PySem.W.nsIn K mainGlobals "dict" = some none) :
    ∃ fd : FuncData, (∀ (s : Shared) (v : Value), BindsTo s fd ⟨[v], []⟩ [("script", v)]) ∧ ∀ base : Heap, K.In base → base.Ns mainGlobals mg → FnOk l.prog w K mg base CX0 5 fa fd ["script"] (spLaw K) := by
  have e := hfa.symm.trans (PySem.W.mg_of X G a_law)
  cases e
  have F_Mast_init := fun_mk (st := sMInit) l_Mast_init c_Mast_init k_Mast_init
  have b_Mast_init := F_Mast_init.binds (ps := ["self", "name"]) fun _ _ _ _ _ _ us hl => match us, hl with | [_, _], _ => rfl
  have F_Mast_take := fun_mk (st := sMTake) l_Mast_take c_Mast_take k_Mast_take
  have b_Mast_take := F_Mast_take.binds (ps := ["self", "number", "rows"]) fun _ _ _ _ _ _ us hl => match us, hl with | [_, _, _], _ => rfl
  have M_Mast_take : Meth K C "take" f_Mast_take := ⟨a_Mast_take, i_Mast_take, k_Mast_take⟩
  have F_Mast_fall := fun_mk (st := sMFall) l_Mast_fall c_Mast_fall k_Mast_fall
  have b_Mast_fall := F_Mast_fall.binds (ps := ["self"]) fun _ _ _ _ _ _ us hl => match us, hl with | [_], _ => rfl
  have M_Mast_fall : Meth K C "fall" f_Mast_fall := ⟨a_Mast_fall, i_Mast_fall, k_Mast_fall⟩
  have F_Mast_lead_up := fun_mk (st := sMUp) l_Mast_lead_up c_Mast_lead_up k_Mast_lead_up
  have b_Mast_lead_up := F_Mast_lead_up.binds (ps := ["self", "call", "frame"]) fun _ _ _ _ _ _ us hl => match us, hl with | [_, _, _], _ => rfl
  have M_Mast_lead_up : Meth K C "lead_up" f_Mast_lead_up := ⟨a_Mast_lead_up, i_Mast_lead_up, k_Mast_lead_up⟩
  have F_Mast_lead_down := fun_mk (st := sMDown) l_Mast_lead_down c_Mast_lead_down k_Mast_lead_down
  have b_Mast_lead_down := F_Mast_lead_down.binds (ps := ["self", "call", "epoch", "frame"]) fun _ _ _ _ _ _ us hl => match us, hl with | [_, _, _, _], _ => rfl
  have M_Mast_lead_down : Meth K C "lead_down" f_Mast_lead_down := ⟨a_Mast_lead_down, i_Mast_lead_down, k_Mast_lead_down⟩
  have cls_Mast : Cls K C := ⟨pg_Mast, hd_Mast, po_Mast, sa_Mast⟩
  have g_Mast := PySem.W.mg_of X G a_Mast
  have Mk_Mast : Mk K C f_Mast_init := ⟨mk_Mast, a_Mast_init, i_Mast_init, kc_Mast⟩
  have F_law_number := fun_mk (st := sNum) l_law_number c_law_number k_law_number
  have b_law_number := F_law_number.binds (ps := ["script", "index"]) fun _ _ _ _ _ _ us hl => match us, hl with | [_, _], _ => rfl
  have g_law_number := PySem.W.mg_of X G a_law_number
  have F_law_take := fun_mk (st := sTake) l_law_take c_law_take k_law_take
  have b_law_take := F_law_take.binds (ps := ["draw", "many"]) fun _ _ _ _ _ _ us hl => match us, hl with | [_, _], _ => rfl
  have g_law_take := PySem.W.mg_of X G a_law_take
  have F_law_pick := fun_mk (st := sPick) l_law_pick c_law_pick k_law_pick
  have b_law_pick := F_law_pick.binds (ps := ["draw", "items"]) fun _ _ _ _ _ _ us hl => match us, hl with | [_, _], _ => rfl
  have g_law_pick := PySem.W.mg_of X G a_law_pick
  have F_law := fun_mk (st := s_law) l_law c_law k_law
  have n_len := PySem.W.mg_none_of X G z_len
  have n_int := PySem.W.mg_none_of X G z_int
  have n_abs := PySem.W.mg_none_of X G z_abs
  have n_sorted := PySem.W.mg_none_of X G z_sorted
  have n_tuple := PySem.W.mg_none_of X G z_tuple
  have n_range := PySem.W.mg_none_of X G z_range
  have n_str := PySem.W.mg_none_of X G z_str
  have n_dict := PySem.W.mg_none_of X G z_dict
  refine ⟨PySem.W.fnOf "law" "law" (defArgs s_law) (defBody s_law) (defScope s_law) .none kV_law dc_law pm_law an_law cd_law ct_law, fun s v => .of_eq rfl, fun base _ _ => ?_⟩
  have TD : TxD K mg f_law_number f_law_take := ⟨n_len, n_int, n_abs, g_law_number, g_law_take⟩
  have TM : TxM K mg C := ⟨cls_Mast, na_Mast_name, na_Mast_number, na_Mast_rows, g_Mast, n_sorted⟩
  exact ok_law F_law ⟨TM, n_len, n_tuple, n_range, n_str, n_dict⟩ ⟨_, _, g_law_take, F_law_take.kp, b_law_take, ok_take F_law_take TD F_law_number b_law_number⟩ ⟨_, _, g_law_pick, F_law_pick.kp, b_law_pick, ok_pick F_law_pick TD F_law_number b_law_number F_law_take b_law_take⟩ ⟨_, _, g_Mast, Mk_Mast, b_Mast_init, ok_minit F_Mast_init TM⟩
    ⟨_, _, M_Mast_take, b_Mast_take, ok_mtake F_Mast_take TM⟩ ⟨_, _, M_Mast_fall, b_Mast_fall, ok_mfall F_Mast_fall TM⟩ ⟨_, _, M_Mast_lead_up, b_Mast_lead_up, ok_mup F_Mast_lead_up TM⟩ ⟨_, _, M_Mast_lead_down, b_Mast_lead_down, ok_mdown F_Mast_lead_down TM⟩
theorem walk {l : PySem.W.OpenLaw} {q : Program} {loose : List PySem.Str} {XP : (PySem.Str → Option Value) → Heap → Prop} {YP : World → Heap → Prop} {d : DefRec} {K : Params → PySem.W.Frag} (hn : l.most = some 63) (hdf : d.params.defaults = [])
    (hY : ∀ (w : World) (h : Heap), YP w h → (K w.params).In h)
    (F : ∀ (w : World) (mg : PySem.Str → Option Value) (fa : Addr) (h : Heap), (K w.params).In h → h.Ns mainGlobals mg → mg d.name = some (.ref fa) →
      ∃ fd : FuncData, (∀ (s : Shared) (u : Value), BindsTo s fd ⟨[u], []⟩ [("script", u)]) ∧ ∀ base : Heap, (K w.params).In base → base.Ns mainGlobals mg → FnOk l.prog w (K w.params) mg base CX0 5 fa fd ["script"] (spLaw (K w.params))) :
    PySem.W.WalkO q loose XP YP l.row.toRowW d [] (fun f vs => PySem.call f vs) :=
  L2.walk_of (n := 63) (k := 5) (x := "script") (CX := fun _ => CX0) (sp := fun w => spLaw (K w.params)) hn (by decide) hdf ⟨rfl, by decide, by decide⟩ hY F (fun _ _ a ns hl _ hS => ⟨a, ns, rfl, hS, hl, fun _ => rfl⟩) fun _ _ _ _ _ z => z
end Mc
open PySem PySem.W PyProof.Rows
set_option maxRecDepth 100000 in
set_option maxHeartbeats 0 in
theorem PySem.Challenge.cw_mastcalls_k13_whole_lists_holds : PySem.Challenge.rw_mastcalls_k13_whole_lists.Holds := by
  w_on; o_law; k_head; (case hw => w_witness2)
  k_fill
  refine Mc.walk (l := PySem.Challenge.rw_mastcalls_k13_whole_lists) rfl rfl (fun w h Y => PySem.W.kIn_of Y) ?F
  case F =>
    intro w mg fa h KX G hmg
    refine' Mc.all_mk KX G hmg ?a_Mast ?a_Mast_init ?i_Mast_init ?l_Mast_init ?c_Mast_init ?k_Mast_init ?a_Mast_take ?i_Mast_take ?l_Mast_take ?c_Mast_take ?k_Mast_take ?a_Mast_fall ?i_Mast_fall ?l_Mast_fall ?c_Mast_fall ?k_Mast_fall ?a_Mast_lead_up ?i_Mast_lead_up ?l_Mast_lead_up ?c_Mast_lead_up ?k_Mast_lead_up ?a_Mast_lead_down ?i_Mast_lead_down ?l_Mast_lead_down ?c_Mast_lead_down ?k_Mast_lead_down ?pg_Mast ?hd_Mast ?po_Mast ?sa_Mast ?mk_Mast ?kc_Mast ?na_Mast_name ?na_Mast_number ?na_Mast_rows ?a_law_number ?l_law_number ?c_law_number ?k_law_number ?a_law_take ?l_law_take ?c_law_take ?k_law_take ?a_law_pick ?l_law_pick ?c_law_pick ?k_law_pick ?a_law ?l_law ?c_law ?k_law ?z_len ?z_int ?z_abs ?z_sorted ?z_tuple ?z_range ?z_str ?z_dict
    (case a_Mast => k_is)
    (case a_Mast_init => k_is)
    (case i_Mast_init => k_is)
    (case l_Mast_init => k_is)
    (case c_Mast_init => k_is)
    (case k_Mast_init => k_is)
    (case a_Mast_take => k_is)
    (case i_Mast_take => k_is)
    (case l_Mast_take => k_is)
    (case c_Mast_take => k_is)
    (case k_Mast_take => k_is)
    (case a_Mast_fall => k_is)
    (case i_Mast_fall => k_is)
    (case l_Mast_fall => k_is)
    (case c_Mast_fall => k_is)
    (case k_Mast_fall => k_is)
    (case a_Mast_lead_up => k_is)
    (case i_Mast_lead_up => k_is)
    (case l_Mast_lead_up => k_is)
    (case c_Mast_lead_up => k_is)
    (case k_Mast_lead_up => k_is)
    (case a_Mast_lead_down => k_is)
    (case i_Mast_lead_down => k_is)
    (case l_Mast_lead_down => k_is)
    (case c_Mast_lead_down => k_is)
    (case k_Mast_lead_down => k_is)
    (case pg_Mast => k_is)
    (case hd_Mast => k_is)
    (case po_Mast => k_is)
    (case sa_Mast => k_is)
    (case mk_Mast => k_is)
    (case kc_Mast => k_is)
    (case na_Mast_name => k_is)
    (case na_Mast_number => k_is)
    (case na_Mast_rows => k_is)
    (case a_law_number => k_is)
    (case l_law_number => k_is)
    (case c_law_number => k_is)
    (case k_law_number => k_is)
    (case a_law_take => k_is)
    (case l_law_take => k_is)
    (case c_law_take => k_is)
    (case k_law_take => k_is)
    (case a_law_pick => k_is)
    (case l_law_pick => k_is)
    (case c_law_pick => k_is)
    (case k_law_pick => k_is)
    (case a_law => k_is)
    (case l_law => k_is)
    (case c_law => k_is)
    (case k_law => k_is)
    (case z_len => k_is)
    (case z_int => k_is)
    (case z_abs => k_is)
    (case z_sorted => k_is)
    (case z_tuple => k_is)
    (case z_range => k_is)
    (case z_str => k_is)
    (case z_dict => k_is)
#print axioms PySem.Challenge.cw_mastcalls_k13_whole_lists_holds
