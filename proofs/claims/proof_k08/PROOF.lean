import PyProof.Rows.All
import Wide.All
import OpenK.AllK
import Wide.FinOn
import HandS.ForMost
import HandS.Style
import HandS.Conv
import HandS.DictComp
import HandS.Evl
import HandS.SortRule
import KE.KDictPairs
import HandS.SetKeys
import HandS.Walk
import HandS.IsInst
import KE.SortKeyHeap
import HandS.FromBytesMap
import HandS.SortKw
import KE.DataCmp
import HandS.SetFor
import HandS.More
import HandS.Set
import HandS.ListItems
import KE.KDictList
import HandS.OwnEq
import PyProof.CallType
import PyProof.Walk
import PyProof.WalkLemmas
import PyProof.RulesTry
import PyProof.CodeObj
import PyProof.MakeMany
import KE.KItemsList
import PyProof.Rows.SortShell
import HandS.Zip
import HandS.ExcInit
import HandS.ExcField
import KE.KExcInit
import HandS.WordsExc
import HandS.TupAny
import HandS.Deep
import KE.DatumOrd
import HandS.DeepEq
import HandS.DictEq
import HandS.Iter
import HandS.Nested
import KE.KNestM
import HandS.EndTab
import PySem.Challenge.RW_mastcalls_k08_whole_falls
set_option Elab.async false
set_option maxRecDepth 100000
set_option maxHeartbeats 4000000
namespace Mc
open PySem L2 PySem.Spec PyProof.Rows
/-! rules that the layer lacks -/
theorem get_list {X : Cx} : PGet X (rIxL X.K) := by
  intro pins s σ H o i ov iv Q I ro ri h
  obtain ⟨p, xs, k, v, rfl, rfl, hs, hv, q⟩ := h
  cases ro
  obtain ⟨t, rfl⟩ := ri
  obtain ⟨its, r, pl, hz⟩ := I.list hs
  obtain ⟨j, h1, h2, h3, h4, h5⟩ := atI_get hv
  obtain ⟨w, ew, rw'⟩ := r.get h2
  have hl := r.length
  have hn := line63
  have fin : EP X pins σ Q w s := ⟨v, H, I, rw', q⟩
  by_cases h0 : 0 ≤ k
  · have hj : k.toNat = j := by
      rw [seqIndex_of h0 h5] at h1
      exact Option.some.inj h1
    exact wpAny_getItem_list pl.isList h0 (by omega) (by rw [hj]; simpa using ew) fin
  · have hj : (k + (its.toArray.size : Int)).toNat = j := by
      rw [seqIndex_neg (by omega) h4] at h1
      rw [List.size_toArray, ← hl]
      exact Option.some.inj h1
    exact wpAny_getItem_list_neg pl.isList (by omega) (by rw [List.size_toArray] <;> omega) (by omega) (by rw [hj]; simpa using ew) fin

/-! ### a heap that is kept but for some objects -/
def Kp (M : List Addr) (H H' : Hp) : Prop := ∀ b o, H b = some o → b ∉ M → H' b = some o
theorem Kp.refl (M : List Addr) (H : Hp) : Kp M H H := fun _ _ h _ => h
theorem Kp.trans {M : List Addr} {H H1 H2 : Hp} (a : Kp M H H1) (b : Kp M H1 H2) : Kp M H H2 := fun c o h n => b c o (a c o h n) n
theorem Kp.mono {M N : List Addr} {H H' : Hp} (k : Kp M H H') (h : ∀ b ∈ M, b ∈ N) : Kp N H H' := fun b o e n => k b o e fun z => n (h b z)
theorem Kp.new {M : List Addr} {p : Addr} {H : Hp} {o : HO} (h : H p = none) : Kp M H (upd H p o) := fun b u e _ => by
  rw [upd_ne (ne_of_none e h)]
  exact e
theorem Kp.at {M : List Addr} {d : Addr} {H : Hp} {o : HO} (h : d ∈ M) : Kp M H (upd H d o) := fun b u e n => by
  rw [upd_ne fun z => n (by rw [z]; exact h)]
  exact e
theorem Kp.same {M : List Addr} {H H' : Hp} (h : Same H H') : Kp M H H' := fun b o e _ => h b o e
/-- nothing tracked is lost -/
def Lv (H H' : Hp) : Prop := ∀ b, H' b = none → H b = none
theorem Kp.live {M : List Addr} {H H' : Hp} (k : Kp M H H') (h : ∀ d ∈ M, ∃ o, H' d = some o) {p : Addr} (e : H' p = none) : H p = none := by
  cases q : H p with
  | none => rfl
  | some u =>
    by_cases n : p ∈ M
    · obtain ⟨o, z⟩ := h p n
      rw [z] at e; cases e
    · rw [k p u q n] at e; cases e
/-- what was not there may be changed freely -/
theorem Kp.drop {M : List Addr} {p : Addr} {H H' : Hp} (k : Kp (p :: M) H H') (h : H p = none) : Kp M H H' := fun b o e n => k b o e fun z => by
  rcases List.mem_cons.mp z with rfl | z
  · rw [h] at e; cases e
  · exact n z

/-- the draw stands at d: the script, and how many were drawn; M: all that may be changed -/
structure Dr (K : PySem.W.Frag) (M : List Addr) (d a : Addr) (H : Hp) : Prop where
  at_ : ∃ k : Int, H d = some (.lst [.ref a, .int k])
  mem : d ∈ M
  sc : ∃ ns : List Int, ns.length ≤ 63 ∧ ∀ H', Kp M H H' → SqL K H' a (ns.map V.int)
section
variable {K : PySem.W.Frag} {M : List Addr} {d a : Addr} {H H' : Hp}
theorem Dr.keep (D : Dr K M d a H) (k : Kp M H H') (e : ∀ o, H d = some o → H' d = some o) : Dr K M d a H' := by
  obtain ⟨⟨k0, h⟩, m, ns, hl, hs⟩ := D
  exact ⟨⟨k0, e _ h⟩, m, ns, hl, fun H2 k2 => hs H2 (k.trans k2)⟩
theorem Dr.same (D : Dr K M d a H) (k : Same H H') : Dr K M d a H' := D.keep (Kp.same k) fun o h => k _ o h
theorem Dr.new {p : Addr} {o : HO} (D : Dr K M d a H) (h : H p = none) : Dr K M d a (upd H p o) := D.same fun b u e => by rw [upd_ne (ne_of_none e h)]; exact e
theorem Dr.next (D : Dr K M d a H) (k : Kp M H H') {j : Int} (h : H' d = some (.lst [.ref a, .int j])) : Dr K M d a H' := by
  obtain ⟨_, m, ns, hl, hs⟩ := D
  exact ⟨⟨j, h⟩, m, ns, hl, fun H2 k2 => hs H2 (k.trans k2)⟩
/-- one more object may be changed, that was not there -/
theorem Dr.grow {p : Addr} (D : Dr K M d a H) (h : H p = none) : Dr K (p :: M) d a H := by
  obtain ⟨k0, m, ns, hl, hs⟩ := D
  exact ⟨k0, List.mem_cons_of_mem _ m, ns, hl, fun H2 k2 => hs H2 (k2.drop h)⟩
/-- fewer may be changed -/
theorem Dr.sub {N : List Addr} (D : Dr K M d a H) (h : ∀ b ∈ N, b ∈ M) (hd : d ∈ N) : Dr K N d a H := by
  obtain ⟨k0, _, ns, hl, hs⟩ := D
  exact ⟨k0, hd, ns, hl, fun H2 k2 => hs H2 (k2.mono h)⟩
/-- a draw made of the script -/
theorem Dr.mk' {ns : List Int} {j : Int} (hs : SqL K H a (ns.map V.int)) (hl : ns.length ≤ 63) (hd : H d = none) : Dr K [d] d a (upd H d (.lst [.ref a, .int j])) := by
  refine ⟨⟨j, upd_same⟩, List.mem_singleton.mpr rfl, ns, hl, fun H' k => ?_⟩
  have ne : ∀ {o}, H a = some o → a ∉ [d] := fun h z => ne_of_none h hd (List.mem_singleton.mp z)
  rcases hs with (h | ⟨o, h⟩) | h
  · exact .inl (.inl (k a _ (by rw [upd_ne (ne_of_none h hd)]; exact h) (ne h)))
  · exact .inl (.inr ⟨o, k a _ (by rw [upd_ne (ne_of_none h hd)]; exact h) (ne h)⟩)
  · exact .inr h
end

theorem rel_int {i : Int} {t : Tok} : RelV (.int i) (.int i t) := ⟨t, rfl⟩
theorem rel_str {x : PySem.Str} {t : Tok} : RelV (.str x) (.str x t) := ⟨t, rfl⟩
/-! ### rules for a comprehension's block: K by its name -/
section
variable {X : Cx} {K : PySem.W.Frag} {e : Expr} {f : PySem.Str} {pos : Pos} {ta : TE}
theorem pe_fldK (h : X.K = K) (he : PE X e ta) (hb : attributeBase e f X.env (eval e X.env) = eval e X.env) : PE X (.Attribute e f pos) (tFld K ta f) := by
  subst h
  exact pe_fld he hb
theorem ix_listK (h : X.K = K) : IxR X (rIxL K) := by
  subst h
  exact ix_list
theorem ix_tupK (h : X.K = K) : IxR X (rIxT K) := by
  subst h
  exact ix_tup
theorem sl_listK (h : X.K = K) : SlR X (rSlL K) := by
  subst h
  exact sl_list
theorem call_len_seqK (h : X.K = K) : CallR X (.builtin "len") (fun xs H Q => ∃ p ys, xs = [.ref p] ∧ (SqL K H p ys ∨ SqT K H p ys) ∧ Q (.int ys.length) H) := by
  subst h
  exact call_len_seq
theorem op_eqDK (h : X.K = K) (hu : X.A.units + 64 < cLine) : OpR X (compareOp .Eq) (rEqD K) := by
  subst h
  exact op_eqD hu
theorem op_neDK (h : X.K = K) (hu : X.A.units + 64 < cLine) : OpR X (compareOp .NotEq) (rNeD K) := by
  subst h
  exact op_neD hu
theorem pe_tupleOfK (h : X.K = K) {a : Expr} {p pos : Pos} (hg : Gl X "tuple") (hm : X.mg "tuple" = none) (ha : PE X a ta) (na : starEach [a] X.env = (false, eval a X.env) :: starEach [] X.env := by rfl) :
    PE X (.Call (.Name "tuple" p) [a] [] pos) (tThen ta (kTup K)) := by
  subst h
  exact pe_tupleOf hg hm ha na
end
/-! ### defs, methods, classes: what a caller needs -/
/-- a def of the module keeps its promise -/
def Cal (P : Program) (w : World) (K : PySem.W.Frag) (mg : PySem.Str → Option Value) (base : Heap) (k : Nat) (x : PySem.Str) (ps : List PySem.Str) (sp : Sp) : Prop :=
  ∃ (f : Addr) (fd : FuncData), mg x = some (.ref f) ∧ PySem.W.keepIn K (.ref f) = true ∧ Binds K fd ps [] ∧ FnOk P w K mg base CX0 k f fd ps sp
/-- a method of the class at C -/
def CalM (P : Program) (w : World) (K : PySem.W.Frag) (mg : PySem.Str → Option Value) (base : Heap) (C : Addr) (k : Nat) (m : PySem.Str) (ps : List PySem.Str) (sp : Sp) : Prop :=
  ∃ (f : Addr) (fd : FuncData), Meth K C m f ∧ Binds K fd ps [] ∧ FnOk P w K mg base CX0 k f fd ps sp
/-- the class of that name, made by its __init__ -/
def CalI (P : Program) (w : World) (K : PySem.W.Frag) (mg : PySem.Str → Option Value) (base : Heap) (C : Addr) (k : Nat) (x : PySem.Str) (ps : List PySem.Str) (sp : Sp) : Prop :=
  ∃ (f : Addr) (fd : FuncData), mg x = some (.ref C) ∧ Mk K C f ∧ Binds K fd ps [] ∧ FnOk P w K mg base CX0 k f fd ps sp
section
variable {X : Cx} {k : Nat} {x m : PySem.Str} {ps : List PySem.Str} {sp : Sp} {C : Addr} {p pos apos : Pos} {e o : Expr} {es : List Expr} {t : TA} {ta : TE}
theorem pe_cal (c : Cal X.prog X.w X.K X.mg X.base k x ps sp) (hr : Room k X.A) (hg : Gl X x) (ha : PA X (e :: es) t) (hdb : (x == ("__debug__" : PySem.Str)) = false := by decide)
    (he : starEach (e :: es) X.env = (false, eval e X.env) :: starEach es X.env := by rfl) (hpl : (backTo pos (starEach es X.env)).any (·.1) = false := by rfl) : PE X (.Call (.Name x p) (e :: es) [] pos) (tCall sp [] E0 t) := by
  obtain ⟨f, fd, hm, hk, hb, F⟩ := c
  exact pe_call F hr hg hm hk hb .nil pass0 ha hdb he hpl
theorem pe_cal0 (c : Cal X.prog X.w X.K X.mg X.base k x ps sp) (hr : Room k X.A) (hg : Gl X x) (hdb : (x == ("__debug__" : PySem.Str)) = false := by decide) : PE X (.Call (.Name x p) [] [] pos) (tCall sp [] E0 tNil) := by
  obtain ⟨f, fd, hm, hk, hb, F⟩ := c
  exact pe_call0 F hr hg hm hk hb .nil pass0 hdb
theorem pe_calM {pl : Sem Bool} (he : PE X o ta) (cl : Cls X.K C) (c : CalM X.prog X.w X.K X.mg X.base C k m ps sp) (hr : Room k X.A) (ha : PA X (e :: es) t)
    (hst : starEach (e :: es) X.env = (false, eval e X.env) :: starEach es X.env := by rfl) (hpl : (backTo pos (starEach es X.env)).any (·.1) = false := by rfl)
    (ht : eval (.Call (.Attribute o m apos) (e :: es) [] pos) X.env = (do
      let ov ← eval o X.env
      standAt apos.atName
      let (f, first) ← holding [ov] (getMethod ov m pl)
      callWith pos f first (backTo pos (starEach (e :: es) X.env)) (backToKw pos (keywordEach [] X.env))) := by rfl) :
    PE X (.Call (.Attribute o m apos) (e :: es) [] pos) (tMeth C m sp [] E0 ta t) := by
  obtain ⟨f, fd, hm, hb, F⟩ := c
  exact pe_meth he cl hm F hr hb .nil pass0 ha hst hpl ht
theorem pe_calM0 {pl : Sem Bool} (he : PE X o ta) (cl : Cls X.K C) (c : CalM X.prog X.w X.K X.mg X.base C k m ps sp) (hr : Room k X.A)
    (ht : eval (.Call (.Attribute o m apos) [] [] pos) X.env = (do
      let ov ← eval o X.env
      standAt apos.atName
      let (f, first) ← holding [ov] (getMethod ov m pl)
      callWith pos f first (backTo pos (starEach [] X.env)) (backToKw pos (keywordEach [] X.env))) := by rfl) :
    PE X (.Call (.Attribute o m apos) [] [] pos) (tMeth C m sp [] E0 ta tNil) := by
  obtain ⟨f, fd, hm, hb, F⟩ := c
  exact pe_meth0 he cl hm F hr hb .nil pass0 ht
theorem pe_calI (c : CalI X.prog X.w X.K X.mg X.base C k x ps sp) (hr : Room (k + 1) X.A) (hg : Gl X x) (ha : PA X (e :: es) t) (hdb : (x == ("__debug__" : PySem.Str)) = false := by decide)
    (he : starEach (e :: es) X.env = (false, eval e X.env) :: starEach es X.env := by rfl) (hpl : (backTo pos (starEach es X.env)).any (·.1) = false := by rfl) : PE X (.Call (.Name x p) (e :: es) [] pos) (tMake C sp [] E0 t) := by
  obtain ⟨f, fd, hm, M, hb, F⟩ := c
  exact pe_make M F hr hg hm hb .nil pass0 ha hdb he hpl
theorem pe_calI0 (c : CalI X.prog X.w X.K X.mg X.base C k x ps sp) (hr : Room (k + 1) X.A) (hg : Gl X x) (hdb : (x == ("__debug__" : PySem.Str)) = false := by decide) : PE X (.Call (.Name x p) [] [] pos) (tMake C sp [] E0 tNil) := by
  obtain ⟨f, fd, hm, M, hb, F⟩ := c
  exact pe_make0 M F hr hg hm hb .nil pass0 hdb
end
/-! ### data of ints -/
def pdI (ns : List Int) : PyData := .list (ns.map PyData.int)
theorem dpAll_ints (K : PySem.W.Frag) (H : Hp) : ∀ ns : List Int, DpAll K H (ns.map V.int) (ns.map PyData.int)
  | [] => .nil
  | n :: ns => .cons (.int n) (dpAll_ints K H ns)
theorem dp_ints {K : PySem.W.Frag} {H : Hp} {a : Addr} {ns : List Int} (h : SqL K H a (ns.map V.int)) : Dp K H (.ref a) (pdI ns) := .lst h (dpAll_ints K H ns)
theorem canLay_ints : ∀ ns : List Int, PyData.canLayAll0 (ns.map PyData.int) = true
  | [] => rfl
  | n :: ns => by
    show (PyData.canLay0 (.int n) && PyData.canLayAll0 (ns.map PyData.int)) = true
    rw [canLay_ints ns]
    rfl
theorem depth_ints : ∀ ns : List Int, PyData.depthAll (ns.map PyData.int) = 0
  | [] => rfl
  | n :: ns => by
    show max (PyData.depth (.int n)) (PyData.depthAll (ns.map PyData.int)) = 0
    rw [depth_ints ns]
    rfl
theorem shaped_ints (ns : List Int) : SeqAt.shaped (pdI ns) = true := by
  have h : PyData.depth (pdI ns) = PyData.depthAll (ns.map PyData.int) + 1 := by unfold pdI; rw [PyData.depth]
  unfold SeqAt.shaped
  rw [h, depth_ints]
  have h2 : (pdI ns).canLay0 = true := by unfold pdI; rw [PyData.canLay0]; exact canLay_ints ns
  rw [h2]
  rfl
theorem eqvAll_ints : ∀ ns ms : List Int, PyData.eqvAll (ns.map PyData.int) (ms.map PyData.int) = decide (ns = ms)
  | [], [] => rfl
  | [], m :: ms => by simp [PyData.eqvAll]
  | n :: ns, [] => by simp [PyData.eqvAll]
  | n :: ns, m :: ms => by
    show (PyData.eqv (.int n) (.int m) && PyData.eqvAll (ns.map PyData.int) (ms.map PyData.int)) = _
    rw [eqvAll_ints ns ms]
    have : PyData.eqv (.int n) (.int m) = (n == m) := by rw [PyData.eqv]
    rw [this]
    by_cases h : n = m <;> simp [h]
theorem eqv_ints (ns ms : List Int) : PyData.eqv (pdI ns) (pdI ms) = decide (ns = ms) := by
  unfold pdI
  rw [PyData.eqv]
  exact eqvAll_ints ns ms
end Mc
namespace Mc
open PySem PySem.Spec PyProof.Rows SrtO
/-! ### sorted of pairs of a text and an int, out of a list or a tuple -/
def IsPairS (h : Heap) (v : Value) (x : PySem.Str) (y : Int) : Prop := ∃ a o t u n, v = .ref a ∧ h.get? a = some o ∧ o.cls = .type "tuple" ∧ o.data = .seq #[.str x t, .int y u] n
theorem IsPairS.keeps {h h' : Heap} {v : Value} {x : PySem.Str} {y : Int} (p : IsPairS h v x y) (k : ∀ b o, h.get? b = some o → o.cls = .type "tuple" → h'.get? b = some o) : IsPairS h' v x y := by
  obtain ⟨a, o, t, u, n, e, ho, hc, hd⟩ := p
  exact ⟨a, o, t, u, n, e, k _ _ ho hc, hc, hd⟩
def lexS (p q : PySem.Str × Int) : Bool := if p.1 = q.1 then decide (p.2 < q.2) else decide (p.1.cps.toList < q.1.cps.toList)
theorem str_ext {a b : PySem.Str} (h : a.cps.toList = b.cps.toList) : a = b := by
  obtain ⟨x⟩ := a
  obtain ⟨y⟩ := b
  have : x = y := by simpa using congrArg List.toArray h
  rw [this]
theorem swo_lexS {α : Type} (k : α → PySem.Str × Int) : Swo fun v u => lexS (k v) (k u) := by
  have irr : ∀ l : List Nat, ¬ l < l := fun l => List.lt_irrefl l
  refine ⟨fun x y h => ?_, fun x y z h1 h2 => ?_⟩
  · unfold lexS at h ⊢
    by_cases e : (k x).1 = (k y).1
    · rw [if_pos e, decide_eq_true_eq] at h
      rw [if_pos e.symm, decide_eq_false_iff_not]
      omega
    · rw [if_neg e, decide_eq_true_eq] at h
      rw [if_neg (Ne.symm e), decide_eq_false_iff_not]
      exact fun z => irr _ (List.lt_trans h z)
  · unfold lexS at h1 h2 ⊢
    generalize (k x).1 = a at *
    generalize (k y).1 = b at *
    generalize (k z).1 = c at *
    by_cases e1 : b = a
    · subst e1
      rw [if_pos rfl, decide_eq_false_iff_not] at h1
      by_cases e2 : c = b
      · subst e2
        rw [if_pos rfl, decide_eq_false_iff_not] at h2
        rw [if_pos rfl, decide_eq_false_iff_not]
        omega
      · rw [if_neg e2] at h2
        rw [if_neg e2]
        exact h2
    · rw [if_neg e1, decide_eq_false_iff_not] at h1
      by_cases e2 : c = b
      · subst e2
        rw [if_neg e1, decide_eq_false_iff_not]
        exact h1
      · rw [if_neg e2, decide_eq_false_iff_not] at h2
        have l1 : a.cps.toList ≤ b.cps.toList := List.not_lt.mp h1
        have l2 : b.cps.toList ≤ c.cps.toList := List.not_lt.mp h2
        by_cases e3 : c = a
        · subst e3
          exact absurd (str_ext (List.le_antisymm l2 l1)) e1
        · rw [if_neg e3, decide_eq_false_iff_not]
          exact List.not_lt.mpr (List.le_trans l1 l2)
section
variable {prog : Program} {w : World} {A : Around} {E : Value → Shared → Prop} {s : Shared}
theorem pairS_cmp {vs : List Value} {k : Value → PySem.Str × Int} (hp : ∀ v ∈ vs, IsPairS s.heap v (k v).1 (k v).2) : Cmp prog w A s (tuples' true) (fun p => p.1 ∈ vs) (lt2 fun v u => lexS (k v) (k u)) := by
  intro p q hm hm'
  have h1 := hp _ hm
  have h2 := hp _ hm'
  show wpAny (model prog w) A (keyLt' (tuples' true) p.1 q.1) (fun r s' => s' = s ∧ r = lexS (k p.1) (k q.1)) (fun _ _ => False) s
  unfold lexS
  generalize (k p.1).1 = x at h1 ⊢
  generalize (k p.1).2 = y at h1 ⊢
  generalize (k q.1).1 = x' at h2 ⊢
  generalize (k q.1).2 = y' at h2 ⊢
  obtain ⟨a, o, t, u, n, e, ho, hc, hd⟩ := h1
  obtain ⟨a', o', t', u', n', e', ho', hc', hd'⟩ := h2
  rw [e, e']
  refine PySem.W.kat_lt ho hd ho' hd' ?_
  show PySem.W.KatLex prog w A true (decide (2 < 2)) _ [(.str x t, .str x' t'), (.int y u, .int y' u')] 0 s
  refine PySem.W.kat_cons (SeqAt.EqAt.str_str x t x' t' prog w _ _ ?_)
  refine PySem.W.kat_go (fun e1 => ?_) (fun e1 => ?_)
  · have ex : x = x' := by simpa using e1
    refine PySem.W.kat_yes (PySem.W.kat_cons (SeqAt.EqAt.int_int y u y' u' prog w _ _ ?_))
    refine PySem.W.kat_go (fun e2 => ?_) (fun e2 => ?_)
    · have ey : y = y' := by simpa using e2
      have e3 : (if x = x' then decide (y < y') else decide (x.cps.toList < x'.cps.toList)) = false := by
        rw [if_pos ex, ey]
        exact decide_eq_false (Int.lt_irrefl _)
      exact PySem.W.kat_yes (PySem.W.kat_nil ⟨rfl, e3.symm⟩)
    · have e3 : (if x = x' then decide (y < y') else decide (x.cps.toList < x'.cps.toList)) = decide (y < y') := if_pos ex
      refine PySem.W.kat_no (PySem.W.kat_one _ _ (PyProof.Rows.lt_int ?_))
      exact (show s = s ∧ decide (y < y') = (if x = x' then decide (y < y') else decide (x.cps.toList < x'.cps.toList)) from ⟨rfl, e3.symm⟩)
  · have ex : ¬ x = x' := by simpa using e1
    have e3 : (if x = x' then decide (y < y') else decide (x.cps.toList < x'.cps.toList)) = decide (x.cps.toList < x'.cps.toList) := if_neg ex
    exact PySem.W.kat_no (oneLt_str ⟨rfl, e3.symm⟩)
theorem firstsS_of {h : Heap} : ∀ {vs : List Value}, (∀ v ∈ vs, ∃ x y, IsPairS h v x y) → ∃ fs : List Value, PySem.W.KatTups h vs fs ∧ fs.length = vs.length ∧ ∀ f ∈ fs, ∃ x t, f = Value.str x t
  | [], _ => ⟨[], PySem.W.KatTups.nil, rfl, fun _ hm => by simp at hm⟩
  | v :: vs, hp => by
    obtain ⟨fs, h1, h2, h3⟩ := firstsS_of (vs := vs) fun v' hm => hp v' (List.mem_cons_of_mem _ hm)
    obtain ⟨x, y, a, o, t, u, n, e, ho, hc, hd⟩ := hp v (List.mem_cons_self ..)
    subst e
    refine ⟨.str x t :: fs, PySem.W.KatTups.cons ho hc hd rfl h1, by rw [List.length_cons, List.length_cons, h2], fun f hm => ?_⟩
    rcases List.mem_cons.mp hm with rfl | hm
    · exact ⟨x, t, rfl⟩
    · exact h3 f hm
theorem pairsS_sortable {a : Addr} {vs : List Value} {k : Value → PySem.Str × Int} (h0 : 0 < vs.length) (hp : ∀ v ∈ vs, IsPairS s.heap v (k v).1 (k v).2) (ha : ∀ o, s.heap.get? a = some o → o.cls ≠ .type "tuple") : SortableO prog w A s a vs fun v u => lexS (k v) (k u) := by
  intro h' keep
  have hp' : ∀ v ∈ vs, IsPairS h' v (k v).1 (k v).2 := fun v hm => (hp v hm).keeps fun b o e c => keep b o (fun z => by subst z; exact ha o e c) e
  obtain ⟨fs, h1, h2, h3⟩ := firstsS_of fun v hm => ⟨_, _, hp' v hm⟩
  refine ⟨tuples' true, fun Q E hq => ?_, pairS_cmp hp'⟩
  refine PySem.W.kat_kind (T := .type "str") h1 (by omega) (fun f hm => ?_) (by rfl) ?_
  · obtain ⟨x, t, rfl⟩ := h3 f hm
    exact PySem.W.Looks.now
  · have e : (Value.type "str" != Value.type "tuple") = true := by first | decide +kernel | rfl | decide
    rw [e]
    exact hq
/-- what a tuple gives out, told with the heap behind -/
theorem collect_tupE {it : Addr} {o : Obj} {vs : List Value} {n : Nat} {Q : List Value → Shared → Prop} (ho : s.heap.get? it = some o) (hc : o.cls = .type "tuple") (hd : o.data = .seq vs.toArray n) (hz : vs.length ≤ sizeLine)
    (hQ : Q vs { s with heap := (s.heap.push (seqObj "list" #[] 0)).update s.heap.objs.size (Obj.mapSeq (· ++ vs.toArray)) }) : wpAny (model prog w) A (collect (.ref it)) Q E s := by
  have hz' : vs.toArray.size ≤ sizeLine := by rw [List.size_toArray]; exact hz
  have h0 : (s.heap.push (seqObj "list" #[] 0)).get? s.heap.objs.size = some { cls := .type "list", data := .seq #[] 0 } := Heap.get?_push_size _ rfl
  have h1 := Heap.get?_update_self (Obj.mapSeq (· ++ vs.toArray)) h0 rfl
  unfold collect
  refine wpAny_bind (wpAny_runValue (codeAny_builtin F.entry_proto_collect ?_))
  rw [Around.under_plainId F.plain_proto_collect _]
  refine wpAny_bind (m := newList []) (wpAny_newList ?_ (Nat.zero_le _))
  refine wpAny_pure ⟨plainId_quiet F.plain_list_iadd _, codeAny_builtin F.entry_list_iadd ?_⟩
  rw [Around.under_plainId F.plain_list_iadd _]
  have last : wpAny (model prog w) A (load s.heap.objs.size >>= fun o => match o.data with | .seq xs _ => pure xs.toList | _ => unsupported "internal:collect") Q E { s with heap := (s.heap.push (seqObj "list" #[] 0)).update s.heap.objs.size (Obj.mapSeq (· ++ vs.toArray)) } := by
    refine wpAny_bind (wpAny_load h1 (wpAny_pure ?_))
    have e : ((#[] : Array Value) ++ vs.toArray).toList = vs := by simp
    show Q ((#[] : Array Value) ++ vs.toArray).toList _
    rw [e]
    exact hQ
  refine wpAny_mono (wpAny_extend_seq (hsz := hz') (A := A) (R := fun r s' => r = .ok (.ret (.ref s.heap.objs.size)) ∧ s' = { s with heap := (s.heap.push (seqObj "list" #[] 0)).update s.heap.objs.size (Obj.mapSeq (· ++ vs.toArray)) })
    (s := { s with heap := s.heap.push (seqObj "list" #[] 0) }) _ it _ 0 (.inr rfl) h0 (Heap.get?_push_of_some _ ho) hc hd ⟨rfl, rfl⟩) (fun fin s' h => ?_) (fun e s' h => absurd h.1 (by simp))
  cases fin with
  | done f =>
    obtain ⟨e, rfl⟩ := h
    cases e
    exact last
  | again c' => exact ⟨h.1, codeAny_mono h.2 fun r s'' hr => by obtain ⟨rfl, rfl⟩ := hr; exact last⟩
/-- sorted(t), t a tuple of such pairs -/
theorem sorted_pairsS {it : Addr} {o : Obj} {vs : List Value} {n : Nat} {k : Value → PySem.Str × Int} {Q : Value → Shared → Prop} (ho : s.heap.get? it = some o) (hc : o.cls = .type "tuple") (hd : o.data = .seq vs.toArray n)
    (hz : vs.length ≤ sizeLine) (hp : ∀ v ∈ vs, IsPairS s.heap v (k v).1 (k v).2)
    (h : ∀ (h' : Heap) (d : Addr) (out : List Value), Srtd (fun v u => lexS (k v) (k u)) out → Stb (fun v u => lexS (k v) (k u)) out vs → (∀ b o, s.heap.get? b = some o → h'.get? b = some o) → s.heap.objs.size ≤ d → (∃ n, h'.get? d = some (seqObj "list" out.toArray n)) → Q (.ref d) { s with heap := h' }) :
    wpAny (model prog w) A (call (.builtin "sorted") [.ref it]) Q E s := by
  refine Calls.call_function_entry kind_sorted plain_sorted entry_sorted (args_sorted1 _) ?_
  unfold Builtin.«sorted»
  refine wpAny_bind (m := checkCount "sorted" 1 1 _) (wpAny_pure ?_)
  refine wpAny_bind (collect_tupE ho hc hd hz ?_)
  have k' : ∀ b o, s.heap.get? b = some o → ((s.heap.push (seqObj "list" #[] 0)).update s.heap.objs.size (Obj.mapSeq (· ++ vs.toArray))).get? b = some o := fun b o q => by
    rw [Heap.get?_update_ne _ _ _ _ (Nat.ne_of_lt (Heap.lt_size q))]
    exact Heap.get?_push_of_some _ q
  have hsz : ((s.heap.push (seqObj "list" #[] 0)).update s.heap.objs.size (Obj.mapSeq (· ++ vs.toArray))).objs.size = s.heap.objs.size + 1 := by rw [Heap.size_update, size_push']
  generalize (s.heap.push (seqObj "list" #[] 0)).update s.heap.objs.size (Obj.mapSeq (· ++ vs.toArray)) = h' at k' hsz ⊢
  refine wpAny_bind (wpAny_newList ?_ hz)
  have hoL : (h'.push (seqObj "list" vs.toArray 0)).get? h'.objs.size = some (seqObj "list" vs.toArray 0) := Heap.get?_push_size _ rfl
  have kp : ∀ b o, s.heap.get? b = some o → b ≠ h'.objs.size ∧ (h'.push (seqObj "list" vs.toArray 0)).get? b = some o := fun b o q => ⟨Nat.ne_of_lt (Heap.lt_size (k' b o q)), Heap.get?_push_of_some _ (k' b o q)⟩
  refine wpAny_bind (wpAny_holding (wpAny_call_entry slot_list_sort ⟨_, hoL, rfl⟩ entry_list_sort (list_sort_ord (s := { s with heap := h'.push (seqObj "list" vs.toArray 0) }) (swo_lexS k) hoL hz (fun h2 => ?_) fun out hs hb => ⟨_, rfl, ?_⟩) (args_list_sort _)))
  · refine pairsS_sortable (s := { s with heap := h'.push (seqObj "list" vs.toArray 0) }) (by omega) (fun v hm => (hp v hm).keeps fun b o e _ => (kp b o e).2) fun o e => ?_
    have e' : some o = some (seqObj "list" vs.toArray 0) := e.symm.trans hoL
    cases e'
    intro c
    exact absurd (Value.type.inj c) (by decide)
  · refine wpAny_pure ⟨_, rfl, h _ _ out hs hb (fun b o e => ?_) (by rw [hsz]; exact Nat.le_succ _) (sortedHeap_at hoL)⟩
    rw [sortedHeap_old (kp b o e).1 (Heap.lt_size (kp b o e).2)]
    exact (kp b o e).2
end
open L2
/-- x before y: by its text, then by its int -/
abbrev ltS (k : V → PySem.Str × Int) (x y : V) : Bool := lexS (k x) (k y)
/-! ### a tuple whose object is known whole -/
def TupR (h : Heap) (a : Addr) (xs : List V) : Prop := xs.length ≤ sizeLine ∧ ∃ (its : List Value) (n : Nat), Vals xs its ∧ h.get? a = some { cls := .type "tuple", data := .seq its.toArray n }
def TupO (a : Addr) (xs : List V) : HO := .ext fun h => TupR h a xs
theorem tupO_new {P : Program} {w : World} {H : Hp} {h : Heap} {a : Addr} {xs : List V} (R : TupR h a xs) : ObjOk P w H h a (TupO a xs) := by
  obtain ⟨z, its, n, r, e⟩ := id R
  exact ⟨R, ⟨_, e⟩, fun h1 h2 ⟨z1, its1, n1, r1, e1⟩ k => ⟨z1, its1, n1, r1, k _ e1⟩⟩
section
variable {X : Cx} {pins : List (Addr × Obj)} {σ : L2.St} {H : Hp} {s : Shared} {a : Addr} {xs : List V}
theorem tupO_get (I : Inv X pins σ H s) (h : H a = some (TupO a xs)) : TupR s.heap a xs := (I.hok a _ h).1
end
section
variable {X : Cx} {es : List Expr} {t : TA} {pos : Pos} {x1 : Nat}
def tTupO (t : TA) : TE := fun σ H Q => t σ H fun xs H1 => xs.length ≤ sizeLine ∧ ∀ p, H1 p = none → Q (.ref p) (upd H1 p (TupO p xs))
theorem pe_tupO (h : PA X es t) : PE X (.Tuple es x1 pos) (tTupO t) := by
  refine ⟨fun pins s σ H Q I hq => ?_⟩
  refine wpAny_Tuple_spliced (thn (h.run pos pins s σ H _ I hq) fun us s1 ⟨xs, H1, I1, r, z, q⟩ => ⟨by rw [← r.length]; exact z, ?_⟩)
  exact ⟨.ref s1.heap.objs.size, upd H1 s1.heap.objs.size (TupO s1.heap.objs.size xs), I1.laid (t' := s1.toks) (fun b u e => Heap.get?_push_of_some _ e) (Nat.le_refl _) (tupO_new ⟨z, us, _, r, Heap.get?_push_size _ rfl⟩), rfl, q _ (I1.hok.fresh (Nat.le_refl _))⟩
/-- tuple(xs), xs a list -/
def kTupO (K : PySem.W.Frag) (x : V) (H : Hp) (Q : VK) : Prop := ∃ p xs, x = .ref p ∧ SqL K H p xs ∧ ∀ q, H q = none → Q (.ref q) (upd H q (TupO q xs))
theorem rl_tupO {K : PySem.W.Frag} (hK : X.K = K) (pins : List (Addr × Obj)) (s : Shared) (σ : L2.St) (H : Hp) (x : V) (v : Value) (Q : VK) (I : Inv X pins σ H s) (r : RelV x v) (h : kTupO K x H Q) :
    wpAny (model X.prog X.w) X.A (call (.type "tuple") [v]) (EP X pins σ Q) X.xe s := by
  subst hK
  obtain ⟨p, xs, rfl, hs, q⟩ := h
  obtain rfl : v = .ref p := r
  obtain ⟨its, rv, pl, hz⟩ := I.list hs
  refine call_tuple_list pl.isList (fun h' hk => ?_) (by rw [List.size_toArray, ← rv.length]; exact hz)
  have I1 : Inv X pins σ H { s with heap := h' } := I.kept (t' := s.toks) hk
  have I2 := I1.laid (t' := s.toks) (o := TupO h'.objs.size xs) (h' := h'.push { cls := .type "tuple", data := .seq its.toArray }) (fun b o e => Heap.get?_push_of_some _ e) (Nat.le_refl _) (tupO_new ⟨hz, its, _, rv, Heap.get?_push_size _ rfl⟩)
  exact ⟨.ref h'.objs.size, _, I2, rfl, q _ (I1.hok.fresh (Nat.le_refl _))⟩
theorem pe_tupleOfO {K : PySem.W.Frag} (hK : X.K = K) {a : Expr} {ta : TE} {p pos : Pos} (hg : Gl X "tuple") (hm : X.mg "tuple" = none) (ha : PE X a ta) (na : starEach [a] X.env = (false, eval a X.env) :: starEach [] X.env := by rfl) :
    PE X (.Call (.Name "tuple" p) [a] [] pos) (tThen ta (kTupO K)) := by
  refine ⟨fun pins s σ H Q I h => ?_⟩
  exact Call_ (ld_blt I hg hm boot_tuple (PyProof.Rows.callWith_type1 (one_arg ha I h (fun v s2 x H2 I2 r q => rl_tupO hK pins s2 σ H2 x v Q I2 r q) na) na))
end
def rSortedPS : List V → Hp → VK → Prop := fun vs H Q => ∃ (a : Addr) (xs : List V) (k : V → PySem.Str × Int), vs = [V.ref a] ∧ H a = some (TupO a xs) ∧ (∀ x ∈ xs, ∃ t, x = V.ref t ∧ H t = some (.tup [.str (k x).1, .int (k x).2])) ∧
  ∀ ys p, Srtd (ltS k) ys → Stb (ltS k) ys xs → H p = none → Q (.ref p) (upd H p (.lst ys))
theorem cr_sortedPS {X : Cx} : CallR X (.builtin "sorted") rSortedPS := by
  intro pins s σ H vs us Q I r h
  obtain ⟨a, xs, k, rfl, hs, hx, q⟩ := h
  obtain ⟨hz, its, n, rv, ho⟩ := tupO_get I hs
  obtain ⟨u, rfl, ru⟩ := vals1 r
  obtain rfl : u = Value.ref a := ru
  obtain ⟨e1, e2⟩ := refs_back rv fun x m => (hx x m).imp fun t e => e.1
  refine sorted_pairsS (k := fun u => k (backV u)) ho rfl rfl (by rw [← rv.length]; exact hz) (fun v hv => ?_) fun h' d out h1 h2 kp hd hn => ?_
  · obtain ⟨t, rfl⟩ := e2 v hv
    obtain ⟨t', e, ht⟩ := hx (V.ref t) (by rw [e1]; exact List.mem_map.mpr ⟨_, hv, rfl⟩)
    cases e
    obtain ⟨_, its2, r2, o2, ho2, hc2, n2, hd2⟩ := I.hok _ _ ht
    obtain ⟨u1, u2, rfl, ri, rj⟩ := vals2 r2
    obtain ⟨t1, rfl⟩ := ri
    obtain ⟨t2, rfl⟩ := rj
    exact ⟨t, o2, t1, t2, n2, rfl, ho2, hc2, hd2⟩
  · have h3 : ∀ u ∈ out, ∃ a, u = Value.ref a := fun u hu => e2 u (h2.perm.mem_iff.mp hu)
    obtain ⟨m, hn⟩ := hn
    have hb : Stb (ltS k) (out.map backV) xs := by
      rw [e1]
      exact Stb.map (swo_lexS k) backV h2
    exact ⟨.ref d, upd H d (.lst (out.map backV)), I.laid (t' := s.toks) kp hd ⟨by rw [hb.len]; exact hz, out, m, vals_back h3, hn⟩, rfl, q _ d (srtd_map h1) hb (I.hok.fresh hd)⟩
theorem pairsV_of {X : Cx} {pins : List (Addr × Obj)} {σ : L2.St} {H : Hp} {s : Shared} (I : Inv X pins σ H s) : ∀ {ps : List Addr} {kvs : List (L2.Key × V)}, Paired (fun p kv => SqT X.K H p [kV kv.1, kv.2]) ps kvs →
    ∃ (prs : List (L2.Key × Value)) (pvs : List (Value × Value)), KV kvs prs ∧ pvs.length = ps.length ∧ prs.length = ps.length ∧
      ∀ (j : Nat) k v, pvs[j]? = some (k, v) → (∃ b, ps[j]? = some b ∧ PairAt s.heap b k v) ∧ ∃ key, prs[j]? = some (key, v) ∧ (mixKind X.prog X.w).is key k = true
  | _, _, .nil => ⟨[], [], .nil, rfl, rfl, fun j k v e => by simp at e⟩
  | _, _, .cons (a := p) (b := kv) h t => by
    obtain ⟨prs, pvs, r, l1, l2, hp⟩ := pairsV_of I t
    obtain ⟨its, rv, ht, _⟩ := I.tuple h
    obtain ⟨u, y, ei, ru, ry⟩ := vals2 rv
    subst ei
    refine ⟨(kv.1, y) :: prs, (u, y) :: pvs, .cons ⟨rfl, ry⟩ r, congrArg Nat.succ l1, congrArg Nat.succ l2, fun j k v e => ?_⟩
    cases j with
    | zero =>
      cases Option.some.inj e
      exact ⟨⟨p, rfl, .inl ht⟩, kv.1, rfl, kV_is (P := X.prog) (w := X.w) ru⟩
    | succ j => exact hp j k v e
/-- dict(t), t a tuple of pairs -/
def rDictO (K : PySem.W.Frag) : List V → Hp → VK → Prop := fun vs H Q => ∃ (a : Addr) (ps : List Addr) (kvs : List (L2.Key × V)), vs = [.ref a] ∧ H a = some (TupO a (ps.map V.ref)) ∧ Paired (fun p kv => SqT K H p [kV kv.1, kv.2]) ps kvs ∧
  ∀ p, H p = none → Q (.ref p) (upd H p (.dK (mergeK [] kvs)))
theorem call_dictO {X : Cx} (hcalm : X.calm = true) : CallR X (.type "dict") (rDictO X.K) := by
  intro pins s σ H vs us Q I r h
  obtain ⟨a, ps, kvs, rfl, hs, hp, q⟩ := h
  obtain ⟨hz, its, n, rv, ho⟩ := tupO_get I hs
  obtain ⟨u, rfl, ru⟩ := vals1 r
  obtain rfl : u = Value.ref a := ru
  have ei := refs_at rv
  subst ei
  rw [List.length_map] at hz
  obtain ⟨prs, pvs, rel, l1, l2, hpr⟩ := pairsV_of I hp
  have hq : ∀ j, j < ps.length → ∃ k v, pvs[j]? = some (k, v) := fun j hj => ⟨_, _, List.getElem?_eq_getElem (by omega)⟩
  refine PySem.call_dict_pairs (knd := mixKind X.prog X.w) (kvs := prs) (PairArg.tuple a (ps.map Value.ref).toArray (fun j => ps.getD j 0) pvs) (I.ok.hd hcalm)
    ⟨⟨_, n, ho, rfl, rfl, rfl⟩, by rw [List.size_toArray, List.length_map, l1], fun j k v e => ?_⟩ ⟨by omega, fun i key v e => ?_⟩ (by omega) fun h' tk hd' k => ?_
  · obtain ⟨⟨b, hb, hat⟩, _⟩ := hpr j k v e
    have e2 : ps.getD j 0 = b := by rw [List.getD_eq_getElem?_getD, hb]; rfl
    show (ps.map Value.ref).toArray[j]? = some (Value.ref (ps.getD j 0)) ∧ PairAt s.heap (ps.getD j 0) k v
    rw [e2]
    exact ⟨by simp [hb], hat⟩
  · obtain ⟨_, key', e1, e2⟩ := hpr i key v e
    exact ⟨key', e1, e2⟩
  · have hm : (s.heap.objs.size == sysModules) = false := beq_eq_false_iff_ne.mpr (Nat.ne_of_gt I.big)
    have hlen : (mergeK [] kvs).length ≤ sizeLine := by
      refine Nat.le_trans (length_mergeK kvs []) ?_
      rw [List.length_nil, Nat.zero_add, rel.length, l2]
      exact hz
    exact ⟨.ref s.heap.objs.size, upd H s.heap.objs.size (.dK (mergeK [] kvs)), I.laid (t' := tk) (fun b o e => k b o (by simp) e) (Nat.le_refl _) (show ObjOk X.prog X.w _ _ _ (.dK (mergeK [] kvs)) from ⟨hlen, hm, merged [] prs, KV.merge rel .nil, hd'⟩), rfl, q _ (I.hok.fresh (Nat.le_refl _))⟩
/-- what is sorted already stays as it is -/
theorem sorted_same {k : V → PySem.Str × Int} {xs ys : List V} (hx : xs.Pairwise fun x y => (k x).1.cps.toList < (k y).1.cps.toList) (hs : Srtd (ltS k) ys) (hb : Stb (ltS k) ys xs) : ys = xs := by
  refine stb_uniq (swo_lexS k) hs ?_ hb
  refine hx.imp fun {x y} h => ?_
  have ne : ¬ (k x).1 = (k y).1 := fun e => by rw [e] at h; exact List.lt_irrefl _ h
  show lexS (k y) (k x) = false
  unfold lexS
  rw [if_neg (Ne.symm ne), decide_eq_false_iff_not]
  exact fun w => List.lt_irrefl _ (List.lt_trans h w)
/-- a dict comprehension over a list that stays -/
theorem dc_list {K : PySem.W.Frag} {a : Addr} {xs : List V} {g : TG} {tt : TT} {tk tv : TE} {vs : List Nat} {σ : L2.St} {H1 : Hp} {D : Addr} {Qd : Hp → Prop} (Pv : Nat → Hp → Prop) (h0 : Pv 0 (upd H1 D (.dK []))) (hl : ∀ i H, i ≤ xs.length → Pv i H → SqL K H a xs)
    (hs : ∀ i x H, xs[i]? = some x → Pv i H → g x (wipe σ vs) H fun σ2 H2 => wipe σ2 vs = wipe σ vs ∧ tt σ2 H2 fun b H3 =>
      if b = true then tk σ2 H3 fun y H4 => tv σ2 H4 fun z H5 => ∃ kvs k, y = kV k ∧ H5 D = some (.dK kvs) ∧ kvs.length < sizeLine ∧ Pv (i + 1) (upd H5 D (.dK (putK kvs k z))) else Pv (i + 1) H3) (hd : ∀ H, Pv xs.length H → Qd H) :
    ∃ W : Nat → Nat → Hp → Prop, (∃ m, W 0 m (upd H1 D (.dK []))) ∧ ∀ i m H, W i m H →
      ((Itl K a).stop i H ∧ Qd H) ∨ ((Itl K a).go i H ∧ ∃ Nx : Hp → Prop, (∀ H', Nx H' → ∃ m', m' < m ∧ W (i + 1) m' H') ∧ ∀ x H', (Itl K a).yld i H x H' → g x (wipe σ vs) H' fun σ2 H2 => wipe σ2 vs = wipe σ vs ∧ tt σ2 H2 fun b H3 =>
        if b = true then tk σ2 H3 fun y H4 => tv σ2 H4 fun z H5 => ∃ kvs k, y = kV k ∧ H5 D = some (.dK kvs) ∧ kvs.length < sizeLine ∧ Nx (upd H5 D (.dK (putK kvs k z))) else Nx H3) := by
  refine ⟨fun i m H => m = xs.length - i ∧ i ≤ xs.length ∧ Pv i H, ⟨xs.length, by simp, Nat.zero_le _, h0⟩, ?_⟩
  rintro i m H ⟨rfl, hi, p⟩
  have q := hl i H hi p
  by_cases hlt : i < xs.length
  · refine .inr ⟨⟨xs, xs[i], q, by simp [hlt]⟩, Pv (i + 1), fun H' p' => ⟨xs.length - (i + 1), by omega, rfl, hlt, p'⟩, fun x H' y => ?_⟩
    obtain ⟨e, y⟩ := y
    subst e
    exact hs i x _ (y xs q) p
  · have e : i = xs.length := by omega
    subst e
    exact .inl ⟨⟨xs, q, Nat.le_refl _⟩, hd H p⟩
end Mc
namespace Mc
open PySem L2 PySem.Spec PyProof.Rows
theorem erase_at [DecidableEq α] {k : α} : ∀ {xs : List α}, k ∈ xs → ∃ j, xs[j]? = some k ∧ (∀ m : Nat, m < j → ∀ y, xs[m]? = some y → y ≠ k) ∧ xs.eraseIdx j = xs.erase k
  | x :: xs, h => by
    by_cases e : x = k
    · exact ⟨0, by rw [e]; rfl, fun m z => absurd z (Nat.not_lt_zero _), by rw [e]; simp⟩
    · obtain ⟨j, a, b, c⟩ := erase_at (xs := xs) ((List.mem_cons.mp h).resolve_left fun z => e z.symm)
      refine ⟨j + 1, a, fun m hm y hy => ?_, by rw [List.erase_cons_tail (by simpa using e), List.eraseIdx_cons_succ, c]⟩
      cases m with
      | zero => cases Option.some.inj hy; exact e
      | succ m => exact b m (Nat.lt_of_succ_lt_succ hm) y hy
theorem eraseIdx_map' (f : α → β) : ∀ (l : List α) (j : Nat), (l.map f).eraseIdx j = (l.eraseIdx j).map f
  | [], _ => by simp
  | _ :: _, 0 => by simp
  | _ :: r, j + 1 => by simp [eraseIdx_map' f r j]
def isS (k : PySem.Str) : Value → Bool
  | .str y _ => y.cps.toList == k.cps.toList
  | _ => false
section
variable {X : Cx}
def rRemS : V → List V → Hp → VK → Prop := fun x vs H Q => ∃ (l : Addr) (xs : List PySem.Str) (k : PySem.Str), x = .ref l ∧ vs = [.str k] ∧ H l = some (.lst (xs.map V.str)) ∧ k ∈ xs ∧ Q .non (upd H l (.lst ((xs.erase k).map V.str)))
theorem mt_removeS : MtM X "list.remove" rRemS := by
  intro pins s σ H x vs v us Q I rx rv ⟨l, xs, k, ex, ev, hl, hk, q⟩
  subst ex; subst ev; cases rx
  obtain ⟨u, eu, ⟨t, et⟩⟩ := rv.one
  subst eu; subst et
  obtain ⟨_, its, n, r, hlen, hg⟩ := I.lstM hl
  obtain ⟨j, a, b, c⟩ := erase_at hk
  have look : ∀ (i : Nat) (w : Value), its[i]? = some w → ∃ y t', xs[i]? = some y ∧ w = .str y t' := by
    intro i w hw
    cases hx : xs[i]? with
    | none => rw [r.none_of (by rw [List.getElem?_map, hx]; rfl)] at hw; cases hw
    | some y =>
      obtain ⟨w', h1, ⟨t', h2⟩⟩ := r.get (i := i) (x := .str y) (by rw [List.getElem?_map, hx]; rfl)
      rw [hw] at h1; cases h1
      exact ⟨y, t', rfl, h2⟩
  have lenx : its.length = xs.length := by rw [← r.length, List.length_map]
  have hj : j < xs.length := (List.getElem?_eq_some_iff.mp a).1
  have hj' : j < its.toArray.size := by simp; omega
  refine call_meets PySem.F.slot_list_remove ⟨_, hg, rfl⟩ PySem.F.entry_list_remove (PySem.F.args_list_remove_2 _ _)
    (MeetsSeq.list_remove l its.toArray n (.str k t) (isS k) ?g1 j hj' ?g2 ?g3 (by simp at *; omega)) ⟨hg, .non, _, I.lset (its' := its.eraseIdx j) (t' := s.toks) hl hg (by simp) (r.eraseIdx j) ?g4, rfl, ?g5⟩
  case g1 =>
    intro y hy
    obtain ⟨i, hi⟩ := List.mem_iff_getElem?.mp (show y ∈ its by simpa using hy)
    obtain ⟨z, t', _, e⟩ := look i y hi
    rw [e]
    exact SeqRoads2.EqGives.str z k t' t
  case g2 =>
    obtain ⟨z, t', hz, e⟩ := look j _ (List.getElem?_eq_getElem (by omega : j < its.length))
    rw [a] at hz; cases hz
    have e2 : its.toArray[j] = .str k t' := by simpa using e
    rw [e2]
    exact beq_self_eq_true k.cps.toList
  case g3 =>
    intro m hm hmj
    obtain ⟨z, t', hz, e⟩ := look m _ (List.getElem?_eq_getElem (by simpa using hm : m < its.length))
    have e2 : its.toArray[m] = .str z t' := by simpa using e
    rw [e2]
    have ne := b m hmj z hz
    refine beq_eq_false_iff_ne.mpr fun w => ne ?_
    obtain ⟨⟨z⟩⟩ := z
    obtain ⟨⟨k⟩⟩ := k
    exact congrArg (fun l => PySem.Str.mk (Array.mk l)) w
  case g4 =>
    have z2 := len_erase (xs.map V.str) j
    rw [List.length_map] at z2
    simp at *; omega
  case g5 =>
    have : (xs.map V.str).eraseIdx j = (xs.erase k).map V.str := by rw [← c, eraseIdx_map']
    rw [this]; exact q
end
end Mc
namespace Mc
open PySem L2 PySem.Spec PyProof.Rows
def inK (ys : List PySem.Str) (k : L2.Key) : Bool := ys.any fun y => decide (k = Sum.inr y)
/-- a set under way: it holds the first i of ys -/
structure Part (P : Program) (w : World) (ys : List PySem.Str) (a : Addr) (h : Heap) (i : Nat) (c : Nat) : Prop where
  of : h.SetOf (mixKind P w) a (inK (ys.take i)) c
  le : c ≤ i
  nd : ys.Nodup → c = i
  dn : c = i → (ys.take i).Nodup
abbrev so (b : Bool) : Obj := { cls := .type "set", dict := none, data := .set #[] 0 (.fresh 0 0 b) }
section
variable {P : Program} {w : World} {A : Around} {E : Value → Shared → Prop} {s : Shared} {ys : List PySem.Str}
theorem Part.at {a : Addr} {h h' : Heap} {i c : Nat} (p : Part P w ys a h i c) (k : ∀ o, h.get? a = some o → h'.get? a = some o) : Part P w ys a h' i c := ⟨setOf_at p.of k, p.le, p.nd, p.dn⟩
theorem Part.more {a : Addr} {h : Heap} {i c : Nat} {y : PySem.Str} (p : Part P w ys a h i c) (hy : ys[i]? = some y) {h' : Heap}
    (q : h'.SetOf (mixKind P w) a (fun k' => inK (ys.take i) k' || decide (k' = Sum.inr y)) (if inK (ys.take i) (Sum.inr y) then c else c + 1)) :
    ∃ c', Part P w ys a h' (i + 1) c' := by
  have e1 : ys.take (i + 1) = ys.take i ++ [y] := by rw [List.take_add_one, hy]; rfl
  refine ⟨if inK (ys.take i) (Sum.inr y) then c else c + 1, ⟨?_, ?_, ?_, ?_⟩⟩
  rotate_left 3
  · intro e
    have le := p.le
    cases hno : inK (ys.take i) (Sum.inr y) with
    | true => rw [hno, if_pos rfl] at e; omega
    | false =>
      rw [hno, if_neg Bool.false_ne_true] at e
      rw [e1]
      refine List.nodup_append.mpr ⟨p.dn (by omega), by simp, fun a ha b hb eab => ?_⟩
      rw [List.mem_singleton.mp hb] at eab
      have : inK (ys.take i) (Sum.inr y) = true := List.any_eq_true.mpr ⟨a, ha, decide_eq_true (by rw [eab])⟩
      rw [hno] at this; cases this
  rotate_left 2
  · intro nd
    have no : inK (ys.take i) (Sum.inr y) = false := by
      refine Bool.eq_false_iff.mpr fun z => ?_
      obtain ⟨x, hx, ex⟩ := List.any_eq_true.mp z
      cases Sum.inr.inj (of_decide_eq_true ex)
      have h2 : (ys.take (i + 1)).Nodup := nd.sublist (List.take_sublist _ _)
      rw [e1] at h2
      exact (List.nodup_append.mp h2).2.2 y hx y (by simp) rfl
    rw [no, p.nd nd]; rfl
  · have e2 : (fun k' => inK (ys.take i) k' || decide (k' = Sum.inr y)) = inK (ys.take (i + 1)) := by
      funext k'
      unfold inK
      rw [e1, List.any_append]
      simp
    rw [← e2]
    exact q
  · have := p.le
    split <;> omega
theorem fill {I : Addr} {fp wr : List Addr} {G : Array GenState → Array GenState → Prop} {n : Nat} {Pv : Nat → Value → Prop} {St : Nat → Shared → Prop} {R : Result → Shared → Prop} (W : WalksS P w A.in1 I fp wr G n Pv St)
    {a : Addr} (ha : a ∉ fp) (hn : n = ys.length) (hb : n + 1 < scanBound) (hv : ∀ i v, Pv i v → ∃ y t, ys[i]? = some y ∧ v = .str y t) (fin : ∀ s' c, Moved (a :: wr) G s s' → Part P w ys a s'.heap n c → R (.ok (.ret .none)) s') :
    ∀ (k i c : Nat) (s1 : Shared), i + k = n → St i s1 → Part P w ys a s1.heap i c → Moved (a :: wr) G s s1 → codeAny (model P w) A (.builtin "set.update.loop" ⟨[.ref a, .ref I], []⟩) R s1
  | 0, i, c, s1, e, st, p, mv => codeAny_builtin F.entry_set_update_loop <| by
    cases (Nat.add_zero i).symm.trans e
    rw [Around.under_plainId F.plain_set_update_loop _]
    refine wpAny_bind (m := pyNext (.ref I)) (W.done s1 _ _ st fun s2 hm => wpAny_pure ?_)
    exact fin s2 c (mv.trans W.gtrans (hm.mono fun b z => .tail _ z)) (p.at fun o => hm.heap a o fun z => ha (W.sub _ z))
  | k + 1, i, c, s1, e, st, p, mv => codeAny_builtin F.entry_set_update_loop <| by
    rw [Around.under_plainId F.plain_set_update_loop _]
    refine wpAny_bind (m := pyNext (.ref I)) (W.item i s1 _ _ (by omega) st fun v s2 pv st2 hm => ?_)
    obtain ⟨y, t, hy, ev⟩ := hv i v pv
    subst ev
    have p2 := p.at fun o => hm.heap a o fun z => ha (W.sub _ z)
    refine wpAny_bind (m := holding [Value.str y t] (setAdd a (.str y t))) (wpAny_holding (wpAny_holding ?_))
    refine wpAny_bind ((mixKind P w).pyHash (k := Sum.inr y) (beq_self_eq_true y) ?_)
    refine wpAny_setAddHashed_of (knd := mixKind P w) (k := Sum.inr y) (s := { s2 with toks := s2.toks + 1 }) (beq_self_eq_true y) rfl p2.of (by have := p2.le; omega) fun h' but so' => wpAny_pure ?_
    obtain ⟨c', p3⟩ := p2.more hy so'
    have far : ∀ b, b ≠ a → ∀ o, s2.heap.get? b = some o → h'.get? b = some o := fun b ne o z => (but.2 b ne).trans z
    refine ⟨plainId_quiet F.plain_set_update_loop _, fill W ha hn hb hv fin k (i + 1) c' _ (by omega) ?_ p3 ?_⟩
    · exact W.frame _ s2 _ _ st2 (Nat.le_succ _) fun b hb o z => far b (fun q => ha (by rw [← q]; exact hb)) o z
    · exact mv.trans W.gtrans (((hm.mono fun b z => .tail _ z)).then_heap (Nat.le_succ _) fun b o hb z => far b (fun q => hb (by rw [q]; exact .head _)) o z)
end
section
variable {P : Program} {w : World} {A : Around} {E : Value → Shared → Prop} {s : Shared} {ys : List PySem.Str}
theorem Part.start (led : Bool) {h : Heap} {a : Addr} (ho : h.get? a = some (so led)) : Part P w ys a h 0 0 :=
  ⟨⟨_, #[], 0, _, ho, ⟨rfl, rfl, rfl⟩, rfl, (fun e he => by simp at he), (fun k => by simp [inK]), (by decide), (by rfl), rfl⟩, Nat.le_refl _, fun _ => rfl, fun _ => by simp⟩
set_option maxHeartbeats 6400000 in
theorem call_setS {l : Addr} {its : Array Value} {Q : Value → Shared → Prop} (hh : A.handled = none) (hl : s.heap.IsList l its) (hv : ∀ (i : Nat) v, its[i]? = some v → ∃ y t, ys[i]? = some y ∧ v = .str y t) (hn : its.size = ys.length) (hb : its.size + 1 < scanBound)
    (fin : ∀ (h' : Heap) (tk c : Nat), Part P w ys s.heap.objs.size h' ys.length c → (∀ b o, s.heap.get? b = some o → h'.get? b = some o) → Q (.ref s.heap.objs.size) { s with heap := h', toks := tk }) :
    wpAny (model P w) A (call (.type "set") [.ref l]) Q E s := by
  have F0 := PySem.F.called_set
  obtain ⟨cc, tl, m1⟩ := F0.mro
  have m2 := F0.made
  have m3 := F0.sub
  have m4 := F0.notType
  have m5 := F0.canCreate
  have m6 := PySem.F.typeCall_set_1 (.ref l)
  refine wpAny_call <| codeAny_of_tree <| wpAny_pure ⟨Code.quiet_builtin _ (by decide +kernel), codeAny_builtin PySem.F.entry_type_call <| by
    rw [Around.under_plain (weight_type_call_type "set" [.ref l] []) rfl]
    repeat (any_goals (first | assumption | wp_step))
    refine codeAny_mono (code_set_new_1 (.ref l) (E := E) (Q₁ := fun v s1 => ∃ led, v = .ref s.heap.objs.size ∧ s1 = { s with heap := s.heap.push (so led) }) fun led => ⟨led, rfl, rfl⟩) ?_
    intro r s1 hr
    match r, hr with
    | .error e, hr => exact hr
    | .ok (.ret v), ⟨led, e1, e2⟩ =>
      subst e1; subst e2
      have at0 : (s.heap.push (so led)).get? s.heap.objs.size = some (so led) := Heap.get?_push_size _ rfl
      have ty : Shared.TypeIs { s with heap := s.heap.push (so led) } (.ref s.heap.objs.size) "set" := ⟨_, at0, rfl⟩
      have n1 := F0.init.lookup
      have n2 := F0.init.bind (.ref s.heap.objs.size)
      repeat (any_goals (first | assumption | wp_step))
      refine codeAny_mono (codeAny_call_builtin (R := wants (fun r s2 => r = .none ∧ ∃ h' tk c, s2 = { s with heap := h', toks := tk } ∧ Part P w ys s.heap.objs.size h' ys.length c ∧ ∀ b o, s.heap.get? b = some o → h'.get? b = some o) E) F0.init.plain PySem.F.entry_set_init (check_set_init_1 ty ?_)) ?_
      rotate_left 1
      · intro r2 s2 hr2
        match r2, hr2 with
        | .error e, hr2 => exact hr2
        | .ok (.ret r), ⟨e1, h', tk, c, e2, pt, kp⟩ =>
          subst e1; subst e2
          repeat (any_goals (first | assumption | wp_step))
          exact fin h' _ c pt kp
      · have pre : ∀ b o, s.heap.get? b = some o → (s.heap.push (so led)).get? b = some o := fun b o z => Heap.get?_push_of_some _ z
        obtain ⟨ob, hob, hc, nn, hd⟩ := hl
        obtain ⟨c0, d0, dat, sl0⟩ := ob
        cases hc; cases hd
        have hob1 := pre _ _ hob
        have il : (s.heap.push (so led)).IsList l its := ⟨_, hob1, rfl, nn, rfl⟩
        have q1 := PySem.F.sub_list_set
        have q2 := PySem.F.sub_list_frozenset
        have q3 : (Value.type "list" == Value.type "dict") = false := by decide
        unfold Builtin.«set.__init__» noKeywords Builtin.Frozenset.updateFrom
        generalize hPI : pyIter = PI
        wp_walk
        cases hPI
        refine wpAny_pyIter_list il (wpAny_bind (wpAny_runValue ?_))
        have z1 : (s.heap.push (so led)).objs.size = s.heap.objs.size + 1 := Heap.size_push ..
        have z2 : l < s.heap.objs.size := Heap.lt_size hob
        have ne : l ≠ (s.heap.push (so led)).objs.size := by rw [z1]; exact Nat.ne_of_lt (Nat.lt_succ_of_lt z2)
        have out : s.heap.objs.size ∉ [(s.heap.push (so led)).objs.size, l] := by
          rw [z1]; simp only [List.mem_cons, List.not_mem_nil, or_false, not_or]; exact ⟨Nat.ne_of_lt (Nat.lt_succ_self _), Nat.ne_of_gt z2⟩
        have hd3 : A.in1.in1.in1.handled = none := by simp [hh]
        refine fill (ys := ys) ((Walks.list hd3 _ l ne its).toS) out hn hb hv ?_ its.size 0 0 _ (Nat.zero_add _) ⟨⟨_, Heap.get?_push_size _ rfl, rfl, rfl⟩, il.push _⟩ (Part.start led (Heap.get?_push_of_some _ at0)) (Moved.refl fun _ => rfl)
        rintro ⟨h', g', d', tk', os'⟩ c mv pt
        cases show g' = s.gens from mv.gens
        cases show d' = s.drawn from mv.drawn
        cases show os' = s.os from mv.os
        refine wpAny_pure (wpAny_pure ⟨rfl, h', tk', c, rfl, hn ▸ pt, fun b o z => ?_⟩)
        have lt : b < s.heap.objs.size := Heap.lt_size z
        refine mv.heap b o ?_ (Heap.get?_push_of_some _ (pre b o z))
        rw [z1]; simp only [List.mem_cons, List.not_mem_nil, or_false, not_or]; exact ⟨Nat.ne_of_lt lt, Nat.ne_of_lt (Nat.lt_succ_of_lt lt)⟩
  ⟩
end
section
variable {X : Cx}
def rSetS (K : PySem.W.Frag) (P : Program) (w : World) : List V → Hp → VK → Prop := fun xs H Q => ∃ (l : Addr) (ys : List PySem.Str), xs = [.ref l] ∧ SqL K H l (ys.map V.str) ∧ ys.length < 64 ∧
  ∀ (p : Addr) (n : Nat), H p = none → n ≤ ys.length → (ys.Nodup → n = ys.length) → Q (.ref p) (upd H p (SetK P w p (inK ys) n))
theorem cr_setS (hc : X.calm = true) : CallR X (.type "set") (rSetS X.K X.prog X.w) := by
  intro pins s σ H xs us Q I r ⟨l, ys, e, hl, h64, q⟩
  subst e
  obtain ⟨u, eu, ru⟩ := r.one
  subst eu; cases ru
  obtain ⟨its, rv, pl, hz⟩ := I.list hl
  have hlen : its.toArray.size = ys.length := by rw [List.size_toArray, ← rv.length, List.length_map]
  refine call_setS (ys := ys) (I.ok.hd hc) pl.isList (fun i v hv => ?_) hlen (by rw [hlen]; unfold scanBound; omega) fun h' tk c pt kp => ?_
  · have hv' : its[i]? = some v := by simpa using hv
    cases hy : ys[i]? with
    | none => rw [rv.none_of (by rw [List.getElem?_map, hy]; rfl)] at hv'; cases hv'
    | some y =>
      obtain ⟨v', h1, ⟨t, h2⟩⟩ := rv.get (i := i) (x := .str y) (by rw [List.getElem?_map, hy]; rfl)
      rw [hv'] at h1; cases h1
      exact ⟨y, t, rfl, h2⟩
  · have e1 : ys.take ys.length = ys := List.take_length
    have po := pt.of
    rw [e1] at po
    exact ⟨.ref _, upd H s.heap.objs.size (SetK X.prog X.w s.heap.objs.size (inK ys) c), I.laid (t' := tk) kp (Nat.le_refl _) (setK_new po), rfl, q _ c (I.hok.fresh (Nat.le_refl _)) pt.le pt.nd⟩
/-- with the word that as many items as texts means that no text stands twice -/
def rSetSN (K : PySem.W.Frag) (P : Program) (w : World) : List V → Hp → VK → Prop := fun xs H Q => ∃ (l : Addr) (ys : List PySem.Str), xs = [.ref l] ∧ SqL K H l (ys.map V.str) ∧ ys.length < 64 ∧
  ∀ (p : Addr) (n : Nat), H p = none → n ≤ ys.length → (ys.Nodup → n = ys.length) → (n = ys.length → ys.Nodup) → Q (.ref p) (upd H p (SetK P w p (inK ys) n))
theorem cr_setSN (hc : X.calm = true) : CallR X (.type "set") (rSetSN X.K X.prog X.w) := by
  intro pins s σ H xs us Q I r ⟨l, ys, e, hl, h64, q⟩
  subst e
  obtain ⟨u, eu, ru⟩ := r.one
  subst eu; cases ru
  obtain ⟨its, rv, pl, hz⟩ := I.list hl
  have hlen : its.toArray.size = ys.length := by rw [List.size_toArray, ← rv.length, List.length_map]
  refine call_setS (ys := ys) (I.ok.hd hc) pl.isList (fun i v hv => ?_) hlen (by rw [hlen]; unfold scanBound; omega) fun h' tk c pt kp => ?_
  · have hv' : its[i]? = some v := by simpa using hv
    cases hy : ys[i]? with
    | none => rw [rv.none_of (by rw [List.getElem?_map, hy]; rfl)] at hv'; cases hv'
    | some y =>
      obtain ⟨v', h1, ⟨t, h2⟩⟩ := rv.get (i := i) (x := .str y) (by rw [List.getElem?_map, hy]; rfl)
      rw [hv'] at h1; cases h1
      exact ⟨y, t, rfl, h2⟩
  · have e1 : ys.take ys.length = ys := List.take_length
    have po := pt.of
    rw [e1] at po
    exact ⟨.ref _, upd H s.heap.objs.size (SetK X.prog X.w s.heap.objs.size (inK ys) c), I.laid (t' := tk) kp (Nat.le_refl _) (setK_new po), rfl, q _ c (I.hok.fresh (Nat.le_refl _)) pt.le pt.nd fun e => by have := pt.dn e; rwa [e1] at this⟩
theorem call_lenK : CallR X (.builtin "len") (fun xs H Q => ∃ (p : Addr) (S : L2.Key → Bool) (n : Nat), xs = [.ref p] ∧ H p = some (SetK X.prog X.w p S n) ∧ n < 64 ∧ Q (.int (n : Nat)) H) := by
  intro pins s σ H xs us Q I r ⟨p, S, n, e, hp, h64, q⟩
  subst e
  obtain ⟨u, eu, ru⟩ := r.one
  subst eu; cases ru
  obtain ⟨o, es, ep, t, h1, h2, h3, _, _, _, h5, h6⟩ := setK_get I hp
  refine call_len_set h1 h2 h3 h5 (by rw [h6]; omega) ⟨.int n, H, I.tok _, ⟨_, by rw [h6]⟩, q⟩
end
end Mc
namespace Mc
section
variable {α : Type} [DecidableEq α]
structure Sc (α : Type) where
  ms : List α
  cap : α → Nat
  heard : α → List α
structure SM (α : Type) where
  pos : α → Option α
  on : α → List α
structure SOk (X : Sc α) (S : SM α) (names : List α) : Prop where
  mem : ∀ c m, S.pos c = some m ↔ c ∈ S.on m
  nd : ∀ m, (S.on m).Nodup
  cap : ∀ m, (S.on m).length ≤ X.cap m
  hd : ∀ c m, c ∈ S.on m → m ∈ X.heard c
  dom : ∀ c, (∃ m, S.pos c = some m) ↔ c ∈ names
def SM.rm (S : SM α) (c x : α) : List α := if S.pos c = some x then (S.on x).erase c else S.on x
def SM.put (S : SM α) (c m : α) : SM α := ⟨fun x => if x = c then some m else S.pos x, fun x => if x = m then S.rm c x ++ [c] else S.rm c x⟩
theorem SM.rm_sub (S : SM α) (c x : α) : ∀ y ∈ S.rm c x, y ∈ S.on x := by
  intro y h; unfold SM.rm at h; split at h
  · exact List.mem_of_mem_erase h
  · exact h
theorem SM.rm_len (S : SM α) (c x : α) : (S.rm c x).length ≤ (S.on x).length := by
  unfold SM.rm; split
  · exact List.length_erase_le
  · exact Nat.le_refl _
theorem SOk.rm_mem {X : Sc α} {S : SM α} {names : List α} (O : SOk X S names) (c x y : α) : y ∈ S.rm c x ↔ y ≠ c ∧ y ∈ S.on x := by
  unfold SM.rm; split
  case isTrue h => rw [List.Nodup.mem_erase_iff (O.nd x)]
  case isFalse h =>
    constructor
    · intro hy; exact ⟨fun e => h (by rw [← e]; exact (O.mem y x).mpr hy), hy⟩
    · exact fun h => h.2
theorem SOk.rm_nd {X : Sc α} {S : SM α} {names : List α} (O : SOk X S names) (c x : α) : (S.rm c x).Nodup := by
  unfold SM.rm; split
  · exact (O.nd x).erase _
  · exact O.nd x
theorem SOk.put {X : Sc α} {S : SM α} {names names' : List α} (O : SOk X S names) {c m : α} (hm : m ∈ X.heard c) (hr : (S.on m).length < X.cap m) (hn : ∀ x, x ∈ names' ↔ x = c ∨ x ∈ names) :
    SOk X (S.put c m) names' := by
  have hc : ∀ x, c ∉ S.rm c x := fun x h => ((O.rm_mem c x c).mp h).1 rfl
  refine ⟨fun y x => ?_, fun x => ?_, fun x => ?_, fun y x h => ?_, fun y => ?_⟩
  · show (if y = c then some m else S.pos y) = some x ↔ y ∈ (if x = m then S.rm c x ++ [c] else S.rm c x)
    by_cases e : y = c
    · subst e; rw [if_pos rfl]
      by_cases e2 : x = m
      · subst e2; simp
      · rw [if_neg e2]; exact ⟨fun z => absurd (Option.some.inj z).symm e2, fun z => absurd z (hc x)⟩
    · rw [if_neg e]
      have := O.rm_mem c x y
      by_cases e2 : x = m
      · rw [if_pos e2]; simp [e, this, O.mem]
      · rw [if_neg e2, this, O.mem]; simp [e]
  · show (if x = m then S.rm c x ++ [c] else S.rm c x).Nodup
    split
    · exact List.nodup_append.mpr ⟨O.rm_nd c x, by simp, fun a ha b hb e => by simp at hb; subst hb; subst e; exact hc x ha⟩
    · exact O.rm_nd c x
  · show (if x = m then S.rm c x ++ [c] else S.rm c x).length ≤ _
    split
    case isTrue e => subst e; rw [List.length_append]; have := S.rm_len c x; simp; omega
    case isFalse e => exact Nat.le_trans (S.rm_len c x) (O.cap x)
  · have h : y ∈ (if x = m then S.rm c x ++ [c] else S.rm c x) := h
    split at h
    case isTrue e =>
      rcases List.mem_append.mp h with h | h
      · exact O.hd _ _ (S.rm_sub c x y h)
      · simp at h; subst h; subst e; exact hm
    case isFalse e => exact O.hd _ _ (S.rm_sub c x y h)
  · show (∃ x, (if y = c then some m else S.pos y) = some x) ↔ _
    by_cases e : y = c
    · rw [if_pos e, hn]; exact ⟨fun _ => .inl e, fun _ => ⟨m, rfl⟩⟩
    · rw [if_neg e, hn, O.dom]; simp [e]
/-- a right seating of some calls -/
def Right (X : Sc α) (names : List α) (T : α → α) : Prop := (∀ c ∈ names, T c ∈ X.heard c) ∧ ∀ m, (names.filter fun c => decide (T c = m)).length ≤ X.cap m
def Seatable (X : Sc α) (names : List α) : Prop := ∃ T, Right X names T
theorem len_sub : ∀ {a b : List α}, a.Nodup → (∀ x ∈ a, x ∈ b) → a.length ≤ b.length
  | [], _, _, _ => Nat.zero_le _
  | x :: a, b, h, s => by
    have hx := List.nodup_cons.mp h
    have h1 := len_sub (a := a) (b := b.erase x) hx.2 fun y hy => (List.mem_erase_of_ne (fun e => by subst e; exact hx.1 hy)).mpr (s y (List.mem_cons_of_mem _ hy))
    have h2 := List.length_erase_of_mem (s x (by simp))
    have h3 : 0 < b.length := List.length_pos_of_mem (s x (by simp))
    simp; omega
theorem sum_le {R : List α} {f g : α → Nat} (h : ∀ m ∈ R, f m ≤ g m) : (R.map f).sum ≤ (R.map g).sum := by
  induction R with
  | nil => exact Nat.le_refl _
  | cons x R ih => simp; have := h x (by simp); have := ih fun m hm => h m (List.mem_cons_of_mem _ hm); omega
theorem sum_cnt {R : List α} (hR : R.Nodup) (T : α → α) : ∀ (A : List α), (∀ a ∈ A, T a ∈ R) → A.length ≤ (R.map fun m => (A.filter fun c => decide (T c = m)).length).sum
  | [], _ => Nat.zero_le _
  | a :: A, h => by
    have ih := sum_cnt hR T A fun x hx => h x (List.mem_cons_of_mem _ hx)
    have key : ∀ (R : List α), T a ∈ R → (R.map fun m => (A.filter fun c => decide (T c = m)).length).sum + 1 ≤ (R.map fun m => ((a :: A).filter fun c => decide (T c = m)).length).sum := by
      intro R
      induction R with
      | nil => intro h; cases h
      | cons r R ihR =>
        intro h
        simp only [List.map_cons, List.sum_cons]
        by_cases e : T a = r
        · have h1 : ((a :: A).filter fun c => decide (T c = r)).length = (A.filter fun c => decide (T c = r)).length + 1 := by rw [List.filter_cons, if_pos (decide_eq_true e)]; rfl
          have h2 : (R.map fun m => (A.filter fun c => decide (T c = m)).length).sum ≤ (R.map fun m => ((a :: A).filter fun c => decide (T c = m)).length).sum := sum_le fun m _ => by
            rw [List.filter_cons]; split <;> simp
          omega
        · have h1 : (A.filter fun c => decide (T c = r)).length ≤ ((a :: A).filter fun c => decide (T c = r)).length := by rw [List.filter_cons]; split <;> simp
          have := ihR ((List.mem_cons.mp h).resolve_left e)
          omega
    have := key R (h a (by simp))
    simp; omega
theorem no_seat {X : Sc α} {S : SM α} {names : List α} (O : SOk X S names) {c : α} (hc : c ∉ names) {R : List α} (hR : R.Nodup) (h1 : ∀ m ∈ X.heard c, m ∈ R) (h2 : ∀ m ∈ R, ¬ (S.on m).length < X.cap m)
    (h3 : ∀ m ∈ R, ∀ y ∈ S.on m, ∀ o ∈ X.heard y, o ∈ R) {names' : List α} (hn : ∀ x, x ∈ names' ↔ x ∈ names ∨ x = c) : ¬ Seatable X names' := by
  rintro ⟨T, T1, T2⟩
  have hmem : ∀ y ∈ R.flatMap S.on, y ∈ names ∧ ∃ m ∈ R, y ∈ S.on m := fun y hy => by
    obtain ⟨m, hm, hy⟩ := List.mem_flatMap.mp hy
    exact ⟨(O.dom y).mp ⟨m, (O.mem y m).mpr hy⟩, m, hm, hy⟩
  have nd : ∀ R : List α, R.Nodup → (R.flatMap S.on).Nodup := by
    intro R hR
    induction R with
    | nil => exact List.nodup_nil
    | cons r R ih =>
      have hr := List.nodup_cons.mp hR
      rw [List.flatMap_cons]
      refine List.nodup_append.mpr ⟨O.nd r, ih hr.2, fun a ha b hb e => ?_⟩
      subst e
      obtain ⟨m, hm, hb⟩ := List.mem_flatMap.mp hb
      have e1 := (O.mem a r).mpr ha
      have e2 := (O.mem a m).mpr hb
      rw [e1] at e2
      cases Option.some.inj e2
      exact hr.1 hm
  have ndA : (c :: R.flatMap S.on).Nodup := List.nodup_cons.mpr ⟨fun h => hc (hmem c h).1, nd R hR⟩
  have hA := sum_cnt hR T (c :: R.flatMap S.on) fun a ha => by
    rcases List.mem_cons.mp ha with e | e
    · subst e; exact h1 _ (T1 _ ((hn a).mpr (.inr rfl)))
    · obtain ⟨h, m, hm, hy⟩ := hmem a e
      exact h3 m hm a hy _ (T1 _ ((hn a).mpr (.inl h)))
  have hB := sum_le (R := R) (f := fun m => ((c :: R.flatMap S.on).filter fun c => decide (T c = m)).length) (g := fun m => (S.on m).length) fun m hm => by
    refine Nat.le_trans (Nat.le_trans (len_sub (b := names'.filter fun c => decide (T c = m)) (ndA.filter _) fun x hx => ?_) (T2 m)) (Nat.le_of_not_lt (h2 m hm))
    rw [List.mem_filter] at hx ⊢
    refine ⟨(hn x).mpr ?_, hx.2⟩
    rcases List.mem_cons.mp hx.1 with e | e
    · exact .inr e
    · exact .inl (hmem x e).1
  have hl : ∀ R : List α, (R.flatMap S.on).length = (R.map fun m => (S.on m).length).sum := fun R => by rw [List.length_flatMap]
  rw [List.length_cons, hl] at hA
  omega
theorem SOk.seatable {X : Sc α} {S : SM α} {names : List α} (O : SOk X S names) (hn : names.Nodup) : Seatable X names := by
  cases names with
  | nil => exact ⟨id, ⟨fun c h => (nomatch h), fun m => Nat.zero_le _⟩⟩
  | cons n ns =>
    refine ⟨fun c => (S.pos c).getD n, fun c hc => ?_, fun m => ?_⟩
    · obtain ⟨m, hm⟩ := (O.dom c).mpr hc
      show (S.pos c).getD n ∈ _
      rw [hm]; exact O.hd c m ((O.mem c m).mp hm)
    · refine Nat.le_trans (len_sub (b := S.on m) (hn.filter _) fun x hx => ?_) (O.cap m)
      rw [List.mem_filter] at hx
      obtain ⟨m', hm⟩ := (O.dom x).mpr hx.1
      have h2 : (S.pos x).getD n = m := of_decide_eq_true hx.2
      rw [hm] at h2
      exact (O.mem x m).mp (by rw [hm]; exact congrArg some h2)
/-- the search: which masts were come to, and how -/
inductive Ch (X : Sc α) (S : SM α) (c : α) : List (α × α × Option α) → Prop
  | nil : Ch X S c []
  | snoc {L : List (α × α × Option α)} {m y : α} {l : Option α} : Ch X S c L → m ∈ X.heard y → (l = none ∧ y = c ∨ ∃ m', l = some m' ∧ m' ∈ L.map (·.1) ∧ y ∈ S.on m') → m ∉ L.map (·.1) → Ch X S c (L ++ [(m, y, l)])
theorem Ch.nodup {X : Sc α} {S : SM α} {c : α} {L : List (α × α × Option α)} (h : Ch X S c L) : (L.map (·.1)).Nodup := by
  induction h with
  | nil => exact List.nodup_nil
  | snoc _ _ _ hn ih => rw [List.map_append]; exact List.nodup_append.mpr ⟨ih, by simp, fun a ha b hb e => by simp at hb; subst hb; subst e; exact hn ha⟩
theorem Ch.at {X : Sc α} {S : SM α} {c : α} {L : List (α × α × Option α)} (h : Ch X S c L) {m : α} (hm : m ∈ L.map (·.1)) :
    ∃ L1 y l L2, L = L1 ++ (m, y, l) :: L2 ∧ Ch X S c L1 ∧ m ∈ X.heard y ∧ (l = none ∧ y = c ∨ ∃ m', l = some m' ∧ m' ∈ L1.map (·.1) ∧ y ∈ S.on m') ∧ m ∉ L1.map (·.1) := by
  induction h with
  | nil => cases hm
  | @snoc L m2 y l hL h1 h2 h3 ih =>
    rw [List.map_append, List.mem_append] at hm
    rcases hm with hm | hm
    · obtain ⟨L1, y', l', L2, e, r⟩ := ih hm
      exact ⟨L1, y', l', L2 ++ [(m2, y, l)], by rw [e]; simp, r⟩
    · simp at hm; subst hm
      exact ⟨L, y, l, [], rfl, hL, h1, h2, h3⟩
/-- the way back: what holds ahead of each move -/
structure Lead (X : Sc α) (S : SM α) (c : α) (L : List (α × α × Option α)) (S' : SM α) (names : List α) (m : α) (n : Nat) : Prop where
  ok : SOk X S' names
  c0 : c ∉ names
  ch : Ch X S c L
  room : (S'.on m).length < X.cap m
  here : m ∈ L.map (·.1)
  pre : ∀ L1 y l L2, L = L1 ++ (m, y, l) :: L2 → L1.length < n ∧ ∀ x ∈ L1.map (·.1), S'.on x = S.on x
theorem Lead.step {X : Sc α} {S : SM α} {c : α} {L : List (α × α × Option α)} {S' : SM α} {names : List α} {m : α} {n : Nat} (I : Lead X S c L S' names m n) :
    ∃ y l, (m, y, l) ∈ L ∧ m ∈ X.heard y ∧ (l = none ∧ y = c ∧ SOk X (S'.put y m) (names ++ [c]) ∨ ∃ m' k, l = some m' ∧ k < n ∧ Lead X S c L (S'.put y m) names m' k) := by
  obtain ⟨L1, y, l, L2, e, hc1, hm, hl, hn⟩ := I.ch.at I.here
  refine ⟨y, l, by rw [e]; simp, hm, ?_⟩
  obtain ⟨hk, hp⟩ := I.pre _ _ _ _ e
  rcases hl with ⟨rfl, rfl⟩ | ⟨m', rfl, hm', hy⟩
  · exact .inl ⟨rfl, rfl, I.ok.put hm I.room fun x => by simp; exact Or.comm⟩
  · right
    obtain ⟨La, ya, la, Lb, ea, ca, _⟩ := hc1.at hm'
    have hy' : y ∈ S'.on m' := by rw [hp m' hm']; exact hy
    have py : S'.pos y = some m' := (I.ok.mem y m').mpr hy'
    have yn : y ∈ names := (I.ok.dom y).mp ⟨m', py⟩
    have mne : m' ≠ m := fun z => hn (by rw [← z]; exact hm')
    refine ⟨m', L1.length, rfl, hk, I.ok.put hm I.room fun x => ⟨fun h => .inr h, fun h => h.elim (fun e => by rw [e]; exact yn) id⟩, I.c0, I.ch, ?_, ?_, ?_⟩
    · show (if m' = m then S'.rm y m' ++ [y] else S'.rm y m').length < _
      rw [if_neg mne]
      unfold SM.rm
      rw [if_pos py, List.length_erase_of_mem hy']
      have := I.ok.cap m'
      have : 0 < (S'.on m').length := List.length_pos_of_mem hy'
      omega
    · rw [e, ea]; simp
    · intro La' ya' la' Lb' e'
      have nd := I.ch.nodup
      -- the place of m' is one only
      have hLa : La' = La := by
        have e1 : L = La ++ (m', ya, la) :: (Lb ++ (m, y, some m') :: L2) := by rw [e, ea]; simp
        have nd1 := nd
        rw [e'] at nd
        rw [e1] at nd1
        have key : ∀ (A A' : List (α × α × Option α)) (z z' : α × Option α) (B B' : List (α × α × Option α)), A ++ (m', z) :: B = A' ++ (m', z') :: B' → m' ∉ A.map (·.1) → m' ∉ A'.map (·.1) → A = A' := by
          intro A
          induction A with
          | nil =>
            intro A' z z' B B' h _ h2
            cases A' with
            | nil => rfl
            | cons a A' => simp at h; exact absurd (by rw [← h.1]; simp) h2
          | cons a A ih =>
            intro A' z z' B B' h h1 h2
            cases A' with
            | nil => simp at h; exact absurd (by rw [h.1]; simp) h1
            | cons a' A' =>
              simp only [List.cons_append, List.cons.injEq] at h
              rw [h.1, ih A' z z' B B' h.2 (fun q => h1 (List.mem_cons_of_mem _ q)) (fun q => h2 (List.mem_cons_of_mem _ q))]
        have n1 : m' ∉ La.map (·.1) := by
          rw [List.map_append] at nd1
          intro q
          exact (List.nodup_append.mp nd1).2.2 m' q m' (by simp) rfl
        have n2 : m' ∉ La'.map (·.1) := by
          rw [List.map_append] at nd
          intro q
          exact (List.nodup_append.mp nd).2.2 m' q m' (by simp) rfl
        exact key La' La _ _ _ _ (e'.symm.trans e1) n2 n1
      subst hLa
      have nd1 := hc1.nodup
      rw [ea, List.map_append] at nd1
      refine ⟨by rw [ea]; simp, fun x hx => ?_⟩
      have xm' : x ≠ m' := fun z => (List.nodup_append.mp nd1).2.2 x hx m' (by simp) z
      have hxL : x ∈ L1.map (·.1) := by rw [ea, List.map_append]; exact List.mem_append_left _ hx
      have xm : x ≠ m := fun z => hn (by rw [← z]; exact hxL)
      show (if x = m then S'.rm y x ++ [y] else S'.rm y x) = S.on x
      rw [if_neg xm]
      unfold SM.rm
      rw [if_neg (fun z => xm' (by rw [py] at z; exact (Option.some.inj z).symm))]
      exact hp x hxL
end
end Mc
namespace Mc
open PySem L2 PySem.Spec PyProof.Rows
/-- a statement that is never come to -/
theorem ps_no {X : Cx} {st : Stmt} : PS X st (fun _ _ _ => False) := ⟨fun _ _ _ _ _ _ h => h.elim⟩
theorem dc_it {J : It} {n : Nat} {G : Hp → Prop} {Y : Nat → Hp → V → Hp → Prop} (w : Walk J n G Y) {g : TG} {tt : TT} {tk tv : TE} {vs : List Nat} {σ : L2.St} {H1 : Hp} {D : Addr} {Qd : Hp → Prop} (Pv : Nat → Hp → Prop) (h0 : Pv 0 (upd H1 D (.dK [])))
    (hG : ∀ i H, i ≤ n → Pv i H → G H)
    (hs : ∀ i x H H', i < n → Pv i H → Y i H x H' → g x (wipe σ vs) H' fun σ2 H2 => wipe σ2 vs = wipe σ vs ∧ tt σ2 H2 fun b H3 =>
      if b = true then tk σ2 H3 fun y H4 => tv σ2 H4 fun z H5 => ∃ kvs k, y = kV k ∧ H5 D = some (.dK kvs) ∧ kvs.length < sizeLine ∧ Pv (i + 1) (upd H5 D (.dK (putK kvs k z))) else Pv (i + 1) H3) (hd : ∀ H, Pv n H → Qd H) :
    ∃ W : Nat → Nat → Hp → Prop, (∃ m, W 0 m (upd H1 D (.dK []))) ∧ ∀ i m H, W i m H →
      (J.stop i H ∧ Qd H) ∨ (J.go i H ∧ ∃ Nx : Hp → Prop, (∀ H', Nx H' → ∃ m', m' < m ∧ W (i + 1) m' H') ∧ ∀ x H', J.yld i H x H' → g x (wipe σ vs) H' fun σ2 H2 => wipe σ2 vs = wipe σ vs ∧ tt σ2 H2 fun b H3 =>
        if b = true then tk σ2 H3 fun y H4 => tv σ2 H4 fun z H5 => ∃ kvs k, y = kV k ∧ H5 D = some (.dK kvs) ∧ kvs.length < sizeLine ∧ Nx (upd H5 D (.dK (putK kvs k z))) else Nx H3) := by
  refine ⟨fun i m H => i + m = n ∧ Pv i H, ⟨n, by omega, h0⟩, fun i m H ⟨e, p⟩ => ?_⟩
  cases m with
  | zero =>
    cases (Nat.add_zero i).symm.trans e
    exact .inl ⟨w.stops H (hG _ H (Nat.le_refl _) p), hd H p⟩
  | succ m =>
    have lt : i < n := by omega
    have q := hG i H (Nat.le_of_lt lt) p
    exact .inr ⟨w.goes i H lt q, fun H' => Pv (i + 1) H', fun H' p' => ⟨m, Nat.lt_succ_self m, by omega, p'⟩, fun x H' y => hs i x H H' lt p (w.yields i H x H' lt q y)⟩
/-! dicts whose keys are texts -/
section
variable {β : Type} {f : β → V} {l : List (PySem.Str × β)} {k : PySem.Str} {v : β}
def kvT (f : β → V) (l : List (PySem.Str × β)) : List (L2.Key × V) := l.map fun x => (Sum.inr x.1, f x.2)
def getT (l : List (PySem.Str × β)) (k : PySem.Str) : Option β := (l.find? fun x => decide (x.1 = k)).map (·.2)
def keysT (l : List (PySem.Str × β)) : List PySem.Str := l.map (·.1)
theorem kvT_app (l' : List (PySem.Str × β)) : kvT f (l ++ l') = kvT f l ++ kvT f l' := List.map_append
theorem getT_nil : getT ([] : List (PySem.Str × β)) k = none := rfl
theorem getT_cons (x : PySem.Str × β) : getT (x :: l) k = if x.1 = k then some x.2 else getT l k := by
  unfold getT
  rw [List.find?_cons]
  by_cases e : x.1 = k
  · rw [decide_eq_true e, if_pos e]; rfl
  · rw [decide_eq_false e, if_neg e]
theorem val_T : valV (kvT f l) (Sum.inr k : L2.Key) = (getT l k).map f := by
  induction l with
  | nil => rfl
  | cons x l ih =>
    rw [getT_cons]
    by_cases e : x.1 = k
    · rw [if_pos e]
      exact valV_pos (p := ((Sum.inr x.1 : L2.Key), f x.2)) (congrArg Sum.inr e)
    · rw [if_neg e, ← ih]
      exact valV_neg (p := ((Sum.inr x.1 : L2.Key), f x.2)) fun z => e (Sum.inr.inj z)
theorem getT_in (h : getT l k = some v) : (k, v) ∈ l := by
  induction l with
  | nil => cases h
  | cons x l ih =>
    rw [getT_cons] at h
    by_cases e : x.1 = k
    · rw [if_pos e] at h
      cases Option.some.inj h
      rw [← e]; exact .head _
    · rw [if_neg e] at h
      exact .tail _ (ih h)
theorem getT_mem (nd : (keysT l).Nodup) (h : (k, v) ∈ l) : getT l k = some v := by
  induction l with
  | nil => cases h
  | cons x l ih =>
    have nd' := List.nodup_cons.mp nd
    rw [getT_cons]
    rcases List.mem_cons.mp h with e | e
    · rw [← e, if_pos rfl]
    · rw [if_neg fun z => nd'.1 (by show x.1 ∈ _; rw [z]; exact List.mem_map.mpr ⟨_, e, rfl⟩)]
      exact ih nd'.2 e
theorem getT_none : getT l k = none ↔ k ∉ keysT l := by
  induction l with
  | nil => exact ⟨fun _ h => (nomatch h), fun _ => rfl⟩
  | cons x l ih =>
    rw [getT_cons]
    by_cases e : x.1 = k
    · rw [if_pos e]
      exact ⟨fun h => (nomatch h), fun h => absurd (by rw [← e]; exact .head _) h⟩
    · rw [if_neg e, ih]
      exact ⟨fun h z => (List.mem_cons.mp z).elim (fun q => e q.symm) h, fun h z => h (.tail _ z)⟩
theorem getT_key (h : k ∈ keysT l) : ∃ v, getT l k = some v := by
  cases e : getT l k with
  | none => exact absurd h (getT_none.mp e)
  | some v => exact ⟨v, rfl⟩
theorem put_new (h : k ∉ keysT l) : putK (kvT f l) (Sum.inr k : L2.Key) (f v) = kvT f (l ++ [(k, v)]) := by
  rw [putK_new _ (by rw [val_T, getT_none.mpr h]; rfl), kvT_app]; rfl
theorem put_old (h : k ∈ keysT l) : putK (kvT f l) (Sum.inr k : L2.Key) (f v) = kvT f (l.map fun x => if x.1 = k then (x.1, v) else x) := by
  unfold putK
  rw [if_pos (by
    obtain ⟨v', hv⟩ := getT_key h
    rw [valV_any, val_T, hv]; rfl)]
  unfold kvT
  rw [List.map_map, List.map_map]
  refine List.map_congr_left fun x _ => ?_
  show (if (Sum.inr x.1 : L2.Key) = Sum.inr k then _ else _) = _
  by_cases e : x.1 = k
  · rw [if_pos (congrArg Sum.inr e)]
    show _ = ((Sum.inr (if x.1 = k then (x.1, v) else x).1 : L2.Key), f (if x.1 = k then (x.1, v) else x).2)
    rw [if_pos e]
  · rw [if_neg fun z => e (Sum.inr.inj z)]
    show _ = ((Sum.inr (if x.1 = k then (x.1, v) else x).1 : L2.Key), f (if x.1 = k then (x.1, v) else x).2)
    rw [if_neg e]
theorem drop_T : dropK (kvT f l) (Sum.inr k : L2.Key) = kvT f (l.filter fun x => decide (x.1 ≠ k)) := by
  unfold dropK kvT
  rw [List.filter_map]
  congr 1
  refine List.filter_congr fun x _ => ?_
  show decide ((Sum.inr x.1 : L2.Key) ≠ Sum.inr k) = decide (x.1 ≠ k)
  simp
/-- the items in another turn of the keys -/
theorem perm_T [Inhabited β] (nd : (keysT l).Nodup) {ys : List PySem.Str} (h : ys.Perm (keysT l)) : (ys.map fun y => (y, (getT l y).getD default)).Perm l := by
  refine (h.map _).trans ?_
  have e : (keysT l).map (fun y => (y, (getT l y).getD default)) = l := by
    unfold keysT
    rw [List.map_map]
    refine (List.map_congr_left fun x hx => ?_).trans (List.map_id l)
    show (x.1, (getT l x.1).getD default) = x
    rw [getT_mem nd (v := x.2) hx]; rfl
  rw [e]
end
theorem kvT_get {β : Type} {f : β → V} {l : List (PySem.Str × β)} {i : Nat} {k : L2.Key} {v : V} (h : (kvT f l)[i]? = some (k, v)) : ∃ x, l[i]? = some x ∧ k = Sum.inr x.1 ∧ v = f x.2 := by
  unfold kvT at h
  rw [List.getElem?_map] at h
  cases e : l[i]? with
  | none => rw [e] at h; cases h
  | some x => rw [e] at h; cases Option.some.inj h; exact ⟨x, rfl, rfl, rfl⟩
theorem un_same {H H' : Hp} {d : Addr} {od : Obj} {u : HO} (s : Same (upd H d (.frz od u)) H') (h : H d = some u) : Same H (upd H' d u) := fun b o z => by
  by_cases e : b = d
  · subst e; rw [h] at z; cases z; exact upd_same
  · rw [upd_ne e]; exact s b o (by rw [upd_ne e]; exact z)
theorem keysT_kv {β : Type} {f : β → V} (l : List (PySem.Str × β)) : (kvT f l).map (·.1) = (keysT l).map Sum.inr := by
  unfold kvT keysT; rw [List.map_map, List.map_map]; rfl
theorem dgetT {β : Type} {f : β → V} {l : List (PySem.Str × β)} {k : PySem.Str} {v : β} {H : Hp} {a : Addr} (h : Rd H a (.dK (kvT f l))) (e : getT l k = some v) : DGet H a (.str k) (some (f v)) := .inl ⟨_, Sum.inr k, h, rfl, by rw [val_T, e]; rfl⟩
theorem dgetN {β : Type} {f : β → V} {l : List (PySem.Str × β)} {k : PySem.Str} {H : Hp} {a : Addr} (h : Rd H a (.dK (kvT f l))) : DGet H a (.str k) ((getT l k).map f) := .inl ⟨_, Sum.inr k, h, rfl, val_T.symm⟩
theorem nd_take {α : Type} {ys : List α} {i : Nat} {m : α} (nd : ys.Nodup) (hi : ys[i]? = some m) : m ∉ ys.take i := by
  have h2 : (ys.take (i + 1)).Nodup := nd.sublist (List.take_sublist _ _)
  rw [List.take_add_one, hi] at h2
  exact fun z => (List.nodup_append.mp h2).2.2 m z m (by simp) rfl
theorem keysT_mk {β : Type} {g : PySem.Str → β} (ys : List PySem.Str) : keysT (ys.map fun y => (y, g y)) = ys := by
  unfold keysT; rw [List.map_map]; exact List.map_id ys
theorem put_mk {β : Type} {f : β → V} {g : PySem.Str → β} {ys : List PySem.Str} {i : Nat} {m : PySem.Str} (nd : ys.Nodup) (hi : ys[i]? = some m) :
    putK (kvT f ((ys.take i).map fun y => (y, g y))) (Sum.inr m : L2.Key) (f (g m)) = kvT f ((ys.take (i + 1)).map fun y => (y, g y)) := by
  rw [put_new (by rw [keysT_mk]; exact nd_take nd hi), List.take_add_one, hi, List.map_append]; rfl
theorem len_mk {β : Type} {f : β → V} {g : PySem.Str → β} {ys : List PySem.Str} {i : Nat} (h : ys.length < 64) : (kvT f ((ys.take i).map fun y => (y, g y))).length < sizeLine := by
  unfold kvT; rw [List.length_map, List.length_map, List.length_take]
  exact Nat.lt_of_le_of_lt (Nat.min_le_right _ _) (Nat.lt_of_lt_of_le h (by decide))
theorem via {α : Type} {R G : α → Prop} {g : Prop} (h : (∀ x, R x → G x) → g) (t : ∀ x, R x → G x) : g := h t
end Mc
namespace Mc
open PySem L2 PySem.Spec PyProof.Rows
def top (i : Nat) : Stmt := PySem.Challenge.pw_mastcalls_k08_whole_falls.main.body.getD i (.Pass ⟨0, 0, 0, 0⟩)
/-! ### the draws -/
abbrev sNum : Stmt := top 32
abbrev sTake : Stmt := top 33
def spNum (K : PySem.W.Frag) : Sp := fun vs H Q _ => ∃ (a : Addr) (ns : List Int) (k : Int), vs = [.ref a, .int k] ∧ SqL K H a (ns.map V.int) ∧ ns.length ≤ 63 ∧
  ∀ (v : Int) (H' : Hp), 0 ≤ v → Same H H' → Q (.int v) H'
def spTake (K : PySem.W.Frag) : Sp := fun vs H Q _ => ∃ (M : List Addr) (d a : Addr) (m : Int), vs = [.ref d, .int m] ∧ Dr K M d a H ∧ 0 < m ∧
  ∀ (v : Int) (H' : Hp), 0 ≤ v → v < m → Dr K M d a H' → Kp [d] H H' → Q (.int v) H'
/-- what the draws ask of the module -/
structure TxD (K : PySem.W.Frag) (mg : Str → Option Value) (fN fT : Addr) : Prop where
  len : mg "len" = none
  int : mg "int" = none
  abs : mg "abs" = none
  num : mg "_law_number" = some (.ref fN)
  take : mg "_law_take" = some (.ref fT)
section
variable {P : Program} {w : World} {K : PySem.W.Frag} {mg : Str → Option Value} {base : Heap}
theorem scNum : FnScope ["script", "index", "cell", "blend"] ["script", "index"] (defScope sNum) := ⟨rfl, rfl, rfl, by decide +kernel, rfl, by decide +kernel, by decide +kernel⟩
theorem ok_num {f fN fT : Addr} {fd : FuncData} (F : Fun K "_law_number" "_law_number" sNum f fd) (T : TxD K mg fN fT) : FnOk P w K mg base CX0 1 f fd ["script", "index"] (spNum K) := by
  refine F.ok scNum (fun vs H Q E h => ?_) (fun cdv A outer s H vs Q E hr h => ?_)
  · obtain ⟨a, ns, k, rfl, _⟩ := h
    rfl
  · obtain ⟨a, ns, k, rfl, hS, hl, q⟩ := h
    refine ⟨_, pss_cons (ps_if (pt_cmpR (op_eqD hr.units) (pv 0) (pe_lst pa_nil) (nomark _)) (pss_one (ps_ret (pe_callTy call_int1 (by rfl) T.int boot_int (pa_cons (pe_op op_mod (pe_op op_add (pe_op op_mul (pv 1) pe_int) pe_int) pe_int) pa_nil)))) pss_nil)
      (pss_cons (ps_set (i := 2) scNum.nd rfl (Or.inl rfl) (pe_ix ix_list (pv 0) (pe_op op_mod (pv 1) (pe_callB call_len_seq (by rfl) T.len PySem.boot_len (pa_cons (pv 0) pa_nil))) (fun _ _ => rfl)))
      (pss_cons (ps_if (pt_cmpR op_ge (pe_callB call_abs (by rfl) T.abs boot_abs (pa_cons (pv 2) pa_nil)) (pe_op op_pow pe_int pe_int) (nomark _)) (pss_one (ps_set (i := 2) scNum.nd rfl (Or.inl rfl) (pe_op op_mod (pv 2) (pe_op op_pow pe_int pe_int)))) pss_nil)
      (pss_cons (ps_set (i := 3) scNum.nd rfl (Or.inl rfl) (pe_op op_mod (pe_op op_add (pe_op op_mul (pe_op op_add (pv 2) (pe_op op_mul pe_int (pv 1))) pe_int) (pe_op op_mul pe_int (pe_callB call_len_seq (by rfl) T.len PySem.boot_len (pa_cons (pv 0) pa_nil)))) pe_int))
      (pss_one (ps_ret (pe_callTy call_int1 (by rfl) T.int boot_int (pa_cons (pe_op op_mod (pe_op op_add (pe_op op_mul (pe_op op_mod (pe_op op_mul (pv 3) pe_int) pe_int) pe_int) (pv 1)) pe_int) pa_nil))))))), ?_⟩
    refine ⟨_, rfl, Nat.zero_le _, fun p hp => ?_⟩
    have s1 : Same H (upd H p (.lst [])) := fun b o e => by rw [upd_ne (ne_of_none e hp)]; exact e
    have hS1 := s1.seq hS
    refine ⟨pdI ns, pdI [], dp_ints hS1, dp_ints (SqL.of upd_same), shaped_ints _, shaped_ints _, _, rfl, ?_⟩
    refine ite2 (fun _ => ?_) (fun e => ?_)
    · refine ⟨_, rfl, _, _, rfl, rfl, .inr (by decide), _, _, rfl, rfl, _, _, rfl, rfl, (by show (0 : Int) < _; decide), .inl ⟨_, rfl, ?_⟩⟩
      exact q _ _ (Int.emod_nonneg _ (by decide)) s1
    · have hn : 0 < ns.length := by
        rw [eqv_ints] at e
        cases ns with
        | nil => exact absurd (decide_eq_true rfl) e
        | cons x r => exact Nat.succ_pos _
      have hlen : ((ns.map V.int).length : Int) = (ns.length : Int) := by rw [List.length_map]
      have hlt : (k % (((ns.map V.int).length : Nat) : Int)).toNat < ns.length := by
        have h1 := Int.emod_nonneg k (b := (((ns.map V.int).length : Nat) : Int)) (by omega)
        have h2 := Int.emod_lt_of_pos k (b := (((ns.map V.int).length : Nat) : Int)) (by omega)
        omega
      refine ⟨_, rfl, _, rfl, _, rfl, a, _, rfl, .inl hS1, _, _, rfl, rfl, (by show (0 : Int) < _; omega), a, _, _, V.int ns[(k % (((ns.map V.int).length : Nat) : Int)).toNat], rfl, rfl, hS1, at_of (j := (k % (((ns.map V.int).length : Nat) : Int)).toNat) (by
        have h1 := Int.emod_nonneg k (b := (((ns.map V.int).length : Nat) : Int)) (by omega)
        omega) (by rw [List.getElem?_map, List.getElem?_eq_getElem hlt]; rfl), ?_⟩
      generalize ns[(k % (((ns.map V.int).length : Nat) : Int)).toNat] = c
      refine ⟨_, rfl, _, rfl, _, _, rfl, rfl, ⟨by decide, by decide, by decide⟩, _, _, rfl, rfl, _, rfl, ?_⟩
      refine ite2 (fun _ => ?_) (fun _ => ?_)
      refine ⟨_, rfl, _, _, rfl, rfl, ⟨by decide, by decide, by decide⟩, _, _, rfl, rfl, (by show (0 : Int) < _; decide), ?_⟩
      all_goals
        refine ⟨_, rfl, _, rfl, _, _, rfl, rfl, .inl ⟨by decide, by decide⟩, _, _, rfl, rfl, _, _, rfl, rfl, .inr (by decide), _, rfl, a, _, rfl, .inl hS1, _, _, rfl, rfl, .inl ⟨by decide, by decide⟩, _, _, rfl, rfl, _, _, rfl, rfl, (by show (0 : Int) < _; decide), ?_⟩
        refine ⟨_, rfl, _, _, rfl, rfl, .inr (by decide), _, _, rfl, rfl, (by show (0 : Int) < _; decide), _, _, rfl, rfl, .inr (by decide), _, rfl, _, _, rfl, rfl, _, _, rfl, rfl, (by show (0 : Int) < _; decide), .inl ⟨_, rfl, ?_⟩⟩
        exact q _ _ (Int.emod_nonneg _ (by decide)) s1
theorem scTake : FnScope ["draw", "many"] ["draw", "many"] (defScope sTake) := ⟨rfl, rfl, rfl, by decide +kernel, rfl, by decide +kernel, by decide +kernel⟩
theorem ok_take {f fN fT : Addr} {fd fdN : FuncData} (F : Fun K "_law_take" "_law_take" sTake f fd) (T : TxD K mg fN fT) (FN : Fun K "_law_number" "_law_number" sNum fN fdN) (bN : Binds K fdN ["script", "index"] []) :
    FnOk P w K mg base CX0 2 f fd ["draw", "many"] (spTake K) := by
  have GN : FnOk P w K mg base CX0 1 fN fdN ["script", "index"] (spNum K) := ok_num FN T
  refine F.ok scTake (fun vs H Q E h => ?_) (fun cdv A outer s H vs Q E hr h => ?_)
  · obtain ⟨M, d, a, m, rfl, _⟩ := h
    rfl
  · obtain ⟨M, d, a, m, rfl, D, hm, q⟩ := h
    obtain ⟨⟨k, hd⟩, hM, ns, hl, hs⟩ := id D
    refine ⟨_, pss_cons (ps_augS (pv 0) pe_int get_list pe_int ip_add set_list)
      (pss_one (ps_ret (pe_op op_mod (pe_callTy call_int1 (by rfl) T.int boot_int (pa_cons (pe_call GN hr rfl T.num FN.kp bN .nil pass0 (pa_cons (pe_ix ix_list (pv 0) pe_int (fun _ _ => rfl)) (pa_cons (pe_callTy call_int1 (by rfl) T.int boot_int (pa_cons (pe_ix ix_list (pv 0) pe_int (fun _ _ => rfl)) pa_nil)) pa_nil))) pa_nil)) (pv 1)))), ?_⟩
    refine ⟨_, rfl, d, _, _, .int k, rfl, rfl, SqL.of hd, rfl, _, _, rfl, rfl, d, _, _, 1, rfl, rfl, hd, rfl, ?_⟩
    have hd1 : (upd H d (HO.lst ([V.ref a, V.int k].set 1 (V.int (k + 1))))) d = some (.lst [.ref a, .int (k + 1)]) := upd_same
    have k1 : Kp [d] H (upd H d (HO.lst ([V.ref a, V.int k].set 1 (V.int (k + 1))))) := Kp.at (List.mem_singleton.mpr rfl)
    have up : ∀ b ∈ [d], b ∈ M := fun b z => by rw [List.mem_singleton.mp z]; exact hM
    refine ⟨_, rfl, d, _, _, .ref a, rfl, rfl, SqL.of hd1, rfl, _, rfl, d, _, _, .int (k + 1), rfl, rfl, SqL.of hd1, rfl, .inl ⟨_, rfl, ?_⟩⟩
    refine ⟨a, ns, k + 1, rfl, hs _ (k1.mono up), hl, fun v H' hv s1 => .inl ⟨_, rfl, ?_⟩⟩
    refine ⟨_, rfl, _, _, rfl, rfl, hm, ?_⟩
    have k2 := k1.trans (Kp.same s1)
    exact q _ H' (Int.emod_nonneg _ (by omega)) (Int.emod_lt_of_pos _ hm) (D.next (k2.mono up) (s1 _ _ hd1)) k2
end
abbrev sPick : Stmt := top 34
def spPick (K : PySem.W.Frag) : Sp := fun vs H Q _ => ∃ (M : List Addr) (d a l : Addr) (xs : List V), vs = [.ref d, .ref l] ∧ Dr K M d a H ∧ 0 < xs.length ∧ (∀ H', Kp [d] H H' → SqL K H' l xs ∨ SqT K H' l xs) ∧
  ∀ (j : Nat) (x : V) (H' : Hp), xs[j]? = some x → Dr K M d a H' → Kp [d] H H' → Q x H'
section
variable {P : Program} {w : World} {K : PySem.W.Frag} {mg : Str → Option Value} {base : Heap}
theorem scPick : FnScope ["draw", "items"] ["draw", "items"] (defScope sPick) := ⟨rfl, rfl, rfl, by decide +kernel, rfl, by decide +kernel, by decide +kernel⟩
theorem ok_pick {f fN fT : Addr} {fd fdN fdT : FuncData} (F : Fun K "_law_pick" "_law_pick" sPick f fd) (T : TxD K mg fN fT) (FN : Fun K "_law_number" "_law_number" sNum fN fdN) (bN : Binds K fdN ["script", "index"] [])
    (FT : Fun K "_law_take" "_law_take" sTake fT fdT) (bT : Binds K fdT ["draw", "many"] []) : FnOk P w K mg base CX0 3 f fd ["draw", "items"] (spPick K) := by
  have GT : FnOk P w K mg base CX0 2 fT fdT ["draw", "many"] (spTake K) := ok_take FT T FN bN
  refine F.ok scPick (fun vs H Q E h => ?_) (fun cdv A outer s H vs Q E hr h => ?_)
  · obtain ⟨M, d, a, l, xs, rfl, _⟩ := h
    rfl
  · obtain ⟨M, d, a, l, xs, rfl, D, hx, hs, q⟩ := h
    refine ⟨_, pss_one (ps_ret (pe_ix ix_seq (pv 1) (pe_call GT hr rfl T.take FT.kp bT .nil pass0 (pa_cons (pv 0) (pa_cons (pe_callB call_len_seq (by rfl) T.len PySem.boot_len (pa_cons (pv 1) pa_nil)) pa_nil))) (fun _ _ => rfl))), ?_⟩
    refine ⟨_, rfl, _, rfl, _, rfl, l, xs, rfl, hs H (Kp.refl _ H), M, d, a, _, rfl, D, (by show (0 : Int) < _; omega), fun v H' h0 h1 D1 k1 => ?_⟩
    have hj : v.toNat < xs.length := by omega
    have e : v = ((v.toNat : Nat) : Int) := by omega
    have hg : xs[v.toNat]? = some xs[v.toNat] := List.getElem?_eq_getElem hj
    have fin := q v.toNat _ H' hg D1 k1
    rcases hs H' k1 with hL | hT
    · exact .inl ⟨l, xs, v, _, rfl, rfl, hL, at_of e hg, fin⟩
    · exact .inr (.inl ⟨l, xs, v, _, rfl, rfl, hT, at_of e hg, fin⟩)
end
abbrev sIsNum : Stmt := top 7
abbrev sIsName : Stmt := top 20
def spIsNum : Sp := fun vs H Q _ => ∃ n lo hi : Int, vs = [.int n, .int lo, .int hi] ∧ Q (.bl (decide (lo ≤ n) && decide (n ≤ hi))) H
/-- names that are well made -/
def letters : PySem.Str := "abcdefghijklmnopqrstuvwxyz"
def figures : PySem.Str := "0123456789"
def okN (x : PySem.Str) : Prop := 1 ≤ x.length ∧ x.length ≤ 8 ∧ (∃ c, x.cps.toList[0]? = some c ∧ c ∈ letters.cps.toList) ∧ ∀ c ∈ x.cps.toList, c ∈ letters.cps.toList ∨ c ∈ figures.cps.toList
instance (x : PySem.Str) : Decidable (okN x) := by
  unfold okN
  have : Decidable (∃ c, x.cps.toList[0]? = some c ∧ c ∈ letters.cps.toList) := match h : x.cps.toList[0]? with
    | none => .isFalse fun ⟨c, e, _⟩ => by cases e
    | some c => if hc : c ∈ letters.cps.toList then .isTrue ⟨c, rfl, hc⟩ else .isFalse fun ⟨c', e, h⟩ => by cases e; exact hc h
  infer_instance
def spIsName : Sp := fun vs H Q _ => ∃ x : PySem.Str, vs = [.str x] ∧ okN x ∧ ∀ H', Same H H' → Q (.bl true) H'
structure TxN (mg : PySem.Str → Option Value) : Prop where
  isi : mg "isinstance" = none
  int : mg "int" = none
  bool : mg "bool" = none
  str : mg "str" = none
  len : mg "len" = none
  all : mg "all" = none
  lets : ∃ t, mg "SMALL_LETTERS" = some (.str letters t)
  figs : ∃ t, mg "FIGURES" = some (.str figures t)
  most : ∃ t, mg "LONGEST_NAME" = some (.int 8 t)
section
variable {P : Program} {w : World} {K : PySem.W.Frag} {mg : PySem.Str → Option Value} {base : Heap}
theorem scIsNum : FnScope ["thing", "low", "high"] ["thing", "low", "high"] (defScope sIsNum) := ⟨rfl, rfl, rfl, by decide +kernel, rfl, by decide +kernel, by decide +kernel⟩
theorem ok_isnum {f : Addr} {fd : FuncData} (F : Fun K "is_number" "is_number" sIsNum f fd) (T : TxN mg) : FnOk P w K mg base CX0 1 f fd ["thing", "low", "high"] spIsNum := by
  refine F.ok scIsNum (fun vs H Q E h => ?_) (fun cdv A outer s H vs Q E hr h => ?_)
  · obtain ⟨n, lo, hi, rfl, _⟩ := h
    rfl
  · obtain ⟨n, lo, hi, rfl, q⟩ := h
    refine ⟨_, (pss_one (ps_ret (pe_and (pe_callB call_isi (by rfl) T.isi boot_isinstance (pa_cons (pv 0) (pa_cons (pe_bltn (v := .ty "int") (by rfl) T.int boot_int rfl) pa_nil))) (pe_and (pe_not (pe_callB call_isi (by rfl) T.isi boot_isinstance (pa_cons (pv 0) (pa_cons (pe_bltn (v := .ty "bool") (by rfl) T.bool (by rfl) rfl) pa_nil)))) (pe_one (pe_chain op_le op_le (pv 1) (pv 0) (pv 2))))))), ?_⟩
    refine ⟨_, rfl, _, _, _, _, _, rfl, .ty "int", .base (.int _), by rfl, true, rfl, _, rfl, _, _, _, _, _, rfl, .ty "bool", .base (.int _), by rfl, false, rfl, true, rfl, ?_⟩
    refine ⟨_, rfl, _, rfl, _, _, rfl, rfl, _, rfl, ?_⟩
    refine ite2 (fun h => ?_) (fun h => ?_)
    · refine ⟨_, rfl, _, _, rfl, rfl, ?_⟩
      rw [decide_eq_true (of_decide_eq_true h)] at q
      exact q
    · rw [Bool.eq_false_iff.mpr h] at q
      exact q
theorem scIsName : FnScope ["thing", "sign"] ["thing"] (defScope sIsName) := ⟨rfl, rfl, rfl, by decide +kernel, rfl, by decide +kernel, by decide +kernel⟩
theorem at0 {α : Type} {xs : List α} {c : α} (h : xs[0]? = some c) : atI xs 0 = some c := by show atI xs ((0 : Nat) : Int) = some c; exact atI_nat h
theorem ok_isname {f : Addr} {fd : FuncData} (F : Fun K "is_name" "is_name" sIsName f fd) (T : TxN mg) : FnOk P w K mg base CX0 1 f fd ["thing"] spIsName := by
  refine F.ok scIsName (fun vs H Q E h => ?_) (fun cdv A outer s H vs Q E hr h => ?_)
  · obtain ⟨x, rfl, _⟩ := h
    rfl
  · obtain ⟨x, rfl, ⟨h1, h8, ⟨c0, hc0, hl0⟩, hall⟩, q⟩ := h
    obtain ⟨tl, gl⟩ := T.lets
    obtain ⟨tf, gf⟩ := T.figs
    obtain ⟨tm, gm⟩ := T.most
    refine ⟨_, (pss_cons (ps_if (PW.pt (pw_or (pt_not (pt_val (pe_callB call_isi (by rfl) T.isi boot_isinstance (pa_cons (pv 0) (pa_cons (pe_bltn (v := .ty "str") (by rfl) T.str boot_str rfl) pa_nil))))) (pw_or1 (pt_not (pt_chain op_le op_le pe_int (pe_callB call_len_str (by rfl) T.len PySem.boot_len (pa_cons (pv 0) pa_nil)) (pe_glob (by rfl) gm rel_int))))))
        (pss_one (ps_ret pe_bl))
        pss_nil)
      (pss_cons (ps_if (pt_cmpR op_notIn_sign (pe_ix ix_str (pv 0) pe_int (fun _ _ => rfl)) (pe_glob (by rfl) gl rel_str) (by rfl))
        (pss_one (ps_ret pe_bl))
        pss_nil)
      (pss_one (ps_ret (pe_callB (cr_all rfl) (by rfl) T.all (by rfl) (pa_cons (pe_lc (own := [("sign", 1)]) (g := gName 1) (tt := tYes) rfl scIsName.nd (pi_str (pv 0)) (blkOk_by (own := [("sign", 1)]) (N := ["thing", "sign"]) (sc := defScope sIsName) (by decide +kernel)) (fun _ _ _ _ _ => pg_name (i := 1) scIsName.nd rfl (Or.inl rfl)) (fun _ _ _ _ _ => pts_nil) (fun _ _ _ _ _ => (pe_or (pe_cmpR op_in_sign (pv 1) (pe_glob (by rfl) gl rel_str) (by rfl)) (pe_one (pe_cmpR op_in_sign (pv 1) (pe_glob (by rfl) gf rel_str) (by rfl)))))) pa_nil)))))), ?_⟩
    have hsz : x.length ≤ sizeLine := Nat.le_trans h8 (by decide)
    refine ⟨_, rfl, _, _, _, _, _, rfl, .ty "str", .base (.str _), by rfl, true, rfl, ?_⟩
    refine ⟨_, rfl, _, rfl, hsz, _, _, rfl, rfl, _, rfl, ?_⟩
    refine ite2 (fun h => ?_) (fun h => absurd (decide_eq_true (by show (1 : Int) ≤ _; omega)) h)
    refine ⟨_, _, rfl, rfl, _, rfl, ?_⟩
    refine ite2 (fun h => absurd h (by rw [decide_eq_true (by show ((x.length : Nat) : Int) ≤ 8; omega)]; decide)) (fun _ => ?_)
    refine ⟨_, rfl, _, _, _, rfl, rfl, hsz, at0 hc0, _, _, rfl, rfl, _, rfl, ?_⟩
    refine ite2 (fun h => absurd h (by rw [decide_eq_true hl0]; decide)) (fun _ => ?_)
    refine ⟨_, rfl, _, rfl, fun D hD => lc_it walk_str (fun i H' => ∃ bs : List Bool, H' = upd H D (.lst (bs.map V.bl)) ∧ bs.length = i ∧ ∀ b ∈ bs, b = true) ⟨[], rfl, rfl, fun b h => (nomatch h)⟩ (fun _ _ _ _ => trivial) ?_ ?_⟩
    · rintro i v H1 H2 hi ⟨bs, rfl, hb, hall'⟩ ⟨rfl, c, hc, rfl⟩
      refine ⟨rfl, _, rfl, _, _, rfl, rfl, _, rfl, ?_⟩
      have hm : c ∈ x.cps.toList := by rw [← Array.getElem?_toList] at hc; exact List.mem_of_getElem? hc
      have fin : ∃ acc, upd H D (.lst (bs.map V.bl)) D = some (.lst acc) ∧ acc.length < sizeLine ∧ ∃ bs' : List Bool, upd (upd H D (.lst (bs.map V.bl))) D (.lst (acc ++ [V.bl true])) = upd H D (.lst (bs'.map V.bl)) ∧ bs'.length = i + 1 ∧ ∀ b ∈ bs', b = true :=
        ⟨_, upd_same, by rw [List.length_map, hb]; exact Nat.lt_of_lt_of_le hi hsz, bs ++ [true], by rw [upd_upd, List.map_append]; rfl, by rw [List.length_append, hb]; rfl, fun b h => by
          rcases List.mem_append.mp h with h | h
          · exact hall' b h
          · simpa using h⟩
      refine ite2 (fun h => fin) (fun h => ?_)
      refine ⟨_, rfl, _, _, rfl, rfl, ?_⟩
      rw [decide_eq_true ((hall c hm).resolve_left fun z => h (decide_eq_true z))]
      exact fin
    · rintro H1 ⟨bs, rfl, hb, hall'⟩
      refine ⟨_, _, rfl, SqL.of upd_same, ?_⟩
      rw [show bs.all id = true from List.all_eq_true.mpr fun b hb => hall' b hb]
      exact q _ fun b o z => by rw [upd_ne (ne_of_none z hD)]; exact z
end
end Mc
namespace Mc
open PySem L2 PySem.Spec PyProof.Rows
abbrev sChkM : Stmt := top 23
abbrev sChkC : Stmt := top 24
abbrev sCInit : Stmt := inClass (top 21) 0
abbrev sSInit : Stmt := inClass (top 22) 0
def kvI (l : List (PySem.Str × Int)) : List (L2.Key × V) := l.map fun x => (Sum.inr x.1, .int x.2)
/-- a call at o: worth and masts -/
structure CallH (K : PySem.W.Frag) (C : Addr) (H : Hp) (o : Addr) (wt : Int) (hs : List PySem.Str) : Prop where
  here : ∃ dx h, H o = some (.ins C dx [("worth", .int wt), ("heard", .ref h)]) ∧ H h = some (.tup (hs.map V.str))
def spChkM : Sp := fun vs H Q _ => ∃ (m : PySem.Str) (n : Int), vs = [.str m, .int n] ∧ okN m ∧ 0 ≤ n ∧ n ≤ 1000 ∧ ∀ H', Same H H' → Q .non H'
def spChkC (K : PySem.W.Frag) (C : Addr) : Sp := fun vs H Q _ => ∃ (c : PySem.Str) (o ch : Addr) (wt : Int) (hs : List PySem.Str) (kvs : List (L2.Key × V)), vs = [.str c, .ref o, .ref ch] ∧ okN c ∧ CallH K C H o wt hs ∧ 0 ≤ wt ∧ wt ≤ 1000 ∧ H ch = some (.dK kvs) ∧
  hs.Nodup ∧ hs.length < 64 ∧ (∀ m ∈ hs, ∃ v, valV kvs (Sum.inr m) = some v) ∧ ∀ H', Same H H' → Q .non H'
structure TxS (K : PySem.W.Frag) (mg : PySem.Str → Option Value) (C : Addr) : Prop where
  cl : Cls K C
  nW : NoAttr K C "worth"
  nH : NoAttr K C "heard"
  lim : ∃ t, mg "LIMIT" = some (.int 1000 t)
  len : mg "len" = none
  set : mg "set" = none
  tuple : mg "tuple" = none
  sorted : mg "sorted" = none
section
variable {P : Program} {w : World} {K : PySem.W.Frag} {mg : PySem.Str → Option Value} {base : Heap}
theorem scChkM : FnScope ["mast", "many"] ["mast", "many"] (defScope sChkM) := ⟨rfl, rfl, rfl, by decide +kernel, rfl, by decide +kernel, by decide +kernel⟩
theorem ok_chkM {f C : Addr} {fd : FuncData} (F : Fun K "check_mast" "check_mast" sChkM f fd) (T : TxS K mg C) (c_is_name : Cal P w K mg base 1 "is_name" ["thing"] spIsName) (c_is_number : Cal P w K mg base 1 "is_number" ["thing", "low", "high"] spIsNum) :
    FnOk P w K mg base CX0 2 f fd ["mast", "many"] spChkM := by
  refine F.ok scChkM (fun vs H Q E h => ?_) (fun cdv A outer s H vs Q E hr h => ?_)
  · obtain ⟨m, n, rfl, _⟩ := h
    rfl
  · obtain ⟨m, n, rfl, hm, h0, h1, q⟩ := h
    obtain ⟨tl, gl⟩ := T.lim
    refine ⟨_, (pss_cons (ps_if (pt_not (pt_val (pe_cal c_is_name (hr.mono (by decide)) rfl (pa_cons (pv 0) pa_nil))))
        (pss_one ps_no)
        pss_nil)
      (pss_one (ps_if (pt_not (pt_val (pe_cal c_is_number (hr.mono (by decide)) rfl (pa_cons (pv 1) (pa_cons pe_int (pa_cons (pe_glob (by rfl) gl rel_int) pa_nil))))))
        (pss_one ps_no)
        pss_nil))), ?_⟩
    refine ⟨_, rfl, _, rfl, hm, fun H1 s1 => ⟨true, rfl, _, rfl, n, 0, 1000, rfl, _, rfl, ?_⟩⟩
    refine ite2 (fun h => absurd h (by rw [decide_eq_true h0, decide_eq_true h1]; decide)) (fun _ => ?_)
    exact q _ s1
abbrev sHasKey : Stmt := top 8
abbrev sChkH : Stmt := top 25
def spHasKey : Sp := fun vs H Q _ => ∃ (d : Addr) (x : PySem.Str) (kvs : List (L2.Key × V)), vs = [.ref d, .str x] ∧ H d = some (.dK kvs) ∧ Q (.bl (valV kvs (Sum.inr x)).isSome) H
def spChkH : Sp := fun vs H Q _ => ∃ (t ch : Addr) (hs : List PySem.Str) (kvs : List (L2.Key × V)), vs = [.ref t, .ref ch] ∧ H t = some (.tup (hs.map V.str)) ∧ H ch = some (.dK kvs) ∧
  hs.Nodup ∧ hs.length < 64 ∧ (∀ m ∈ hs, ∃ v, valV kvs (Sum.inr m) = some v) ∧ ∀ H', Same H H' → Q .non H'
theorem scHasKey : FnScope ["table", "thing"] ["table", "thing"] (defScope sHasKey) := ⟨rfl, rfl, rfl, by decide +kernel, rfl, by decide +kernel, by decide +kernel⟩
theorem ok_haskey {f : Addr} {fd : FuncData} (F : Fun K "has_key" "has_key" sHasKey f fd) (hi : mg "isinstance" = none) (hst : mg "str" = none) : FnOk P w K mg base CX0 1 f fd ["table", "thing"] spHasKey := by
  refine F.ok scHasKey (fun vs H Q E h => ?_) (fun cdv A outer s H vs Q E hr h => ?_)
  · obtain ⟨d, x, kvs, rfl, _⟩ := h
    rfl
  · obtain ⟨d, x, kvs, rfl, hd, q⟩ := h
    have hu := hu_of hr
    refine ⟨_, (pss_one (ps_ret (pe_and (pe_callB call_isi (by rfl) hi boot_isinstance (pa_cons (pv 1) (pa_cons (pe_bltn (v := .ty "str") (by rfl) hst boot_str rfl) pa_nil))) (pe_one (pe_cmp (pc_din hu (pv 1) (pv 0)) rfl))))), ?_⟩
    refine ⟨_, rfl, _, _, _, _, _, rfl, .ty "str", .base (.str _), by rfl, true, rfl, ?_⟩
    refine ite2 (fun _ => ?_) (fun h => absurd rfl h)
    exact ⟨_, rfl, _, rfl, d, _, rfl, DGet.k (k := Sum.inr x) hd, q⟩
theorem scChkH : FnScope ["heard", "channels", "known", "mast"] ["heard", "channels"] (defScope sChkH) := ⟨rfl, rfl, rfl, by decide +kernel, rfl, by decide +kernel, by decide +kernel⟩
theorem ok_chkH {f C : Addr} {fd : FuncData} (F : Fun K "check_heard" "check_heard" sChkH f fd) (T : TxS K mg C) (c_has_key : Cal P w K mg base 1 "has_key" ["table", "thing"] spHasKey) :
    FnOk P w K mg base CX0 2 f fd ["heard", "channels"] spChkH := by
  refine F.ok scChkH (fun vs H Q E h => ?_) (fun cdv A outer s H vs Q E hr h => ?_)
  · obtain ⟨t, ch, hs, kvs, rfl, _⟩ := h
    rfl
  · obtain ⟨hh, ch, hs, kvs, rfl, hq1, hch1, nd, h64, hin, q⟩ := h
    have hu := hu_of hr
    refine ⟨_, (pss_cons (ps_setLc (i := 2) (own := [("mast", 3)]) (g := gName 3) rfl scChkH.nd rfl rfl (sw_true rfl rfl rfl (by decide +kernel)) (pi_tup (pv 0)) (blkOk_by (own := [("mast", 3)]) (N := ["heard", "channels", "known", "mast"]) (sc := defScope sChkH) (by decide +kernel)) (fun _ _ _ _ _ => pg_name (i := 3) scChkH.nd rfl (Or.inl rfl)) (fun _ _ _ _ _ => pts_one (pt_val (pe_cal c_has_key (hr.mono (by decide)) rfl (pa_cons (pv 1) (pa_cons (pv 3) pa_nil))))) (fun _ _ _ _ _ => (pv 3)))
      (pss_one (ps_if (PW.pt (pw_or (pt_cmpR op_lt (pe_callB call_len_seq (by rfl) T.len PySem.boot_len (pa_cons (pv 2) pa_nil)) (pe_callB call_len_seq (by rfl) T.len PySem.boot_len (pa_cons (pv 0) pa_nil)) (nomark _)) (pw_or1 (pt_cmpR op_lt (pe_callB call_lenK (by rfl) T.len PySem.boot_len (pa_cons (pe_callTy (cr_setS rfl) (by rfl) T.set boot_set (pa_cons (pv 2) pa_nil)) pa_nil)) (pe_callB call_len_seq (by rfl) T.len PySem.boot_len (pa_cons (pv 2) pa_nil)) (nomark _)))))
        (pss_one ps_no)
        pss_nil))), ?_⟩
    refine ⟨_, rfl, hh, rfl, ⟨_, SqT.of hq1⟩, fun D hD => lc_tup (K := K) (xs := hs.map V.str) (fun i H' => H' = upd H D (.lst ((hs.take i).map V.str))) (by simp) (fun i H' _ e => by subst e; exact SqT.of (by rw [upd_ne (ne_of_none hq1 hD)]; exact hq1)) ?_ ?_⟩
    · rintro i x H' hx rfl
      rw [List.getElem?_map] at hx
      cases hi : hs[i]? with
      | none => rw [hi] at hx; cases hx
      | some m =>
        rw [hi] at hx
        cases Option.some.inj hx
        have hm : m ∈ hs := List.mem_of_getElem? hi
        obtain ⟨v, hv⟩ := hin m hm
        refine ⟨rfl, _, rfl, _, rfl, ch, m, kvs, rfl, by rw [upd_ne (ne_of_none hch1 hD)]; exact hch1, ?_⟩
        rw [hv]
        refine ⟨true, rfl, ?_⟩
        refine ite2 (fun _ => ?_) (fun h => absurd rfl h)
        refine ⟨_, rfl, _, upd_same, ?_, ?_⟩
        · rw [List.length_map, List.length_take]
          exact Nat.lt_of_le_of_lt (Nat.min_le_right _ _) (Nat.lt_of_lt_of_le h64 (by decide))
        · rw [upd_upd, List.take_add_one, hi, List.map_append]
          rfl
    · rintro H' rfl
      rw [List.length_map, List.take_length]
      have s2 : Same H (upd H D (.lst (hs.map V.str))) := fun b o z => by rw [upd_ne (ne_of_none z hD)]; exact z
      have hD2 : (upd H D (.lst (hs.map V.str))) D = some (.lst (hs.map V.str)) := upd_same
      have hq2 := s2 _ _ hq1
      generalize upd H D (.lst (hs.map V.str)) = H2 at s2 hD2 hq2 ⊢
      refine ⟨_, rfl, D, hs.map V.str, rfl, .inl (SqL.of hD2), _, rfl, hh, hs.map V.str, rfl, .inr (SqT.of hq2), _, _, rfl, rfl, _, rfl, ?_⟩
      refine ite2 (fun h => absurd (of_decide_eq_true h) (Int.lt_irrefl _)) (fun _ => ?_)
      refine ⟨_, rfl, D, hs, rfl, SqL.of hD2, h64, fun p n hp hle hn => ?_⟩
      have hpD : D ≠ p := ne_of_none hD2 hp
      refine ⟨p, _, n, rfl, upd_same, by omega, _, rfl, D, hs.map V.str, rfl, .inl (SqL.of (by rw [upd_ne hpD]; exact hD2)), _, _, rfl, rfl, _, rfl, ?_⟩
      refine ite2 (fun h => absurd (of_decide_eq_true h) (by rw [hn nd, List.length_map]; exact Int.lt_irrefl _)) (fun _ => ?_)
      exact q _ fun b o z => by
        have z2 := s2 _ _ z
        rw [upd_ne (ne_of_none z2 hp)]; exact z2
theorem scChkC : FnScope ["name", "call", "channels"] ["name", "call", "channels"] (defScope sChkC) := ⟨rfl, rfl, rfl, by decide +kernel, rfl, by decide +kernel, by decide +kernel⟩
theorem ok_chkC {f C : Addr} {fd : FuncData} (F : Fun K "check_call" "check_call" sChkC f fd) (T : TxS K mg C) (c_is_name : Cal P w K mg base 1 "is_name" ["thing"] spIsName) (c_is_number : Cal P w K mg base 1 "is_number" ["thing", "low", "high"] spIsNum) (c_chkH : Cal P w K mg base 2 "check_heard" ["heard", "channels"] spChkH) :
    FnOk P w K mg base CX0 3 f fd ["name", "call", "channels"] (spChkC K C) := by
  refine F.ok scChkC (fun vs H Q E h => ?_) (fun cdv A outer s H vs Q E hr h => ?_)
  · obtain ⟨c, o, ch, wt, hs, kvs, rfl, _⟩ := h
    rfl
  · obtain ⟨c, o, ch, wt, hs, kvs, rfl, hc, ⟨⟨dx, hh, ho, hq⟩⟩, h0, h1, hch, nd, h64, hin, q⟩ := h
    obtain ⟨tl, gl⟩ := T.lim
    have hu := hu_of hr
    refine ⟨_, (pss_cons (ps_if (pt_not (pt_val (pe_cal c_is_name (hr.mono (by decide)) rfl (pa_cons (pv 0) pa_nil))))
        (pss_one ps_no)
        pss_nil)
      (pss_cons (ps_if (pt_not (pt_val (pe_cal c_is_number (hr.mono (by decide)) rfl (pa_cons (pe_fld (pv 1) rfl) (pa_cons pe_int (pa_cons (pe_glob (by rfl) gl rel_int) pa_nil))))))
        (pss_one ps_no)
        pss_nil)
      (pss_one (ps_expr (pe_cal c_chkH (hr.mono (by decide)) rfl (pa_cons (pe_fld (pv 1) rfl) (pa_cons (pv 2) pa_nil))))))), ?_⟩
    refine ⟨_, rfl, _, rfl, hc, fun H1 s1 => ⟨true, rfl, _, rfl, _, _, _, _, _, rfl, s1 _ _ ho, T.cl, T.nW, rfl, wt, 0, 1000, rfl, _, rfl, ?_⟩⟩
    refine ite2 (fun h => absurd h (by rw [decide_eq_true h0, decide_eq_true h1]; decide)) (fun _ => ?_)
    have hq1 := s1 _ _ hq
    have hch1 := s1 _ _ hch
    have ho1 := s1 _ _ ho
    exact ⟨_, rfl, _, _, _, _, _, rfl, ho1, T.cl, T.nH, rfl, _, rfl, hh, ch, hs, kvs, rfl, hq1, hch1, nd, h64, hin, fun H2 s2 => q H2 (s1.trans s2)⟩
def spCInit (K : PySem.W.Frag) (C : Addr) : Sp := fun vs H Q _ => ∃ (p dx l : Addr) (wt : Int) (hs : List PySem.Str), vs = [.ref p, .int wt, .ref l] ∧ H p = some (.ins C dx []) ∧ H l = some (.lst (hs.map V.str)) ∧ hs.length < 64 ∧
  ∀ (ys : List PySem.Str) (H' : Hp), ys.Perm hs → sortedS ys = true → CallH K C H' p wt ys → Kp [p] H H' → Q .non H'
theorem scCI : FnScope ["self", "worth", "heard"] ["self", "worth", "heard"] (defScope sCInit) := ⟨rfl, rfl, rfl, by decide +kernel, rfl, by decide +kernel, by decide +kernel⟩
theorem ok_cinit {f C : Addr} {fd : FuncData} (F : Fun K "__init__" "Call.__init__" sCInit f fd) (T : TxS K mg C) : FnOk P w K mg base CX0 1 f fd ["self", "worth", "heard"] (spCInit K C) := by
  refine F.ok scCI (fun vs H Q E h => ?_) (fun cdv A outer s H vs Q E hr h => ?_)
  · obtain ⟨p, dx, l, wt, hs, rfl, _⟩ := h
    rfl
  · obtain ⟨p, dx, l, wt, hs, rfl, hp, hl, h64, k⟩ := h
    refine ⟨_, (pss_cons (ps_fld (pv 0) (pv 1) rfl)
      (pss_one (ps_fld (pv 0) (pe_tupleOf (by rfl) T.tuple (pe_callB cr_sortedS (by rfl) T.sorted boot_sorted (pa_cons (pv 2) pa_nil))) rfl))), ?_⟩
    refine ⟨_, rfl, _, rfl, p, C, dx, [], rfl, hp, T.cl, T.nW, (by show 0 < 1000; decide), ?_⟩
    have lp : l ≠ p := fun e => by rw [e, hp] at hl; cases hl
    have hl1 : (upd H p (.ins C dx [("worth", .int wt)])) l = some (.lst (hs.map V.str)) := by rw [upd_ne lp]; exact hl
    refine ⟨_, rfl, l, hs, rfl, SqL.of hl1, h64, fun ys q hy hs' hq => ?_⟩
    have hqp : q ≠ p := fun e => by rw [e, upd_same] at hq; cases hq
    refine .inl ⟨q, ys.map V.str, rfl, SqL.of upd_same, fun t ht => ?_⟩
    have htq : q ≠ t := ne_of_none upd_same ht
    have htp : p ≠ t := ne_of_none (show (upd (upd H p (.ins C dx [("worth", .int wt)])) q (.lst (ys.map V.str))) p = some _ by rw [upd_ne hqp.symm]; exact upd_same) ht
    refine ⟨_, rfl, p, C, dx, [("worth", .int wt)], rfl, by rw [upd_ne htp, upd_ne hqp.symm]; exact upd_same, T.cl, T.nH, (by show 1 < 1000; decide), ?_⟩
    refine k ys _ hy hs' ⟨⟨dx, t, upd_same, by rw [upd_ne htp.symm]; exact upd_same⟩⟩ fun b o e n => ?_
    have nb : b ≠ p := fun z => n (List.mem_singleton.mpr z)
    have q0 : H q = none := by rw [upd_ne hqp] at hq; exact hq
    have t0 : H t = none := by rw [upd_ne htq.symm, upd_ne htp.symm] at ht; exact ht
    rw [upd_ne nb, upd_ne (ne_of_none e t0), upd_ne (ne_of_none e q0), upd_ne nb]
    exact e
end
abbrev CD := Addr × Int × List PySem.Str
abbrev Chs := List (PySem.Str × Int)
abbrev Cls' := List (PySem.Str × CD)
abbrev vI : Int → V := V.int
abbrev vO : CD → V := fun x => V.ref x.1
/-- what may stand in a scene -/
structure OkC (chs : Chs) (cls : Cls') : Prop where
  nd : (keysT chs).Nodup
  ndc : (keysT cls).Nodup
  len : chs.length < 64
  lenc : cls.length < 64
  ch : ∀ x ∈ chs, okN x.1 ∧ 0 ≤ x.2 ∧ x.2 ≤ 1000
  cl : ∀ x ∈ cls, okN x.1 ∧ 0 ≤ x.2.2.1 ∧ x.2.2.1 ≤ 1000 ∧ x.2.2.2.Nodup ∧ x.2.2.2.length < 64 ∧ ∀ m ∈ x.2.2.2, m ∈ keysT chs
def CallsH (K : PySem.W.Frag) (CC : Addr) (H : Hp) (cls : Cls') : Prop := ∀ x ∈ cls, CallH K CC H x.2.1 x.2.2.1 x.2.2.2
theorem rd_same {H H' : Hp} {a : Addr} {u : HO} (h : Rd H a u) (s : Same H H') : Rd H' a u := h.elim (fun z => .inl (s _ _ z)) fun ⟨o, z⟩ => .inr ⟨o, s _ _ z⟩
theorem rd_kp {F : List Addr} {H H' : Hp} {a : Addr} {u : HO} (h : Rd H a u) (k : Kp F H H') (n : a ∉ F) : Rd H' a u := h.elim (fun z => .inl (k _ _ z n)) fun ⟨o, z⟩ => .inr ⟨o, k _ _ z n⟩
theorem rd_is {H : Hp} {a : Addr} {u : HO} (h : Rd H a u) : ∃ o, H a = some o := h.elim (fun z => ⟨_, z⟩) fun ⟨o, z⟩ => ⟨_, z⟩
structure SceneH (K : PySem.W.Frag) (CS CC : Addr) (H : Hp) (p : Addr) (chs : Chs) (cls : Cls') : Prop where
  here : ∃ dx a b, H p = some (.ins CS dx [("channels", .ref a), ("calls", .ref b)]) ∧ Rd H a (.dK (kvT vI chs)) ∧ Rd H b (.dK (kvT vO cls))
  calls : CallsH K CC H cls
theorem CallH.same {K : PySem.W.Frag} {C : Addr} {H H' : Hp} {o : Addr} {wt : Int} {hs : List PySem.Str} (h : CallH K C H o wt hs) (s : Same H H') : CallH K C H' o wt hs := by
  obtain ⟨dx, q, a, b⟩ := h.here
  exact ⟨dx, q, s _ _ a, s _ _ b⟩
theorem CallsH.same {K : PySem.W.Frag} {C : Addr} {H H' : Hp} {cls : Cls'} (h : CallsH K C H cls) (s : Same H H') : CallsH K C H' cls := fun x hx => (h x hx).same s
theorem SceneH.same {K : PySem.W.Frag} {CS CC : Addr} {H H' : Hp} {p : Addr} {chs : Chs} {cls : Cls'} (h : SceneH K CS CC H p chs cls) (s : Same H H') : SceneH K CS CC H' p chs cls := by
  obtain ⟨dx, a, b, h1, h2, h3⟩ := h.here
  exact ⟨⟨dx, a, b, s _ _ h1, rd_same h2 s, rd_same h3 s⟩, h.calls.same s⟩
/-- its dicts lie open, their keys ascend -/
structure ScnX (CS : Addr) (H : Hp) (p : Addr) (chs : Chs) (cls : Cls') : Prop where
  here : ∃ dx a b, H p = some (.ins CS dx [("channels", .ref a), ("calls", .ref b)]) ∧ H a = some (.dK (kvT vI chs)) ∧ H b = some (.dK (kvT vO cls))
  sch : sortedS (keysT chs) = true
  scl : sortedS (keysT cls) = true
theorem ScnX.same {CS : Addr} {H H' : Hp} {p : Addr} {chs : Chs} {cls : Cls'} (h : ScnX CS H p chs cls) (s : Same H H') : ScnX CS H' p chs cls := by
  obtain ⟨dx, a, b, h1, h2, h3⟩ := h.here
  exact ⟨⟨dx, a, b, s _ _ h1, s _ _ h2, s _ _ h3⟩, h.sch, h.scl⟩
def spSInit (K : PySem.W.Frag) (CS CC : Addr) : Sp := fun vs H Q _ => ∃ (p dx ch cl : Addr) (chs : Chs) (cls : Cls'), vs = [.ref p, .ref ch, .ref cl] ∧ ch ≠ cl ∧ H p = some (.ins CS dx []) ∧ H ch = some (.dK (kvT vI chs)) ∧ H cl = some (.dK (kvT vO cls)) ∧ OkC chs cls ∧ CallsH K CC H cls ∧
  ∀ (chs' : Chs) (cls' : Cls') (H' : Hp), chs'.Perm chs → cls'.Perm cls → SceneH K CS CC H' p chs' cls' → ScnX CS H' p chs' cls' → Kp [p] H H' → Q .non H'
structure TxC (K : PySem.W.Frag) (mg : PySem.Str → Option Value) (C : Addr) : Prop where
  cl : Cls K C
  nCh : NoAttr K C "channels"
  nCa : NoAttr K C "calls"
  sorted : mg "sorted" = none
section
variable {P : Program} {w : World} {K : PySem.W.Frag} {mg : PySem.Str → Option Value} {base : Heap}
theorem scSI : FnScope ["self", "channels", "calls", "mast", "name"] ["self", "channels", "calls"] (defScope sSInit) := ⟨rfl, rfl, rfl, by decide +kernel, rfl, by decide +kernel, by decide +kernel⟩
theorem ok_sinit {f CS CC : Addr} {fd : FuncData} (F : Fun K "__init__" "Scene.__init__" sSInit f fd) (T : TxC K mg CS) (c_check_mast : Cal P w K mg base 2 "check_mast" ["mast", "many"] spChkM) (c_check_call : Cal P w K mg base 3 "check_call" ["name", "call", "channels"] (spChkC K CC)) :
    FnOk P w K mg base CX0 4 f fd ["self", "channels", "calls"] (spSInit K CS CC) := by
  refine F.ok scSI (fun vs H Q E h => ?_) (fun cdv A outer s H vs Q E hr h => ?_)
  · obtain ⟨p, dx, ch, cl, chs, cls, rfl, _⟩ := h
    rfl
  · obtain ⟨p, dx, ch, cl, chs, cls, rfl, hne, hp, hch, hcl, ok, hC, k⟩ := h
    have hu := hu_of hr
    refine ⟨_, (pss_cons (ps_lock (ps_for PassesOwn.never rfl (pi_keys (pv 1)) (pg_name (i := 3) scSI.nd rfl (Or.inl rfl))
        (pss_one (ps_expr (pe_cal c_check_mast (hr.mono (by decide)) rfl (pa_cons (pv 3) (pa_cons (pe_dget hu (pv 1) (pv 3) (fun _ _ => rfl)) pa_nil)))))))
      (pss_cons (ps_lock (ps_for PassesOwn.never rfl (pi_keys (pv 2)) (pg_name (i := 4) scSI.nd rfl (Or.inl rfl))
        (pss_one (ps_expr (pe_cal c_check_call (hr.mono (by decide)) rfl (pa_cons (pv 4) (pa_cons (pe_dget hu (pv 2) (pv 4) (fun _ _ => rfl)) (pa_cons (pv 1) pa_nil))))))))
      (pss_cons (ps_fld (pv 0) (pe_dc (own := [("mast", 3)]) (g := gName 3) (tt := tYes) rfl scSI.nd (pi_list (pe_callB (call_sortedD rfl) (by rfl) T.sorted boot_sorted (pa_cons (pv 1) pa_nil))) (blkOk_by (own := [("mast", 3)]) (N := ["self", "channels", "calls", "mast", "name"]) (sc := defScope sSInit) (by decide +kernel)) (fun _ _ _ _ _ => pg_name (i := 3) scSI.nd rfl (Or.inl rfl)) (fun _ _ _ _ _ => pts_nil) (fun _ _ _ _ _ => (pv 3)) (fun _ _ _ _ _ => (pe_dget hu (pv 1) (pv 3) (fun _ _ => rfl)))) rfl)
      (pss_one (ps_fld (pv 0) (pe_dc (own := [("name", 4)]) (g := gName 4) (tt := tYes) rfl scSI.nd (pi_list (pe_callB (call_sortedD rfl) (by rfl) T.sorted boot_sorted (pa_cons (pv 2) pa_nil))) (blkOk_by (own := [("name", 4)]) (N := ["self", "channels", "calls", "mast", "name"]) (sc := defScope sSInit) (by decide +kernel)) (fun _ _ _ _ _ => pg_name (i := 4) scSI.nd rfl (Or.inl rfl)) (fun _ _ _ _ _ => pts_nil) (fun _ _ _ _ _ => (pv 4)) (fun _ _ _ _ _ => (pe_dget hu (pv 2) (pv 4) (fun _ _ => rfl)))) rfl))))), ?_⟩
    have kvg : ∀ {kvs : List (L2.Key × V)}, kvs = kvs := rfl
    -- the masts
    refine ⟨ch, _, hch, trivial, fun od => ⟨_, rfl, ch, od, rfl, .inl ⟨_, upd_same, for_it walk_keys (fun _ σ H' => (∃ v3 v4, σ = [some (.ref p), some (.ref ch), some (.ref cl), v3, v4]) ∧ Same (upd H ch (.frz od (.dK (kvT vI chs)))) H') ⟨⟨_, _, rfl⟩, Same.refl _⟩ (fun i σ H' _ pv => pv.2 _ _ upd_same) ?_ ?_⟩⟩⟩
    · rintro i x σ _ H1 hi ⟨⟨v3, v4, rfl⟩, s1⟩ ⟨rfl, kk, v, hk, rfl⟩
      obtain ⟨y, hy, rfl, rfl⟩ := kvT_get hk
      have hm : y ∈ chs := List.mem_of_getElem? hy
      obtain ⟨o1, o2, o3⟩ := ok.ch y hm
      refine ⟨_, rfl, _, rfl, _, rfl, ch, _, rfl, dgetT (.inr ⟨od, s1 _ _ upd_same⟩) (getT_mem ok.nd hm), y.1, y.2, rfl, o1, o2, o3, fun H2 s2 => ⟨⟨_, _, rfl⟩, s1.trans s2⟩⟩
    · rintro σ H1 ⟨⟨v3, v4, rfl⟩, s1⟩
      refine ⟨s1 _ _ upd_same, ?_⟩
      have s2 := un_same s1 hch
      generalize upd H1 ch (.dK (kvT vI chs)) = H2 at s2
      have hch2 := s2 _ _ hch
      have hcl2 := s2 _ _ hcl
      have hC2 := hC.same s2
      clear s1
      -- the calls
      refine ⟨cl, _, hcl2, trivial, fun od => ⟨_, rfl, cl, od, rfl, .inl ⟨_, upd_same, for_it walk_keys (fun _ σ H' => (∃ v3 v4, σ = [some (.ref p), some (.ref ch), some (.ref cl), v3, v4]) ∧ Same (upd H2 cl (.frz od (.dK (kvT vO cls)))) H') ⟨⟨_, _, rfl⟩, Same.refl _⟩ (fun i σ H' _ pv => pv.2 _ _ upd_same) ?_ ?_⟩⟩⟩
      · rintro i x σ _ H1 hi ⟨⟨v3, v4, rfl⟩, s1⟩ ⟨rfl, kk, v, hk, rfl⟩
        obtain ⟨y, hy, rfl, rfl⟩ := kvT_get hk
        have hm : y ∈ cls := List.mem_of_getElem? hy
        obtain ⟨o1, o2, o3, o4, o5, o6⟩ := ok.cl y hm
        have s3 : ∀ b, b ≠ cl → ∀ o, H2 b = some o → H1 b = some o := fun b n o z => s1 _ _ (by rw [upd_ne n]; exact z)
        obtain ⟨dx', h', c1, c2⟩ := (hC2 y hm).here
        have n1 : y.2.1 ≠ cl := fun e => by rw [e, hcl2] at c1; cases c1
        have n2 : h' ≠ cl := fun e => by rw [e, hcl2] at c2; cases c2
        refine ⟨_, rfl, _, rfl, _, rfl, cl, _, rfl, dgetT (.inr ⟨od, s1 _ _ upd_same⟩) (getT_mem ok.ndc hm), _, rfl, y.1, y.2.1, ch, y.2.2.1, y.2.2.2, kvT vI chs, rfl, o1, ⟨dx', h', s3 _ n1 _ c1, s3 _ n2 _ c2⟩, o2, o3, s3 _ hne _ hch2, o4, o5, fun m hm => ?_, fun H2 s2 => ⟨⟨_, _, rfl⟩, s1.trans s2⟩⟩
        obtain ⟨n, hn⟩ := getT_key (o6 m hm)
        exact ⟨V.int n, by rw [val_T, hn]; rfl⟩
      · rintro σ H1 ⟨⟨v3, v4, rfl⟩, s1⟩
        refine ⟨s1 _ _ upd_same, ?_⟩
        have s3 := s2.trans (un_same s1 hcl2)
        generalize upd H1 cl (.dK (kvT vO cls)) = H3 at s3
        clear s1 s2 hch2 hcl2 hC2
        have hp3 := s3 _ _ hp
        have hch3 := s3 _ _ hch
        have hcl3 := s3 _ _ hcl
        refine ⟨_, rfl, ch, kvT vI chs, keysT chs, rfl, .inl hch3, keysT_kv chs, by unfold keysT; rw [List.length_map]; exact ok.len, fun ys q hy hys hq => ?_⟩
        have ndy : ys.Nodup := (hy.nodup_iff).mpr ok.nd
        have leny : ys.length = chs.length := by rw [hy.length_eq]; unfold keysT; rw [List.length_map]
        have s4 : Same H3 (upd H3 q (.lst (ys.map V.str))) := fun b o z => by rw [upd_ne (ne_of_none z hq)]; exact z
        have hq4 : (upd H3 q (.lst (ys.map V.str))) q = some (.lst (ys.map V.str)) := upd_same
        generalize upd H3 q (.lst (ys.map V.str)) = H4 at s4 hq4 ⊢
        refine ⟨q, rfl, ⟨_, SqL.of hq4⟩, fun D hD => dc_list (K := K) (xs := ys.map V.str) (fun i H' => H' = upd H4 D (.dK (kvT vI ((ys.take i).map fun y => (y, (getT chs y).getD default))))) rfl (fun i H' _ e => by subst e; exact SqL.of (by rw [upd_ne (ne_of_none hq4 hD)]; exact hq4)) ?_ ?_⟩
        · rintro i x H' hx rfl
          rw [List.getElem?_map] at hx
          cases hi : ys[i]? with
          | none => rw [hi] at hx; cases hx
          | some m =>
            rw [hi] at hx
            cases Option.some.inj hx
            obtain ⟨v, hv⟩ := getT_key (hy.mem_iff.mp (List.mem_of_getElem? hi))
            refine ⟨rfl, _, rfl, _, rfl, _, rfl, ch, _, rfl, dgetT (.inl (by rw [upd_ne (ne_of_none (s4 _ _ hch3) hD)]; exact s4 _ _ hch3)) hv, _, Sum.inr m, rfl, upd_same, ?_, ?_⟩
            · exact len_mk (by rw [leny]; exact ok.len)
            · rw [upd_upd]
              have e : vI v = vI ((getT chs m).getD default) := by rw [hv]; rfl
              rw [e, put_mk ndy hi]
        · rintro H' rfl
          rw [List.length_map, List.take_length]
          have pm := perm_T ok.nd hy
          have kz1 : keysT (ys.map fun y => (y, (getT chs y).getD default)) = ys := by unfold keysT; rw [List.map_map]; exact List.map_id _
          generalize (ys.map fun y => (y, (getT chs y).getD default)) = chs' at pm kz1 ⊢
          have s5 : Same H3 (upd H4 D (.dK (kvT vI chs'))) := fun b o z => by rw [upd_ne (ne_of_none (s4 _ _ z) hD)]; exact s4 _ _ z
          have hD5 : (upd H4 D (.dK (kvT vI chs'))) D = some (.dK (kvT vI chs')) := upd_same
          generalize upd H4 D (.dK (kvT vI chs')) = H5 at s5 hD5
          have hp5 := s5 _ _ hp3
          refine ⟨_, rfl, p, CS, dx, [], rfl, hp5, T.cl, T.nCh, (by show 0 < 1000; decide), ?_⟩
          rw [show putF "channels" (V.ref D) [] = ([("channels", V.ref D)] : List (PySem.Str × V)) from rfl]
          have far : ∀ b, b ≠ p → ∀ o, H b = some o → (upd H5 p (.ins CS dx [("channels", V.ref D)])) b = some o := fun b n o z => by rw [upd_ne n]; exact s5 _ _ (s3 _ _ z)
          have hDp : D ≠ p := fun e => by rw [e, hp5] at hD5; cases hD5
          have hD6 : (upd H5 p (.ins CS dx [("channels", V.ref D)])) D = some (.dK (kvT vI chs')) := by rw [upd_ne hDp]; exact hD5
          have hp6 : (upd H5 p (.ins CS dx [("channels", V.ref D)])) p = some (.ins CS dx [("channels", V.ref D)]) := upd_same
          generalize upd H5 p (.ins CS dx [("channels", V.ref D)]) = H6 at far hD6 hp6
          clear s5 hD5 hp5 s4 hq4 hD hq hch3 hp3
          have hcp : cl ≠ p := fun e => by rw [e, hp] at hcl; cases hcl
          have hcl6 := far _ hcp _ hcl
          refine ⟨_, rfl, cl, kvT vO cls, keysT cls, rfl, .inl hcl6, keysT_kv cls, by unfold keysT; rw [List.length_map]; exact ok.lenc, fun zs q2 hz hzs hq2 => ?_⟩
          have ndz : zs.Nodup := (hz.nodup_iff).mpr ok.ndc
          have lenz : zs.length = cls.length := by rw [hz.length_eq]; unfold keysT; rw [List.length_map]
          have s7 : Same H6 (upd H6 q2 (.lst (zs.map V.str))) := fun b o z => by rw [upd_ne (ne_of_none z hq2)]; exact z
          have hq7 : (upd H6 q2 (.lst (zs.map V.str))) q2 = some (.lst (zs.map V.str)) := upd_same
          generalize upd H6 q2 (.lst (zs.map V.str)) = H7 at s7 hq7 ⊢
          refine ⟨q2, rfl, ⟨_, SqL.of hq7⟩, fun E2 hE => dc_list (K := K) (xs := zs.map V.str) (fun i H' => H' = upd H7 E2 (.dK (kvT vO ((zs.take i).map fun y => (y, (getT cls y).getD default))))) rfl (fun i H' _ e => by subst e; exact SqL.of (by rw [upd_ne (ne_of_none hq7 hE)]; exact hq7)) ?_ ?_⟩
          · rintro i x H' hx rfl
            rw [List.getElem?_map] at hx
            cases hi : zs[i]? with
            | none => rw [hi] at hx; cases hx
            | some m =>
              rw [hi] at hx
              cases Option.some.inj hx
              obtain ⟨v, hv⟩ := getT_key (hz.mem_iff.mp (List.mem_of_getElem? hi))
              refine ⟨rfl, _, rfl, _, rfl, _, rfl, cl, _, rfl, dgetT (.inl (by rw [upd_ne (ne_of_none (s7 _ _ hcl6) hE)]; exact s7 _ _ hcl6)) hv, _, Sum.inr m, rfl, upd_same, ?_, ?_⟩
              · exact len_mk (by rw [lenz]; exact ok.lenc)
              · rw [upd_upd]
                have e : vO v = vO ((getT cls m).getD default) := by rw [hv]; rfl
                rw [e, put_mk ndz hi]
          · rintro H' rfl
            rw [List.length_map, List.take_length]
            have pm2 := perm_T ok.ndc hz
            have kz2 : keysT (zs.map fun y => (y, (getT cls y).getD default)) = zs := by unfold keysT; rw [List.map_map]; exact List.map_id _
            generalize (zs.map fun y => (y, (getT cls y).getD default)) = cls' at pm2 kz2 ⊢
            have s8 : Same H6 (upd H7 E2 (.dK (kvT vO cls'))) := fun b o z => by rw [upd_ne (ne_of_none (s7 _ _ z) hE)]; exact s7 _ _ z
            have hE8 : (upd H7 E2 (.dK (kvT vO cls'))) E2 = some (.dK (kvT vO cls')) := upd_same
            generalize upd H7 E2 (.dK (kvT vO cls')) = H8 at s8 hE8
            refine ⟨_, rfl, p, CS, dx, _, rfl, s8 _ _ hp6, T.cl, T.nCa, (by show 1 < 1000; decide), ?_⟩
            rw [show putF "calls" (V.ref E2) [("channels", V.ref D)] = ([("channels", V.ref D), ("calls", V.ref E2)] : List (PySem.Str × V)) from rfl]
            have hEp : E2 ≠ p := fun e => by rw [e, s8 _ _ hp6] at hE8; cases hE8
            refine k chs' cls' _ pm pm2 ⟨⟨dx, D, E2, upd_same, .inl (by rw [upd_ne hDp]; exact s8 _ _ hD6), .inl (by rw [upd_ne hEp]; exact hE8)⟩, fun x hx => ?_⟩ ⟨⟨dx, D, E2, upd_same, by rw [upd_ne hDp]; exact s8 _ _ hD6, by rw [upd_ne hEp]; exact hE8⟩, by rw [kz1]; exact hys, by rw [kz2]; exact hzs⟩ fun b o z n => by
              have nb : b ≠ p := fun z => n (List.mem_singleton.mpr z)
              rw [upd_ne nb]; exact s8 _ _ (far b nb o z)
            obtain ⟨dx', h', c1, c2⟩ := (hC x (pm2.mem_iff.mp hx)).here
            have n1 : x.2.1 ≠ p := fun e => by rw [e, hp] at c1; cases c1
            have n2 : h' ≠ p := fun e => by rw [e, hp] at c2; cases c2
            exact ⟨dx', h', by rw [upd_ne n1]; exact s8 _ _ (far _ n1 _ c1), by rw [upd_ne n2]; exact s8 _ _ (far _ n2 _ c2)⟩
end
end Mc
namespace Mc
open PySem L2 PySem.Spec PyProof.Rows
theorem lt_tri : ∀ a b : List Nat, ¬ a < b → a ≠ b → b < a
  | [], [], _, h => absurd rfl h
  | [], y :: b, h, _ => absurd (List.nil_lt_cons y b) h
  | x :: a, [], _, _ => List.nil_lt_cons x a
  | x :: a, y :: b, h, n => by
    rw [List.cons_lt_cons_iff] at h ⊢
    by_cases e : x = y
    · subst e
      exact .inr ⟨rfl, lt_tri a b (fun z => h (.inr ⟨rfl, z⟩)) fun z => n (by rw [z])⟩
    · exact .inl (by
        have : ¬ x < y := fun z => h (.inl z)
        omega)
def ltN (a b : PySem.Str) : Prop := a.cps.toList < b.cps.toList
instance (a b : PySem.Str) : Decidable (ltN a b) := inferInstanceAs (Decidable (_ < _))
theorem ltN_irr (a : PySem.Str) : ¬ ltN a a := List.lt_irrefl _
theorem ltN_trans {a b c : PySem.Str} (h : ltN a b) (k : ltN b c) : ltN a c := List.lt_trans h k
theorem ltN_tri {a b : PySem.Str} (h : ¬ ltN a b) (n : a ≠ b) : ltN b a := lt_tri _ _ h fun z => n (str_ext z)
section
variable {β : Type} {l : List (PySem.Str × β)} {k : PySem.Str} {v : β}
def AscT (l : List (PySem.Str × β)) : Prop := l.Pairwise fun x y => ltN x.1 y.1
def hiT (l : List (PySem.Str × β)) (k : PySem.Str) : List (PySem.Str × β) := l.filter fun x => decide (ltN k x.1)
def loT (l : List (PySem.Str × β)) (k : PySem.Str) : List (PySem.Str × β) := l.filter fun x => !decide (ltN k x.1)
theorem AscT.nodup (h : AscT l) : (keysT l).Nodup := by
  unfold keysT
  rw [List.Nodup, List.pairwise_map]
  exact List.Pairwise.imp (fun {a b} z e => by rw [e] at z; exact ltN_irr _ z) h
theorem AscT.split (h : AscT l) (k : PySem.Str) : l = loT l k ++ hiT l k := by
  induction l with
  | nil => rfl
  | cons x l ih =>
    have h' := List.pairwise_cons.mp h
    unfold loT hiT
    rw [List.filter_cons, List.filter_cons]
    by_cases e : ltN k x.1
    · have all : ∀ y ∈ l, ltN k y.1 := fun y hy => ltN_trans e (h'.1 y hy)
      rw [decide_eq_true e]
      have e1 : l.filter (fun x => !decide (ltN k x.1)) = [] := List.filter_eq_nil_iff.mpr fun y hy => by simp [all y hy]
      have e2 : l.filter (fun x => decide (ltN k x.1)) = l := List.filter_eq_self.mpr fun y hy => decide_eq_true (all y hy)
      simp [e1, e2]
    · rw [decide_eq_false e]
      have := ih h'.2
      unfold loT hiT at this
      simp only [Bool.not_false, if_true, Bool.false_eq_true, if_false, List.cons_append]
      rw [← this]
open Classical in
noncomputable def insT (l : List (PySem.Str × β)) (k : PySem.Str) (v : β) : List (PySem.Str × β) := if k ∈ keysT l then l.map (fun x => if x.1 = k then (x.1, v) else x) else loT l k ++ [(k, v)] ++ hiT l k
theorem getT_app (l' : List (PySem.Str × β)) : getT (l ++ l') k = (getT l k).or (getT l' k) := by
  induction l with
  | nil => rfl
  | cons x l ih =>
    rw [List.cons_append, getT_cons, getT_cons, ih]
    split <;> rfl
theorem getT_rep (c : PySem.Str) : getT (l.map fun x => if x.1 = k then (x.1, v) else x) c = if c = k then (getT l c).map (fun _ => v) else getT l c := by
  induction l with
  | nil => split <;> rfl
  | cons x l ih =>
    rw [List.map_cons, getT_cons, getT_cons, ih]
    by_cases e : x.1 = k
    · rw [if_pos e]
      show (if x.1 = c then some v else _) = _
      by_cases e2 : x.1 = c
      · rw [if_pos e2, if_pos e2, if_pos (e2.symm.trans e)]; rfl
      · rw [if_neg e2, if_neg e2]
    · rw [if_neg e]
      by_cases e2 : x.1 = c
      · rw [if_pos e2, if_pos e2, if_neg fun z => e (e2.trans z)]
      · rw [if_neg e2, if_neg e2]
theorem getT_ins (h : AscT l) (c : PySem.Str) : getT (insT l k v) c = if c = k then some v else getT l c := by
  unfold insT
  split
  case isTrue hk =>
    rw [getT_rep]
    split
    case isTrue e => subst e; obtain ⟨w, hw⟩ := getT_key hk; rw [hw]; rfl
    case isFalse e => rfl
  case isFalse hk =>
    have n : getT l k = none := getT_none.mpr hk
    rw [h.split k, getT_app] at n
    have n1 : getT (loT l k) k = none := by cases e : getT (loT l k) k with
      | none => rfl
      | some v => rw [e] at n; cases n
    rw [getT_app, getT_app, getT_cons]
    by_cases e : c = k
    · subst e; rw [if_pos rfl, if_pos rfl, n1]; rfl
    · rw [if_neg fun z => e z.symm, if_neg e]
      conv => rhs; rw [h.split k, getT_app]
      cases getT (loT l k) c <;> rfl
theorem AscT.ins (h : AscT l) : AscT (insT l k v) := by
  unfold insT
  split
  case isTrue hk =>
    unfold AscT
    rw [List.pairwise_map]
    refine List.Pairwise.imp (fun {a b} z => ?_) h
    have e : ∀ x : PySem.Str × β, (if x.1 = k then (x.1, v) else x).1 = x.1 := fun x => by split <;> rfl
    rw [e, e]; exact z
  case isFalse hk =>
    have hi : ∀ x ∈ hiT l k, ltN k x.1 := fun x hx => of_decide_eq_true (List.mem_filter.mp hx).2
    have lo : ∀ x ∈ loT l k, ltN x.1 k := fun x hx => by
      have h2 := List.mem_filter.mp hx
      refine ltN_tri (fun z => by simp [z] at h2) fun z => hk ?_
      rw [z]; exact List.mem_map.mpr ⟨x, h2.1, rfl⟩
    refine List.pairwise_append.mpr ⟨List.pairwise_append.mpr ⟨h.filter _, List.pairwise_singleton _ _, fun x hx y hy => ?_⟩, h.filter _, fun x hx y hy => ?_⟩
    · cases List.mem_singleton.mp hy; exact lo x hx
    · rcases List.mem_append.mp hx with hx | hx
      · exact ltN_trans (lo x hx) (hi y hy)
      · cases List.mem_singleton.mp hx; exact hi y hy
theorem ins_len : (insT l k v).length ≤ l.length + 1 := by
  unfold insT
  split
  · rw [List.length_map]; exact Nat.le_succ _
  · have h1 : (loT l k).length + (hiT l k).length ≤ l.length := by
      unfold loT hiT
      have : ∀ l : List (PySem.Str × β), (l.filter fun x => !decide (ltN k x.1)).length + (l.filter fun x => decide (ltN k x.1)).length = l.length := by
        intro l
        induction l with
        | nil => rfl
        | cons x l ih =>
          rw [List.filter_cons, List.filter_cons]
          cases decide (ltN k x.1) <;> simp <;> omega
      exact Nat.le_of_eq (this l)
    simp; omega
theorem keys_ins (h : AscT l) (c : PySem.Str) : c ∈ keysT (insT l k v) ↔ c = k ∨ c ∈ keysT l := by
  have key : ∀ l : List (PySem.Str × β), c ∈ keysT l ↔ getT l c ≠ none := fun l => by
    rw [Ne, getT_none]; exact ⟨fun h z => z h, fun h => Classical.byContradiction h⟩
  rw [key, key, getT_ins h]
  by_cases e : c = k
  · simp [e]
  · simp [e]
end
section
variable {β : Type} {l : List (PySem.Str × β)} {k : PySem.Str} {v : β}
theorem getT_not {A : List (PySem.Str × β)} {c : PySem.Str} (h : ∀ x ∈ A, x.1 ≠ c) : getT A c = none := getT_none.mpr fun z => by
  obtain ⟨x, hx, e⟩ := List.mem_map.mp z
  exact h x hx e
theorem keep_T {A : List (PySem.Str × β)} {c : PySem.Str} (h : ∀ x ∈ A, x.1 ≠ c) : A.filter (fun x => decide (x.1 ≠ c)) = A := List.filter_eq_self.mpr fun x hx => decide_eq_true (h x hx)
/-- one turn: y is taken out and put at the end -/
theorem turn_T {lo A B : List (PySem.Str × β)} {y z : PySem.Str × β} (h1 : ∀ x ∈ lo, x.1 ≠ y.1) (h2 : ∀ x ∈ A, x.1 ≠ y.1) (h3 : ∀ x ∈ B, x.1 ≠ y.1) (h4 : z.1 ≠ y.1) :
    getT (lo ++ (y :: B) ++ [z] ++ A) y.1 = some y.2 ∧ (lo ++ (y :: B) ++ [z] ++ A).filter (fun x => decide (x.1 ≠ y.1)) = lo ++ B ++ [z] ++ A ∧ y.1 ∉ keysT (lo ++ B ++ [z] ++ A) := by
  refine ⟨?_, ?_, ?_⟩
  · rw [getT_app, getT_app, getT_app, getT_not h1, getT_cons, if_pos rfl]; rfl
  · rw [List.filter_append, List.filter_append, List.filter_append, keep_T h1, keep_T h2, List.filter_cons, if_neg (by simp), keep_T h3, keep_T (A := [z]) (by intro x hx; cases List.mem_singleton.mp hx; exact h4)]
  · refine getT_none.mp (getT_not fun x hx => ?_)
    simp only [List.mem_append, List.mem_singleton] at hx
    rcases hx with ((hx | hx) | hx) | hx
    · exact h1 x hx
    · exact h3 x hx
    · rw [hx]; exact h4
    · exact h2 x hx
theorem hi_turn (h : AscT l) {i : Nat} {y : PySem.Str × β} (hy : (hiT l k)[i]? = some y) : (hiT l k).drop i = y :: (hiT l k).drop (i + 1) ∧ (hiT l k).take (i + 1) = (hiT l k).take i ++ [y] ∧
    (∀ x ∈ loT l k, x.1 ≠ y.1) ∧ (∀ x ∈ (hiT l k).take i, x.1 ≠ y.1) ∧ (∀ x ∈ (hiT l k).drop (i + 1), x.1 ≠ y.1) ∧ k ≠ y.1 := by
  obtain ⟨hl, e⟩ := List.getElem?_eq_some_iff.mp hy
  have ky : ltN k y.1 := of_decide_eq_true (List.mem_filter.mp (List.mem_of_getElem? hy)).2
  have d : (hiT l k).drop i = y :: (hiT l k).drop (i + 1) := by rw [List.drop_eq_getElem_cons hl, e]
  have asc : AscT (hiT l k) := h.filter _
  refine ⟨d, by rw [List.take_add_one, hy]; rfl, fun x hx z => ?_, fun x hx z => ?_, fun x hx z => ?_, fun z => ltN_irr _ (z ▸ ky)⟩
  · have := (List.mem_filter.mp hx).2
    rw [z] at this
    simp [ky] at this
  · have a := asc
    rw [← List.take_append_drop i (hiT l k), d] at a
    exact ltN_irr _ (z ▸ (List.pairwise_append.mp a).2.2 x hx y (by simp))
  · have a := asc
    rw [← List.take_append_drop i (hiT l k), d] at a
    exact ltN_irr _ (z ▸ (List.pairwise_cons.mp (List.pairwise_append.mp a).2.1).1 x hx)
end
theorem ins_map {β γ : Type} (g : β → γ) (l : List (PySem.Str × β)) (k : PySem.Str) (v : β) : insT (l.map fun x => (x.1, g x.2)) k (g v) = (insT l k v).map fun x => (x.1, g x.2) := by
  have ek : keysT (l.map fun x => (x.1, g x.2)) = keysT l := by unfold keysT; rw [List.map_map]; rfl
  unfold insT
  rw [ek]
  split
  · rw [List.map_map, List.map_map]
    refine List.map_congr_left fun x _ => ?_
    show (if x.1 = k then (x.1, g v) else (x.1, g x.2)) = _
    by_cases e : x.1 = k
    · rw [if_pos e]; show _ = ((if x.1 = k then (x.1, v) else x).1, g (if x.1 = k then (x.1, v) else x).2); rw [if_pos e]
    · rw [if_neg e]; show _ = ((if x.1 = k then (x.1, v) else x).1, g (if x.1 = k then (x.1, v) else x).2); rw [if_neg e]
  · rw [List.map_append, List.map_append]
    unfold loT hiT
    rw [List.filter_map, List.filter_map]
    rfl
end Mc
namespace Mc
open PySem L2 PySem.Spec PyProof.Rows
abbrev sPut : Stmt := top 9
theorem kvT_id {β : Type} (f : β → V) (l : List (PySem.Str × β)) : kvT f l = kvT id (l.map fun x => (x.1, f x.2)) := by
  unfold kvT; rw [List.map_map]; rfl
def spPutO : Sp := fun vs H Q _ => ∃ (t : Addr) (k : PySem.Str) (v : V) (l : List (PySem.Str × V)), vs = [.ref t, .str k, v] ∧ H t = some (.dK (kvT id l)) ∧ AscT l ∧ l.length < 1000 ∧
  ∀ H', H' t = some (.dK (kvT id (insT l k v))) → Kp [t] H H' → Q .non H'
section
variable {P : Program} {w : World} {K : PySem.W.Frag} {mg : PySem.Str → Option Value} {base : Heap}
theorem scPut : FnScope ["table", "key", "value", "later", "other"] ["table", "key", "value"] (defScope sPut) := ⟨rfl, rfl, rfl, by decide +kernel, rfl, by decide +kernel, by decide +kernel⟩
theorem ok_put {f : Addr} {fd : FuncData} (F : Fun K "put_in_order" "put_in_order" sPut f fd) : FnOk P w K mg base CX0 1 f fd ["table", "key", "value"] spPutO := by
  refine F.ok scPut (fun vs H Q E h => ?_) (fun cdv A outer s H vs Q E hr h => ?_)
  · obtain ⟨t, k, v, l, rfl, _⟩ := h
    rfl
  · obtain ⟨t, k, v, l, rfl, ht, asc, hl, q⟩ := h
    have hu := hu_of hr
    refine ⟨_, (pss_cons (ps_set (i := 3) scPut.nd rfl (Or.inl rfl) (pe_ifExp (pt_cmp (pc_din hu (pv 1) (pv 0))) (pe_lst pa_nil) (pe_lock (pe_lc (own := [("other", 4)]) (g := gName 4) rfl scPut.nd (pi_keys (pv 0)) (blkOk_by (own := [("other", 4)]) (N := ["table", "key", "value", "later", "other"]) (sc := defScope sPut) (by decide +kernel)) (fun _ _ _ _ _ => pg_name (i := 4) scPut.nd rfl (Or.inl rfl)) (fun _ _ _ _ _ => pts_one (pt_cmpR op_gt_str (pv 4) (pv 1) (nomark _))) (fun _ _ _ _ _ => (pv 4))))))
      (pss_cons (ps_dput hu (pv 0) (pv 1) (pv 2) rfl)
      (pss_one (ps_for PassesOwn.never rfl (pi_list (pv 3)) (pg_name (i := 4) scPut.nd rfl (Or.inl rfl))
        (pss_one (ps_dput hu (pv 0) (pv 4) (pe_dpop1 (pv 0) (pv 4) ⟨rfl, rfl, rfl, rfl⟩) rfl)))))), ?_⟩
    by_cases hk : k ∈ keysT l
    · obtain ⟨w, hw⟩ := getT_key hk
      refine ⟨_, rfl, _, rfl, t, _, rfl, dgetT (f := id) (.inl ht) hw, _, rfl, Nat.zero_le _, fun p hp => ?_⟩
      have ntp : t ≠ p := ne_of_none ht hp
      refine ⟨_, rfl, _, rfl, _, rfl, t, _, rfl, DPut.k (k := Sum.inr k) (by rw [upd_ne ntp]; exact ht) (by unfold kvT; rw [List.length_map]; exact Nat.lt_trans hl (by decide)), ?_⟩
      rw [show putK (kvT id l) (Sum.inr k : L2.Key) v = kvT id (insT l k v) from (put_old (f := id) (v := v) hk).trans (by unfold insT; rw [if_pos hk])]
      have ntp' : p ≠ t := ntp.symm
      refine ⟨_, rfl, p, rfl, ⟨[], SqL.of (by rw [upd_ne ntp']; exact upd_same)⟩, for_list (K := K) (xs := []) (fun _ _ H' => H' = upd (upd H p (.lst [])) t (.dK (kvT id (insT l k v)))) rfl (fun i σ H' _ e => by subst e; exact SqL.of (by rw [upd_ne ntp']; exact upd_same)) (fun i x σ H' e => (nomatch e)) ?_⟩
      rintro σ H' rfl
      exact q _ upd_same fun b o z n => by
        rw [upd_ne fun e => n (List.mem_singleton.mpr e), upd_ne (ne_of_none z hp)]; exact z
    · refine ⟨_, rfl, _, rfl, t, _, rfl, dgetN (f := id) (.inl ht), ?_⟩
      rw [getT_none.mpr hk]
      refine ⟨_, rfl, t, _, ht, trivial, fun od => ⟨_, rfl, t, od, rfl, .inl ⟨_, upd_same, fun D hD => lc_it walk_keys (fun i H' => H' = upd (upd H t (.frz od (.dK (kvT id l)))) D (.lst ((keysT (hiT (l.take i) k)).map V.str))) rfl ?_ ?_ ?_⟩⟩⟩
      · intro i H' _ e
        subst e
        show _ = _
        rw [upd_ne (ne_of_none upd_same hD)]; exact upd_same
      · rintro i x H1 H2 hi rfl ⟨rfl, kk, v', hk', rfl⟩
        obtain ⟨y, hy, rfl, rfl⟩ := kvT_get hk'
        have e1 : hiT (l.take (i + 1)) k = hiT (l.take i) k ++ (if ltN k y.1 then [y] else []) := by
          unfold hiT
          rw [List.take_add_one, hy, List.filter_append]
          congr 1
          show List.filter _ [y] = _
          rw [List.filter_cons]
          by_cases e : ltN k y.1
          · rw [if_pos e, if_pos (decide_eq_true e)]; rfl
          · rw [if_neg e, if_neg (by simp [e])]; rfl
        refine ⟨rfl, _, rfl, _, rfl, _, _, rfl, rfl, _, rfl, ?_⟩
        refine ite2 (fun h => ?_) (fun h => ?_)
        · refine ⟨_, rfl, _, upd_same, ?_, ?_⟩
          · rw [List.length_map]
            have h1 : (keysT (hiT (l.take i) k)).length ≤ i := by
              unfold keysT hiT; rw [List.length_map]
              exact Nat.le_trans (List.length_filter_le _ _) (by rw [List.length_take]; exact Nat.min_le_left _ _)
            have h2 : i < l.length := (List.getElem?_eq_some_iff.mp hy).1
            exact Nat.lt_of_le_of_lt h1 (Nat.lt_trans h2 (Nat.lt_trans hl (by decide)))
          · rw [upd_upd, e1, if_pos (show ltN k y.1 from of_decide_eq_true h)]
            unfold keysT
            rw [List.map_append, List.map_append]; rfl
        · rw [e1, if_neg (show ¬ ltN k y.1 from fun z => h (decide_eq_true z)), List.append_nil]
      · rintro H' rfl
        rw [show (kvT id l).length = l.length from List.length_map _, List.take_length]
        have htD : t ≠ D := ne_of_none (show (upd H t (.frz od (.dK (kvT id l)))) t = some _ from upd_same) hD
        have hHD : H D = none := by rw [upd_ne htD.symm] at hD; exact hD
        refine ⟨by rw [upd_ne htD]; exact upd_same, ?_⟩
        have e0 : upd (upd (upd H t (.frz od (.dK (kvT id l)))) D (.lst ((keysT (hiT l k)).map V.str))) t (.dK (kvT id l)) = upd H D (.lst ((keysT (hiT l k)).map V.str)) := by
          funext b
          by_cases e : b = t
          · subst e; rw [upd_same, upd_ne htD]; exact ht.symm
          · rw [upd_ne e]
            by_cases e2 : b = D
            · subst e2; rw [upd_same, upd_same]
            · rw [upd_ne e2, upd_ne e, upd_ne e2]
        rw [e0]
        have hDt : D ≠ t := htD.symm
        have hlen : ∀ x : List (PySem.Str × V), x.length ≤ l.length + 1 → (kvT id x).length < sizeLine := fun x hx => by
          unfold kvT; rw [List.length_map]; exact Nat.lt_of_le_of_lt hx (Nat.lt_trans (Nat.succ_lt_succ hl) (by decide))
        refine ⟨_, rfl, _, rfl, _, rfl, t, _, rfl, DPut.k (k := Sum.inr k) (by rw [upd_ne htD]; exact ht) (hlen l (Nat.le_succ _)), ?_⟩
        rw [show putK (kvT id l) (Sum.inr k : L2.Key) v = kvT id (l ++ [(k, v)]) from put_new (f := id) (v := v) hk]
        have sp := asc.split k
        have e3 : l ++ [(k, v)] = loT l k ++ (hiT l k).drop 0 ++ [(k, v)] ++ (hiT l k).take 0 := by rw [List.drop_zero, List.take_zero, List.append_nil, ← sp]
        refine ⟨_, rfl, D, rfl, ⟨_, SqL.of (by rw [upd_ne hDt]; exact upd_same)⟩, for_list (K := K) (xs := (keysT (hiT l k)).map V.str) (fun i σ H' => (∃ v4, σ = [some (.ref t), some (.str k), some v, some (.ref D), v4]) ∧
          H' = upd (upd H D (.lst ((keysT (hiT l k)).map V.str))) t (.dK (kvT id (loT l k ++ (hiT l k).drop i ++ [(k, v)] ++ (hiT l k).take i)))) ⟨⟨_, rfl⟩, by rw [e3]⟩ (fun i σ H' _ e => by rw [e.2]; exact SqL.of (by rw [upd_ne hDt]; exact upd_same)) ?_ ?_⟩
        · rintro i x σ H' hx ⟨⟨v4, rfl⟩, rfl⟩
          unfold keysT at hx
          rw [List.getElem?_map, List.getElem?_map] at hx
          cases hy : (hiT l k)[i]? with
          | none => rw [hy] at hx; cases hx
          | some y =>
            rw [hy] at hx
            cases Option.some.inj hx
            obtain ⟨d1, d2, n1, n2, n3, n4⟩ := hi_turn asc hy
            have tt := turn_T (z := (k, v)) n1 n2 n3 n4
            rw [d1]
            have hsz : (loT l k ++ (y :: (hiT l k).drop (i + 1)) ++ [(k, v)] ++ (hiT l k).take i).length = l.length + 1 := by
              have h1 := congrArg List.length sp
              have h2 : ((hiT l k).take i).length + (y :: (hiT l k).drop (i + 1)).length = (hiT l k).length := by rw [← d1, ← List.length_append, List.take_append_drop]
              simp only [List.length_append, List.length_cons, List.length_nil] at h1 h2 ⊢
              omega
            refine ⟨_, rfl, t, rfl, .inl ⟨_, .inl upd_same⟩, _, rfl, _, Sum.inr y.1, y.2, upd_same, rfl, ?_, ?_⟩
            · rw [val_T, tt.1]; rfl
            · refine ⟨_, rfl, _, rfl, t, _, rfl, DPut.k (k := Sum.inr y.1) upd_same ?_, ?_⟩
              · exact Nat.lt_of_le_of_lt (dropK_le _ _) (hlen _ (Nat.le_of_eq hsz))
              · refine ⟨⟨_, rfl⟩, ?_⟩
                rw [upd_upd, upd_upd, drop_T, tt.2.1, show putK (kvT id (loT l k ++ (hiT l k).drop (i + 1) ++ [(k, v)] ++ (hiT l k).take i)) (Sum.inr y.1 : L2.Key) y.2 = kvT id (loT l k ++ (hiT l k).drop (i + 1) ++ [(k, v)] ++ (hiT l k).take i ++ [(y.1, y.2)]) from put_new (f := id) (v := y.2) tt.2.2, d2]
                simp only [List.append_assoc]
        · rintro σ H' ⟨⟨v4, rfl⟩, rfl⟩
          have e4 : loT l k ++ (hiT l k).drop ((keysT (hiT l k)).map V.str).length ++ [(k, v)] ++ (hiT l k).take ((keysT (hiT l k)).map V.str).length = insT l k v := by
            unfold insT
            rw [if_neg hk]
            unfold keysT
            rw [List.length_map, List.length_map, List.drop_length, List.take_length, List.append_nil]
          rw [e4]
          exact q _ upd_same fun b o z n => by
            rw [upd_ne fun e => n (List.mem_singleton.mpr e), upd_ne (ne_of_none z hHD)]; exact z
end
end Mc
namespace Mc
open PySem L2 PySem.Spec PyProof.Rows
abbrev sKInit : Stmt := inClass (top 12) 0
abbrev sRoom : Stmt := inClass (top 12) 1
abbrev sAdd : Stmt := inClass (top 12) 2
abbrev sWay : Stmt := inClass (top 12) 3
abbrev sLead : Stmt := inClass (top 12) 4
abbrev sSPut : Stmt := inClass (top 12) 5
abbrev sSeatable : Stmt := top 0
abbrev vS : PySem.Str → V := V.str
abbrev vA : Addr → V := V.ref
abbrev SMs := SM PySem.Str
def ScM (chs : Chs) (cls : Cls') : Sc PySem.Str := ⟨keysT chs, fun m => ((getT chs m).getD 0).toNat, fun c => ((getT cls c).map (·.2.2)).getD []⟩
structure SeatH (CK : Addr) (H : Hp) (s sc a b : Addr) (adr : PySem.Str → Addr) (ms : List PySem.Str) (S : SMs) : Prop where
  here : ∃ dx, H s = some (.ins CK dx [("scene", .ref sc), ("seating", .ref a), ("seated", .ref b)])
  seating : ∃ st : List (PySem.Str × PySem.Str), H a = some (.dK (kvT vS st)) ∧ AscT st ∧ st.length < 500 ∧ ∀ c, getT st c = S.pos c
  seated : H b = some (.dK (kvT vA (ms.map fun m => (m, adr m))))
  on : ∀ m ∈ ms, H (adr m) = some (.lst ((S.on m).map V.str))
  inj : ∀ m ∈ ms, ∀ n ∈ ms, adr m = adr n → m = n
  dom : ∀ c m, S.pos c = some m → m ∈ ms
  nd : ms.Nodup
  ab : b ≠ a
theorem SeatH.get {CK : Addr} {H : Hp} {s sc a b : Addr} {adr : PySem.Str → Addr} {ms : List PySem.Str} {S : SMs} (h : SeatH CK H s sc a b adr ms S) {m : PySem.Str} (hm : m ∈ ms) : DGet H b (.str m) (some (.ref (adr m))) :=
  dgetT (f := vA) (.inl h.seated) (getT_mem (by rw [keysT_mk]; exact h.nd) (List.mem_map.mpr ⟨m, hm, rfl⟩))
/-- what may change -/
def fpS (a : Addr) (adr : PySem.Str → Addr) (ms : List PySem.Str) : List Addr := a :: ms.map adr
theorem SeatH.ne_a {CK : Addr} {H : Hp} {s sc a b : Addr} {adr : PySem.Str → Addr} {ms : List PySem.Str} {S : SMs} (h : SeatH CK H s sc a b adr ms S) : ∀ m ∈ ms, adr m ≠ a := fun m hm e => by
  obtain ⟨st, h1, _⟩ := h.seating
  rw [← e, h.on m hm] at h1; cases h1
theorem SeatH.not_s {CK : Addr} {H : Hp} {s sc a b : Addr} {adr : PySem.Str → Addr} {ms : List PySem.Str} {S : SMs} (h : SeatH CK H s sc a b adr ms S) {x : Addr} {o : HO} (hx : H x = some o) (n1 : ∀ l, o ≠ .lst l) (n2 : x ≠ a) : x ∉ fpS a adr ms := fun z => by
  rcases List.mem_cons.mp z with z | z
  · exact n2 z
  · obtain ⟨m, hm, e⟩ := List.mem_map.mp z
    rw [← e, h.on m hm] at hx
    exact n1 _ (Option.some.inj hx).symm
/-- the scene of the seats, and that it is none of what changes -/
structure ScnH (K : PySem.W.Frag) (CS CC : Addr) (H : Hp) (sc : Addr) (F : List Addr) (chs : Chs) (cls : Cls') : Prop where
  sc : ∃ dx x y, H sc = some (.ins CS dx [("channels", .ref x), ("calls", .ref y)]) ∧ Rd H x (.dK (kvT vI chs)) ∧ Rd H y (.dK (kvT vO cls)) ∧ sc ∉ F ∧ x ∉ F ∧ y ∉ F
  calls : ∀ x ∈ cls, ∃ dx h, H x.2.1 = some (.ins CC dx [("worth", .int x.2.2.1), ("heard", .ref h)]) ∧ H h = some (.tup (x.2.2.2.map V.str)) ∧ x.2.1 ∉ F ∧ h ∉ F
theorem ScnH.keep {K : PySem.W.Frag} {CS CC : Addr} {H H' : Hp} {sc : Addr} {F : List Addr} {chs : Chs} {cls : Cls'} (h : ScnH K CS CC H sc F chs cls) (k : Kp F H H') : ScnH K CS CC H' sc F chs cls := by
  obtain ⟨dx, x, y, h1, h2, h3, n1, n2, n3⟩ := h.sc
  refine ⟨⟨dx, x, y, k _ _ h1 n1, rd_kp h2 k n2, rd_kp h3 k n3, n1, n2, n3⟩, fun z hz => ?_⟩
  obtain ⟨dx, h', c1, c2, m1, m2⟩ := h.calls z hz
  exact ⟨dx, h', k _ _ c1 m1, k _ _ c2 m2, m1, m2⟩
structure TxK (K : PySem.W.Frag) (mg : PySem.Str → Option Value) (CK CS CC : Addr) : Prop where
  cl : Cls K CK
  n1 : NoAttr K CK "scene"
  n2 : NoAttr K CK "seating"
  n3 : NoAttr K CK "seated"
  clS : Cls K CS
  nCh : NoAttr K CS "channels"
  nCa : NoAttr K CS "calls"
  clC : Cls K CC
  nH : NoAttr K CC "heard"
  len : mg "len" = none
  list : mg "list" = none
def spRoom (K : PySem.W.Frag) (CK CS CC : Addr) : Sp := fun vs H Q _ => ∃ (s sc a b : Addr) (adr : PySem.Str → Addr) (chs : Chs) (S : SMs) (m : PySem.Str) (n : Int), vs = [.ref s, .str m] ∧ SeatH CK H s sc a b adr (keysT chs) S ∧
  (∃ dx x y, H sc = some (.ins CS dx [("channels", .ref x), ("calls", .ref y)]) ∧ Rd H x (.dK (kvT vI chs))) ∧ getT chs m = some n ∧ Q (.bl (decide (((S.on m).length : Int) < n))) H
def spSPut (CK : Addr) : Sp := fun vs H Q _ => ∃ (s sc a b : Addr) (adr : PySem.Str → Addr) (ms : List PySem.Str) (X : Sc PySem.Str) (S : SMs) (names : List PySem.Str) (c m : PySem.Str), vs = [.ref s, .str c, .str m] ∧ SeatH CK H s sc a b adr ms S ∧
  SOk X S names ∧ names.length < 400 ∧ m ∈ ms ∧ ∀ H', SeatH CK H' s sc a b adr ms (S.put c m) → Kp (fpS a adr ms) H H' → Q .non H'
section
variable {P : Program} {w : World} {K : PySem.W.Frag} {mg : PySem.Str → Option Value} {base : Heap}
theorem scRoom : FnScope ["self", "mast"] ["self", "mast"] (defScope sRoom) := ⟨rfl, rfl, rfl, by decide +kernel, rfl, by decide +kernel, by decide +kernel⟩
theorem ok_room {f CK CS CC : Addr} {fd : FuncData} (F : Fun K "has_room" "Seats.has_room" sRoom f fd) (T : TxK K mg CK CS CC) : FnOk P w K mg base CX0 1 f fd ["self", "mast"] (spRoom K CK CS CC) := by
  refine F.ok scRoom (fun vs H Q E h => ?_) (fun cdv A outer s H vs Q E hr h => ?_)
  · obtain ⟨s, sc, a, b, adr, chs, S, m, n, rfl, _⟩ := h
    rfl
  · obtain ⟨s, sc, a, b, adr, chs, S, m, n, rfl, hS, hC, hn, q⟩ := h
    have hu := hu_of hr
    refine ⟨_, (pss_one (ps_ret (pe_cmpR op_lt (pe_callB call_len_seq (by rfl) T.len PySem.boot_len (pa_cons (pe_dget hu (pe_fld (pv 0) rfl) (pv 1) (fun _ _ => rfl)) pa_nil)) (pe_dget hu (pe_fld (pe_fld (pv 0) rfl) rfl) (pv 1) (fun _ _ => rfl)) (nomark _)))), ?_⟩
    obtain ⟨dx, h1⟩ := hS.here
    obtain ⟨dx2, x, y, c1, c2⟩ := hC
    have hm : m ∈ keysT chs := Classical.byContradiction fun z => by rw [getT_none.mpr z] at hn; cases hn
    refine ⟨_, rfl, s, CK, dx, _, _, rfl, h1, T.cl, T.n3, rfl, _, rfl, b, _, rfl, hS.get hm, adr m, (S.on m).map V.str, rfl, .inl (SqL.of (hS.on m hm)), ?_⟩
    refine ⟨_, rfl, s, CK, dx, _, _, rfl, h1, T.cl, T.n1, rfl, sc, CS, dx2, _, _, rfl, c1, T.clS, T.nCh, rfl, _, rfl, x, _, rfl, dgetT c2 hn, _, _, rfl, rfl, ?_⟩
    rw [List.length_map]
    exact q
theorem scSPut : FnScope ["self", "name", "mast"] ["self", "name", "mast"] (defScope sSPut) := ⟨rfl, rfl, rfl, by decide +kernel, rfl, by decide +kernel, by decide +kernel⟩
theorem ok_sput {f CK CS CC : Addr} {fd : FuncData} (F : Fun K "put" "Seats.put" sSPut f fd) (T : TxK K mg CK CS CC) (c_put_in_order : Cal P w K mg base 1 "put_in_order" ["table", "key", "value"] spPutO) : FnOk P w K mg base CX0 2 f fd ["self", "name", "mast"] (spSPut CK) := by
  refine F.ok scSPut (fun vs H Q E h => ?_) (fun cdv A outer s H vs Q E hr h => ?_)
  · obtain ⟨s, sc, a, b, adr, ms, X, S, names, c, m, rfl, _⟩ := h
    rfl
  · obtain ⟨s, sc, a, b, adr, ms, X, S, names, c, m, rfl, hS, O, hlen, hm, q⟩ := h
    have hu := hu_of hr
    refine ⟨_, (pss_cons (ps_if (pt_cmp (pc_din hu (pv 1) (pe_fld (pv 0) rfl)))
        (pss_one (ps_expr (pe_bm PySem.F.plainAttrs_list PySem.F.slot_list_remove PySem.F.type_list_remove mt_removeS (pe_dget hu (pe_fld (pv 0) rfl) (pe_dget hu (pe_fld (pv 0) rfl) (pv 1) (fun _ _ => rfl)) (fun _ _ => rfl)) (pa_cons (pv 1) pa_nil))))
        pss_nil)
      (pss_cons (ps_expr (pe_bm PySem.F.plainAttrs_list PySem.F.slot_list_append PySem.F.type_list_append mt_append (pe_dget hu (pe_fld (pv 0) rfl) (pv 2) (fun _ _ => rfl)) (pa_cons (pv 1) pa_nil)))
      (pss_one (ps_expr (pe_cal c_put_in_order (hr.mono (by decide)) rfl (pa_cons (pe_fld (pv 0) rfl) (pa_cons (pv 1) (pa_cons (pv 2) pa_nil)))))))), ?_⟩
    obtain ⟨dx, h1⟩ := hS.here
    obtain ⟨st, st1, asc, stl, stg⟩ := hS.seating
    have snF : ∀ x ∈ ms, s ≠ adr x := fun x hx e => by rw [e, hS.on x hx] at h1; cases h1
    have bnF : ∀ x ∈ ms, b ≠ adr x := fun x hx e => by have := hS.seated; rw [e, hS.on x hx] at this; cases this
    have ana := hS.ne_a
    have lenOn : ∀ x, (S.on x).length ≤ names.length := fun x => len_sub (O.nd x) fun y hy => (O.dom y).mp ⟨x, (O.mem y x).mpr hy⟩
    -- away from where it was
    refine' via (R := fun H1 : Hp => (∀ x ∈ ms, H1 (adr x) = some (.lst ((S.rm c x).map V.str))) ∧ ∀ x o, H x = some o → x ∉ ms.map adr → H1 x = some o) (fun tail => ?_) ?_
    rotate_left 1
    · refine ⟨_, rfl, _, rfl, s, CK, dx, _, _, rfl, h1, T.cl, T.n2, rfl, a, _, rfl, dgetN (.inl st1), _, rfl, ?_⟩
      rw [stg c]
      refine ite2 (fun h => ?_) (fun h => ?_)
      · cases e : S.pos c with
        | none => rw [e] at h; exact absurd h (by decide)
        | some m0 =>
          have hm0 := hS.dom c m0 e
          have hon : c ∈ S.on m0 := (O.mem c m0).mp e
          refine ⟨_, rfl, s, CK, dx, _, _, rfl, h1, T.cl, T.n3, rfl, _, rfl, s, CK, dx, _, _, rfl, h1, T.cl, T.n2, rfl, _, rfl, a, _, rfl, dgetT (f := vS) (v := m0) (.inl st1) (by rw [stg c]; exact e), b, _, rfl, hS.get hm0, .inl ⟨rfl, _, SqL.of (hS.on m0 hm0)⟩, _, rfl, adr m0, S.on m0, c, rfl, rfl, hS.on m0 hm0, hon, ?_⟩
          refine tail _ ⟨fun x hx => ?_, fun x o z n => ?_⟩
          · unfold SM.rm
            by_cases ex : x = m0
            · rw [ex, upd_same, if_pos e]
            · rw [upd_ne fun z => ex (hS.inj x hx m0 hm0 z), if_neg fun z => ex (by rw [e] at z; exact (Option.some.inj z).symm)]
              exact hS.on x hx
          · rw [upd_ne fun z => n (by rw [z]; exact List.mem_map.mpr ⟨m0, hm0, rfl⟩)]; exact z
      · have e : S.pos c = none := by
          cases e : S.pos c with
          | none => rfl
          | some m0 => rw [e] at h; exact absurd rfl h
        refine tail _ ⟨fun x hx => ?_, fun x o z n => z⟩
        unfold SM.rm
        rw [if_neg fun z => by rw [e] at z; cases z]
        exact hS.on x hx
    · rintro H1 ⟨o1, k1⟩
      have h1' := k1 s _ h1 fun z => by obtain ⟨x, hx, ex⟩ := List.mem_map.mp z; exact snF x hx ex.symm
      have hb1 := k1 b _ hS.seated fun z => by obtain ⟨x, hx, ex⟩ := List.mem_map.mp z; exact bnF x hx ex.symm
      have ha1 := k1 a _ st1 fun z => by obtain ⟨x, hx, ex⟩ := List.mem_map.mp z; exact ana x hx ex
      have gm := dgetT (f := vA) (H := H1) (a := b) (.inl hb1) (getT_mem (by rw [keysT_mk]; exact hS.nd) (List.mem_map.mpr ⟨m, hm, rfl⟩))
      have rml : (S.rm c m).length < sizeLine := Nat.lt_of_le_of_lt (S.rm_len c m) (Nat.lt_of_le_of_lt (lenOn m) (Nat.lt_trans hlen (by decide)))
      refine ⟨_, rfl, s, CK, dx, _, _, rfl, h1', T.cl, T.n3, rfl, _, rfl, b, _, rfl, gm, .inl ⟨rfl, _, SqL.of (o1 m hm)⟩, _, rfl, adr m, _, _, rfl, rfl, o1 m hm, by rw [List.length_map]; exact rml, ?_⟩
      have sm : s ≠ adr m := snF m hm
      have am : a ≠ adr m := (ana m hm).symm
      refine ⟨_, rfl, s, CK, dx, _, _, rfl, by rw [upd_ne sm]; exact h1', T.cl, T.n2, rfl, _, rfl, _, rfl, a, c, .str m, st.map (fun x => (x.1, vS x.2)), rfl, by rw [upd_ne am, ← kvT_id]; exact ha1, ?_, by rw [List.length_map]; exact Nat.lt_trans stl (by decide), fun H2 a2 k2 => ?_⟩
      · unfold AscT
        rw [List.pairwise_map]
        exact asc
      · have far : ∀ x o, H x = some o → x ∉ fpS a adr ms → H2 x = some o := fun x o z n => by
          have n1 : x ≠ a := fun e => n (by rw [e]; exact .head _)
          have n2 : x ∉ ms.map adr := fun e => n (.tail _ e)
          refine k2 x o ?_ fun z => n1 (List.mem_singleton.mp z)
          rw [upd_ne fun e => n2 (by rw [e]; exact List.mem_map.mpr ⟨m, hm, rfl⟩)]
          exact k1 x o z n2
        have stn : ∀ z, z ∉ fpS a adr ms ∨ True := fun _ => .inr trivial
        have stl2 : st.length ≤ names.length := by
          have h3 := len_sub (b := names) asc.nodup fun y hy => by
            obtain ⟨x, hx⟩ := getT_key hy
            exact (O.dom y).mp ⟨x, by rw [← stg]; exact hx⟩
          unfold keysT at h3
          rw [List.length_map] at h3
          exact h3
        have k2' : ∀ x, x ≠ a → ∀ o, (upd H1 (adr m) (.lst ((S.rm c m).map V.str ++ [V.str c]))) x = some o → H2 x = some o := fun x n o z => k2 x o z fun e => n (List.mem_singleton.mp e)
        refine q H2 ⟨⟨dx, far s _ h1 (hS.not_s h1 (fun _ e => by cases e) fun e => by rw [e, st1] at h1; cases h1)⟩, ⟨insT st c m, ?_, asc.ins, ?_, fun y => ?_⟩, ?_, fun x hx => ?_, hS.inj, fun y x hy => ?_, hS.nd, hS.ab⟩ far
        · rw [a2, kvT_id vS, ← ins_map vS]
        · have := ins_len (l := st) (k := c) (v := m); omega
        · rw [getT_ins asc, stg]; rfl
        · exact far b _ hS.seated (hS.not_s hS.seated (fun _ e => by cases e) hS.ab)
        · refine k2' _ (ana x hx) _ ?_
          show _ = some (HO.lst ((if x = m then S.rm c x ++ [c] else S.rm c x).map V.str))
          by_cases e : x = m
          · subst e; rw [upd_same, if_pos rfl, List.map_append]; rfl
          · rw [upd_ne fun z => e (hS.inj x hx m hm z), if_neg e]; exact o1 x hx
        · have hy : (if y = c then some m else S.pos y) = some x := hy
          by_cases e : y = c
          · rw [if_pos e] at hy; cases Option.some.inj hy; exact hm
          · rw [if_neg e] at hy; exact hS.dom y x hy
end
end Mc
namespace Mc
open PySem
/-! one search, one way, one state: what Seats does is told once for all -/
abbrev DL := List (PySem.Str × PySem.Str × Option PySem.Str)
abbrev SmT := SM PySem.Str
def stO (y m : PySem.Str) (L : DL) (o : PySem.Str) : DL := if o ∈ L.map (·.1) then L else L ++ [(o, y, some m)]
def stY (X : Sc PySem.Str) (m : PySem.Str) (L : DL) (y : PySem.Str) : DL := (X.heard y).foldl (stO y m) L
def stM (X : Sc PySem.Str) (S : SmT) (L : DL) (m : PySem.Str) : DL := (S.on m).foldl (stY X m) L
def sq (X : Sc PySem.Str) (S : SmT) (c : PySem.Str) : Nat → DL
  | 0 => (X.heard c).map fun m => (m, c, none)
  | i + 1 => match (sq X S c i)[i]? with
    | none => sq X S c i
    | some x => stM X S (sq X S c i) x.1
section
variable {X : Sc PySem.Str} {S : SmT} {c : PySem.Str}
theorem stO_pre (y m : PySem.Str) (L : DL) (o : PySem.Str) : ∃ A, stO y m L o = L ++ A := by
  unfold stO
  split
  · exact ⟨[], (List.append_nil _).symm⟩
  · exact ⟨_, rfl⟩
theorem fold_pre {α : Type} {f : DL → α → DL} (h : ∀ L a, ∃ A, f L a = L ++ A) : ∀ (l : List α) (L : DL), ∃ A, l.foldl f L = L ++ A
  | [], L => ⟨[], (List.append_nil _).symm⟩
  | a :: l, L => by
    obtain ⟨A, e⟩ := h L a
    obtain ⟨B, e2⟩ := fold_pre h l (f L a)
    exact ⟨A ++ B, by rw [List.foldl_cons, e2, e, List.append_assoc]⟩
theorem stY_pre (X : Sc PySem.Str) (m : PySem.Str) (L : DL) (y : PySem.Str) : ∃ A, stY X m L y = L ++ A := fold_pre (stO_pre y m) _ L
theorem stM_pre (X : Sc PySem.Str) (S : SmT) (L : DL) (m : PySem.Str) : ∃ A, stM X S L m = L ++ A := fold_pre (stY_pre X m) _ L
theorem sq_succ (i : Nat) : ∃ A, sq X S c (i + 1) = sq X S c i ++ A := by
  rw [sq]
  split
  · exact ⟨[], (List.append_nil _).symm⟩
  · exact stM_pre X S _ _
theorem sq_pre (i k : Nat) : ∃ A, sq X S c (i + k) = sq X S c i ++ A := by
  induction k with
  | zero => exact ⟨[], (List.append_nil _).symm⟩
  | succ k ih =>
    obtain ⟨A, e⟩ := ih
    obtain ⟨B, e2⟩ := sq_succ (X := X) (S := S) (c := c) (i + k)
    exact ⟨A ++ B, by rw [← Nat.add_assoc, e2, e, List.append_assoc]⟩
theorem sq_end {i : Nat} (h : (sq X S c i).length = i) (k : Nat) : sq X S c (i + k) = sq X S c i := by
  induction k with
  | zero => rfl
  | succ k ih =>
    rw [← Nat.add_assoc, sq, ih]
    have : (sq X S c i)[i + k]? = none := List.getElem?_eq_none (by omega)
    rw [this]
/-- what way_for tells -/
structure WayR (X : Sc PySem.Str) (S : SmT) (c : PySem.Str) (L : DL) (i : Nat) (r : Option PySem.Str) : Prop where
  eq : L = sq X S c i
  full : ∀ j, j < i → ∀ m, (L.map (·.1))[j]? = some m → ¬ (S.on m).length < X.cap m
  le : i ≤ L.length
  yes : ∀ m, r = some m → (L.map (·.1))[i]? = some m ∧ (S.on m).length < X.cap m
  no : r = none → i = L.length
theorem WayR.lt {L1 L2 : DL} {i1 i2 : Nat} {r1 r2 : Option PySem.Str} (h1 : WayR X S c L1 i1 r1) (h2 : WayR X S c L2 i2 r2) : ¬ i1 < i2 := fun hlt => by
  obtain ⟨k, rfl⟩ : ∃ k, i2 = i1 + k := ⟨i2 - i1, by omega⟩
  cases r1 with
  | none =>
    have e := h1.no rfl
    have e2 : L2 = L1 := by rw [h2.eq, h1.eq]; exact sq_end (by rw [← h1.eq]; exact e.symm) k
    have := h2.le
    rw [e2] at this
    omega
  | some m =>
    obtain ⟨a, b⟩ := h1.yes m rfl
    obtain ⟨A, e⟩ := sq_pre (X := X) (S := S) (c := c) i1 k
    refine h2.full i1 hlt m ?_ b
    rw [h2.eq, e, ← h1.eq, List.map_append, List.getElem?_append_left (List.getElem?_eq_some_iff.mp a).1]
    exact a
theorem WayR.uniq {L1 L2 : DL} {i1 i2 : Nat} {r1 r2 : Option PySem.Str} (h1 : WayR X S c L1 i1 r1) (h2 : WayR X S c L2 i2 r2) : L1 = L2 ∧ r1 = r2 := by
  have e : i1 = i2 := Nat.le_antisymm (Nat.not_lt.mp (h2.lt h1)) (Nat.not_lt.mp (h1.lt h2))
  subst e
  have eL : L1 = L2 := h1.eq.trans h2.eq.symm
  refine ⟨eL, ?_⟩
  subst eL
  cases r1 with
  | none =>
    cases r2 with
    | none => rfl
    | some m =>
      have e := h1.no rfl
      have := (List.getElem?_eq_some_iff.mp (h2.yes m rfl).1).1
      rw [List.length_map] at this
      omega
  | some m =>
    cases r2 with
    | none =>
      have e := h2.no rfl
      have := (List.getElem?_eq_some_iff.mp (h1.yes m rfl).1).1
      rw [List.length_map] at this
      omega
    | some m' =>
      have a := (h1.yes m rfl).1
      rw [(h2.yes m' rfl).1] at a
      rw [Option.some.inj a]
/-- the moves along a way, from its end on -/
inductive LeadR (L : DL) : SmT → Option PySem.Str → SmT → Prop
  | nil {S : SmT} : LeadR L S none S
  | cons {S S' : SmT} {m y : PySem.Str} {l : Option PySem.Str} : getT L m = some (y, l) → LeadR L (S.put y m) l S' → LeadR L S (some m) S'
theorem LeadR.uniq {L : DL} {S S1 : SmT} {m : Option PySem.Str} (h : LeadR L S m S1) : ∀ {S2 : SmT}, LeadR L S m S2 → S1 = S2 := by
  induction h with
  | nil => intro S2 h2; cases h2; rfl
  | cons e _ ih =>
    intro S2 h2
    cases h2 with
    | cons e2 h2 =>
      rw [e] at e2
      cases e2
      exact ih h2
/-- one more call is seated -/
def AddR (X : Sc PySem.Str) (S : SmT) (c : PySem.Str) (S' : SmT) : Prop := ∃ L i m, WayR X S c L i (some m) ∧ LeadR L S (some m) S'
/-- or it isn't, and this is the paper -/
def PapD (X : Sc PySem.Str) (S : SmT) (c : PySem.Str) (zs : List PySem.Str) : Prop := ∃ L i, WayR X S c L i none ∧ zs.Perm (c :: (L.map (·.1)).flatMap S.on)
theorem AddR.uniq {S1 S2 : SmT} (h1 : AddR X S c S1) (h2 : AddR X S c S2) : S1 = S2 := by
  obtain ⟨L1, i1, m1, w1, l1⟩ := h1
  obtain ⟨L2, i2, m2, w2, l2⟩ := h2
  obtain ⟨rfl, e⟩ := w1.uniq w2
  cases e
  exact l1.uniq l2
theorem AddR.not {S1 : SmT} {zs : List PySem.Str} (h1 : AddR X S c S1) (h2 : PapD X S c zs) : False := by
  obtain ⟨L1, i1, m1, w1, l1⟩ := h1
  obtain ⟨L2, i2, w2, _⟩ := h2
  obtain ⟨_, e⟩ := w1.uniq w2
  cases e
theorem PapD.uniq {zs ys : List PySem.Str} (h1 : PapD X S c zs) (h2 : PapD X S c ys) : zs.Perm ys := by
  obtain ⟨L1, i1, w1, p1⟩ := h1
  obtain ⟨L2, i2, w2, p2⟩ := h2
  obtain ⟨rfl, _⟩ := w1.uniq w2
  exact p1.trans p2.symm
end
def S0m : SmT := ⟨fun _ => none, fun _ => []⟩
/-- what Kept does, call by call; the papers sorted -/
inductive KeptR (X : Sc PySem.Str) : List PySem.Str → SmT → List (PySem.Str × List PySem.Str) → Prop
  | nil : KeptR X [] S0m []
  | yes {P : List PySem.Str} {S S' : SmT} {PP : List (PySem.Str × List PySem.Str)} {c : PySem.Str} : KeptR X P S PP → AddR X S c S' → KeptR X (P ++ [c]) S' PP
  | no {P : List PySem.Str} {S : SmT} {PP : List (PySem.Str × List PySem.Str)} {c : PySem.Str} {zs : List PySem.Str} : KeptR X P S PP → PapD X S c zs → KeptR X (P ++ [c]) S (PP ++ [(c, zs)])
theorem snoc_inj {α : Type} {P Q : List α} {a b : α} (h : P ++ [a] = Q ++ [b]) : P = Q ∧ a = b := by
  have h1 := congrArg List.reverse h
  rw [List.reverse_append, List.reverse_append] at h1
  obtain ⟨e1, e2⟩ := List.cons.inj h1
  exact ⟨List.reverse_inj.mp e2, e1⟩
theorem snoc_perm {A B : List (PySem.Str × List PySem.Str)} {x y : PySem.Str × List PySem.Str} (r1 : A.map Prod.fst = B.map Prod.fst) (r2 : ∀ (n : Nat) a b, A[n]? = some a → B[n]? = some b → a.2.Perm b.2) (h : x.2.Perm y.2) : ∀ (n : Nat) a b, (A ++ [x])[n]? = some a → (B ++ [y])[n]? = some b → a.2.Perm b.2 := by
  intro n a b ha hb
  have hl := congrArg List.length r1
  rw [List.length_map, List.length_map] at hl
  by_cases hn : n < A.length
  · rw [List.getElem?_append_left hn] at ha
    rw [List.getElem?_append_left (by omega)] at hb
    exact r2 n a b ha hb
  · rw [List.getElem?_append_right (by omega)] at ha
    rw [List.getElem?_append_right (by omega)] at hb
    have e1 : n - A.length = 0 := by
      have := (List.getElem?_eq_some_iff.mp ha).1
      simp at this; omega
    have e2 : n - B.length = 0 := by omega
    rw [e1] at ha
    rw [e2] at hb
    cases ha; cases hb
    exact h
/-- of two such runs: the same state, papers of the same calls, with the same words -/
theorem KeptR.uniq {X : Sc PySem.Str} {P : List PySem.Str} {S1 : SmT} {PP1 : List (PySem.Str × List PySem.Str)} (h : KeptR X P S1 PP1) : ∀ {P2 : List PySem.Str} {S2 : SmT} {PP2 : List (PySem.Str × List PySem.Str)}, KeptR X P2 S2 PP2 → P = P2 → S1 = S2 ∧ PP1.map Prod.fst = PP2.map Prod.fst ∧ ∀ (n : Nat) a b, PP1[n]? = some a → PP2[n]? = some b → a.2.Perm b.2 := by
  have nil_ne : ∀ {P : List PySem.Str} {c : PySem.Str}, [] ≠ P ++ [c] := fun e => by
    have := congrArg List.length e
    simp at this
  induction h with
  | nil =>
    intro P2 S2 PP2 h2 e
    cases h2 with
    | nil => exact ⟨rfl, rfl, fun n a b h => nomatch h⟩
    | yes _ _ => exact absurd e nil_ne
    | no _ _ => exact absurd e nil_ne
  | yes h1 a1 ih =>
    intro P2 S2 PP2 h2 e
    cases h2 with
    | nil => exact absurd e.symm nil_ne
    | yes h2 a2 =>
      obtain ⟨e1, rfl⟩ := snoc_inj e
      obtain ⟨rfl, r⟩ := ih h2 e1
      exact ⟨a1.uniq a2, r⟩
    | no h2 a2 =>
      obtain ⟨e1, rfl⟩ := snoc_inj e
      obtain ⟨rfl, r⟩ := ih h2 e1
      exact (a1.not a2).elim
  | no h1 a1 ih =>
    intro P2 S2 PP2 h2 e
    cases h2 with
    | nil => exact absurd e.symm nil_ne
    | yes h2 a2 =>
      obtain ⟨e1, rfl⟩ := snoc_inj e
      obtain ⟨rfl, r⟩ := ih h2 e1
      exact (a2.not a1).elim
    | no h2 a2 =>
      obtain ⟨e1, rfl⟩ := snoc_inj e
      obtain ⟨rfl, r1, r2⟩ := ih h2 e1
      refine ⟨rfl, by rw [List.map_append, List.map_append, r1]; rfl, snoc_perm r1 r2 (a1.uniq a2)⟩
end Mc
namespace Mc
open PySem L2 PySem.Spec PyProof.Rows
abbrev CL := List (PySem.Str × PySem.Str × Option PySem.Str)
def vL : Option PySem.Str → V
  | none => .non
  | some m => .str m
structure CameH (H : Hp) (d : Addr) (L : CL) (adT : PySem.Str → Addr) : Prop where
  d : H d = some (.dK (kvT vA (L.map fun x => (x.1, adT x.1))))
  at' : ∀ x ∈ L, H (adT x.1) = some (.tup [.str x.2.1, vL x.2.2])
def spLead (CK : Addr) : Sp := fun vs H Q _ => ∃ (s sc a b d : Addr) (adr adT : PySem.Str → Addr) (ms : List PySem.Str) (X : Sc PySem.Str) (S : SMs) (names : List PySem.Str) (c m : PySem.Str) (L : CL) (n : Nat), vs = [.ref s, .str m, .ref d] ∧ SeatH CK H s sc a b adr ms S ∧
  names.length < 400 ∧ (∀ c m, m ∈ X.heard c → m ∈ ms) ∧ CameH H d L adT ∧ d ≠ a ∧ Lead X S c L S names m n ∧ ∀ H' S', SeatH CK H' s sc a b adr ms S' → SOk X S' (names ++ [c]) → LeadR L S (some m) S' → Kp (fpS a adr ms) H H' → Q .non H'
def LdW (CK : Addr) (X : Sc PySem.Str) (S : SMs) (c : PySem.Str) (L : CL) (names : List PySem.Str) (s sc a b d : Addr) (adr adT : PySem.Str → Addr) (ms : List PySem.Str) (H : Hp) (m0 : PySem.Str) (k : Nat) (σ : L2.St) (H' : Hp) : Prop :=
  ∃ cur v3 v4 S', σ = [some (.ref s), some (vL cur), some (.ref d), v3, v4] ∧ Kp (fpS a adr ms) H H' ∧ CameH H' d L adT ∧ SeatH CK H' s sc a b adr ms S' ∧ ((∃ m, cur = some m ∧ Lead X S c L S' names m k) ∨ (cur = none ∧ SOk X S' (names ++ [c]))) ∧ ∀ S2, LeadR L S' cur S2 → LeadR L S (some m0) S2
section
variable {P : Program} {w : World} {K : PySem.W.Frag} {mg : PySem.Str → Option Value} {base : Heap}
theorem CameH.keep {CK : Addr} {H H' : Hp} {s sc a b d : Addr} {adr adT : PySem.Str → Addr} {ms : List PySem.Str} {S : SMs} {L : CL} (h : CameH H d L adT) (hS : SeatH CK H s sc a b adr ms S) (n : d ≠ a) (k : Kp (fpS a adr ms) H H') : CameH H' d L adT := by
  obtain ⟨st, st1, _⟩ := hS.seating
  exact ⟨k _ _ h.d (hS.not_s h.d (fun _ e => by cases e) n), fun x hx => k _ _ (h.at' x hx) (hS.not_s (h.at' x hx) (fun _ e => by cases e) fun e => by have := h.at' x hx; rw [e, st1] at this; cases this)⟩
theorem scLead : FnScope ["self", "mast", "came", "name", "left"] ["self", "mast", "came"] (defScope sLead) := ⟨rfl, rfl, rfl, by decide +kernel, rfl, by decide +kernel, by decide +kernel⟩
theorem ok_lead {f CK CS CC : Addr} {fd : FuncData} (F : Fun K "lead" "Seats.lead" sLead f fd) (T : TxK K mg CK CS CC) (c_Seats_put : CalM P w K mg base CK 2 "put" ["self", "name", "mast"] (spSPut CK)) : FnOk P w K mg base CX0 3 f fd ["self", "mast", "came"] (spLead CK) := by
  refine F.ok scLead (fun vs H Q E h => ?_) (fun cdv A outer s H vs Q E hr h => ?_)
  · obtain ⟨s, sc, a, b, d, adr, adT, ms, X, S, names, c, m, L, n, rfl, _⟩ := h
    rfl
  · obtain ⟨s, sc, a, b, d, adr, adT, ms, X, S, names, c, m, L, n, rfl, hS, hlen, hms, hL, hda, I, q⟩ := h
    have hu := hu_of hr
    refine ⟨_, (pss_one (ps_while PassesOwn.never (pt_cmpR op_notN (pv 1) pe_non (nomark _))
        (pss_cons (ps_asg (pe_dget hu (pv 2) (pv 1) (fun _ _ => rfl)) (pg_tup rfl (pgs_cons (pg_name (i := 3) scLead.nd rfl (Or.inl rfl)) (pgs_cons (pg_name (i := 4) scLead.nd rfl (Or.inl rfl)) pgs_nil))))
        (pss_cons (ps_expr (pe_calM (pv 0) T.cl c_Seats_put (hr.mono (by decide)) (pa_cons (pv 3) (pa_cons (pv 1) pa_nil))))
        (pss_one (ps_set (i := 1) scLead.nd rfl (Or.inl rfl) (pv 4))))))), ?_⟩
    refine ⟨LdW CK X S c L names s sc a b d adr adT ms H m, ⟨n, some m, none, none, S, rfl, Kp.refl _ _, hL, hS, .inl ⟨m, rfl, I⟩, fun _ h => h⟩, ?_⟩
    rintro k σ H1 ⟨cur, v3, v4, S1, rfl, k1, hL1, hS1, ⟨m1, rfl, I1⟩ | ⟨rfl, O1⟩, hR1⟩
    · refine ⟨_, rfl, rfl, _, rfl, fun σ' H' => ∃ m', m' < k ∧ LdW CK X S c L names s sc a b d adr adT ms H m m' σ' H', fun _ _ h => h, ?_⟩
      obtain ⟨y, l, hin, hmy, hnx⟩ := I1.step
      obtain ⟨dx, h1⟩ := hS1.here
      have gm := dgetT (f := vA) (H := H1) (a := d) (k := m1) (v := adT m1) (.inl hL1.d) (getT_mem (by rw [show keysT (L.map fun x => (x.1, adT x.1)) = L.map (·.1) by unfold keysT; rw [List.map_map]; rfl]; exact I1.ch.nodup) (List.mem_map.mpr ⟨_, hin, rfl⟩))
      have ht := hL1.at' _ hin
      have gL : getT L m1 = some (y, l) := getT_mem (l := L) (by unfold keysT; exact I1.ch.nodup) hin
      refine ⟨_, rfl, _, rfl, d, _, rfl, gm, adT m1, [.str y, vL l], rfl, SqT.of ht, rfl, _, _, rfl, _, _, rfl, rfl, ?_⟩
      refine ⟨_, rfl, s, dx, _, rfl, h1, rfl, _, rfl, _, rfl, s, sc, a, b, adr, ms, X, S1, names, y, m1, rfl, hS1, I1.ok, hlen, hms y m1 hmy, fun H2 hS2 k2 => ⟨_, rfl, ?_⟩⟩
      have hL2 := hL1.keep hS1 hda k2
      rcases hnx with ⟨rfl, rfl, O2⟩ | ⟨m', k', rfl, hk, I2⟩
      · exact ⟨0, Nat.lt_of_le_of_lt (Nat.zero_le _) (I1.pre _ _ _ _ (I1.ch.at I1.here).choose_spec.choose_spec.choose_spec.choose_spec.1).1, none, _, _, _, rfl, k1.trans k2, hL2, hS2, .inr ⟨rfl, O2⟩, fun S2 h => hR1 S2 (.cons gL h)⟩
      · exact ⟨k', hk, some m', _, _, _, rfl, k1.trans k2, hL2, hS2, .inl ⟨m', rfl, I2⟩, fun S2 h => hR1 S2 (.cons gL h)⟩
    · refine ⟨_, rfl, rfl, _, rfl, ?_⟩
      exact q H1 S1 hS1 O1 (hR1 S1 .nil) k1
end
end Mc
namespace Mc
open PySem L2 PySem.Spec PyProof.Rows
section
variable {X : Cx}
theorem sw_dict {kx vx : Expr} {gs : List Comprehension} {scope : Scope} {pos py : Pos} {y : PySem.Str} {n : Nat} {env : Env} (h1 : env.scope.kind = .function) (h2 : env.scope.names.lookup y = some .local) (h3 : (py.line == pos.line) = true)
    (h4 : (scope.names.any fun (n, k) => n == y && (k == .local || k == .cell)) = false) : swapsWith (.DictComp kx vx gs scope pos) (some (.Name y py)) n env = pure true := by
  have a : env.kindOf y = some .local := h2
  have b : env.blockKind = .function := by simp only [Env.blockKind, h1]; rfl
  simp only [swapsWith, a, b, h4, Expr.pos, h3]; rfl
/-- name = {..} on one line, the name a plain local -/
theorem ps_setDc {i : Nat} {y : PySem.Str} {py : Pos} {kx vx tg iter : Expr} {ifs : List Expr} {scope : Scope} {own : List (PySem.Str × Nat)} {pos spos : Pos} {wi : TI} {g : TG} {tt : TT} {tk tv : TE} (hc : X.calm = true) (hN : X.N.Nodup) (hy : X.N[i]? = some y) (hl : X.env.scope.names.lookup y = some .local)
    (hsw : swapsWith (.DictComp kx vx [⟨tg, iter, ifs, 0⟩] scope pos) (some (.Name y py)) spos.line X.env = pure true) (hi : PI X tg iter wi) (ok : BlkOk X.N X.env.scope scope own)
    (pg : ∀ (s : Shared) (H : Hp) (C : Addr) (cl : List (PySem.Str × Addr)) (fp : List Addr), PG (X.blk s H scope (compEnvC scope cl C X.env) fp) tg g)
    (pt : ∀ (s : Shared) (H : Hp) (C : Addr) (cl : List (PySem.Str × Addr)) (fp : List Addr), PTs (X.blk s H scope (compEnvC scope cl C X.env) fp) ifs tt)
    (pk : ∀ (s : Shared) (H : Hp) (C : Addr) (cl : List (PySem.Str × Addr)) (fp : List Addr), PE (X.blk s H scope (compEnvC scope cl C X.env) fp) kx tk)
    (pe : ∀ (s : Shared) (H : Hp) (C : Addr) (cl : List (PySem.Str × Addr)) (fp : List Addr), PE (X.blk s H scope (compEnvC scope cl C X.env) fp) vx tv) (hs : ∀ x, foldedSetIterable iter X.env x = pure x := by intro _; rfl) :
    PS X (.Assign [.Name y py] (.DictComp kx vx [⟨tg, iter, ifs, 0⟩] scope pos) spos) (tAsg (tDc wi g tt tk tv (own.map (·.2))) (gName i)) := ⟨fun pins s σ H D I h => by
  have h' : tDc wi g tt tk tv (own.map (·.2)) σ H (fun x H1 => gName i x σ H1 D.nx) := h
  rw [exec_Assign_Name_used _ _ _ _ hsw]
  refine wpAny_bind (wpAny_standAt (wpAny_bind ?_))
  change wpAny _ X.A (comprehension (.DictComp kx vx [⟨tg, iter, ifs, 0⟩] scope pos) scope X.env (firstIterPos [⟨tg, iter, ifs, 0⟩] pos) newDict false (eval iter X.env) (some (assign (.Name y py) X.env)) >>= fun _ => pure ()) _ _ _
  refine wpAny_bind ?_
  refine thn (dc_core (Qf := fun _ t => SP X pins D .next t) hc hN I hi ok pg pt pk pe hs h' ?_) fun _ t ht => wpAny_pure (wpAny_pure ht)
  intro L C t m H' It q hn fo
  refine wpAny_assign_Name (store_ok2 (v := V.ref L) It hN hy (.inl hl) rfl (fun t2 I2 ⟨c, sb, wh⟩ => ?_) (.inr hl))
  obtain ⟨f0, f1, f2, f3, f4, f5⟩ := fo
  have ne : C ≠ c := wh.elim (fun z => z ▸ f1) fun z e => f4 y c z e.symm
  exact ⟨m, hn.sameBut sb ne, fun t3 sb3 => ⟨_, H', I2.turned (t' := t2.toks) (fun b o n e => (sb3.2 b n).trans e) f0 f1 f3 f4 f5, q⟩⟩⟩
end
end Mc
namespace Mc
open PySem L2 PySem.Spec PyProof.Rows
structure Bf (X : Sc PySem.Str) (S : SMs) (c : PySem.Str) (ms : List PySem.Str) (L : CL) (i : Nat) : Prop where
  ch : Ch X S c L
  hd : ∀ m ∈ X.heard c, m ∈ L.map (·.1)
  sub : ∀ m ∈ L.map (·.1), m ∈ ms
  done : ∀ j, j < i → ∀ m, (L.map (·.1))[j]? = some m → ¬ (S.on m).length < X.cap m ∧ ∀ y ∈ S.on m, ∀ o ∈ X.heard y, o ∈ L.map (·.1)
theorem Bf.grow {X : Sc PySem.Str} {S : SMs} {c : PySem.Str} {ms : List PySem.Str} {L : CL} {i : Nat} (b : Bf X S c ms L i) {m y : PySem.Str} {l : Option PySem.Str} (hc : Ch X S c (L ++ [(m, y, l)])) (hm : m ∈ ms) (hi : i ≤ L.length) : Bf X S c ms (L ++ [(m, y, l)]) i := by
  have inc : ∀ x ∈ L.map (·.1), x ∈ (L ++ [(m, y, l)]).map (·.1) := fun x hx => by rw [List.map_append]; exact List.mem_append_left _ hx
  refine ⟨hc, fun x hx => inc x (b.hd x hx), fun x hx => ?_, fun j hj x hx => ?_⟩
  · rw [List.map_append, List.mem_append] at hx
    rcases hx with hx | hx
    · exact b.sub x hx
    · cases List.mem_singleton.mp hx; exact hm
  · rw [List.map_append, List.getElem?_append_left (by rw [List.length_map]; omega)] at hx
    obtain ⟨d1, d2⟩ := b.done j hj x hx
    exact ⟨d1, fun y hy o ho => inc o (d2 y hy o ho)⟩
theorem Bf.len {X : Sc PySem.Str} {S : SMs} {c : PySem.Str} {ms : List PySem.Str} {L : CL} {i : Nat} (b : Bf X S c ms L i) : L.length ≤ ms.length := by
  have := len_sub b.ch.nodup b.sub
  rwa [List.length_map] at this
def adP (adT : PySem.Str → Addr) (m : PySem.Str) (p : Addr) : PySem.Str → Addr := fun z => if z = m then p else adT z
theorem CameH.push {H : Hp} {d p : Addr} {L : CL} {adT : PySem.Str → Addr} (h : CameH H d L adT) {m y : PySem.Str} {l : Option PySem.Str} (hm : m ∉ L.map (·.1)) (hp : H p = none) :
    putK (kvT vA (L.map fun x => (x.1, adT x.1))) (Sum.inr m : L2.Key) (.ref p) = kvT vA ((L ++ [(m, y, l)]).map fun x => (x.1, adP adT m p x.1)) ∧
    CameH (upd (upd H p (.tup [.str y, vL l])) d (.dK (kvT vA ((L ++ [(m, y, l)]).map fun x => (x.1, adP adT m p x.1))))) d (L ++ [(m, y, l)]) (adP adT m p) := by
  have dp : d ≠ p := ne_of_none h.d hp
  have ne : ∀ x ∈ L, x.1 ≠ m := fun x hx e => hm (by rw [← e]; exact List.mem_map.mpr ⟨x, hx, rfl⟩)
  have eL : (L.map fun x => (x.1, adP adT m p x.1)) = L.map fun x => (x.1, adT x.1) := List.map_congr_left fun x hx => by
    show (x.1, if x.1 = m then p else adT x.1) = _
    rw [if_neg (ne x hx)]
  have td : ∀ x ∈ L, adT x.1 ≠ d := fun x hx e => by have := h.at' x hx; rw [e, h.d] at this; cases this
  refine ⟨?_, upd_same, fun x hx => ?_⟩
  · have e1 := put_new (f := vA) (l := L.map fun x => (x.1, adT x.1)) (k := m) (v := p) (fun z => hm (by unfold keysT at z; rw [List.map_map] at z; exact z))
    rw [e1, List.map_append, eL]
    show _ = kvT vA (_ ++ [(m, if m = m then p else adT m)])
    rw [if_pos rfl]
  · rcases List.mem_append.mp hx with hx | hx
    · show _ = some (HO.tup [V.str x.2.1, vL x.2.2])
      unfold adP
      rw [if_neg (ne x hx), upd_ne (td x hx), upd_ne (ne_of_none (h.at' x hx) hp)]
      exact h.at' x hx
    · cases List.mem_singleton.mp hx
      show _ = some (HO.tup [V.str y, vL l])
      unfold adP
      rw [if_pos rfl, upd_ne dp.symm]
      exact upd_same
structure QsH (H0 H : Hp) (d q : Addr) (L : CL) (adT : PySem.Str → Addr) : Prop where
  same : Same H0 H
  came : CameH H d L adT
  qq : H q = some (.lst ((L.map (·.1)).map V.str))
  d0 : H0 d = none
  q0 : H0 q = none
theorem QsH.push {H0 H : Hp} {d q p : Addr} {L : CL} {adT : PySem.Str → Addr} (h : QsH H0 H d q L adT) {m y : PySem.Str} {l : Option PySem.Str} (hm : m ∉ L.map (·.1)) (hp : H p = none) :
    QsH H0 (upd (upd (upd H p (.tup [.str y, vL l])) d (.dK (kvT vA ((L ++ [(m, y, l)]).map fun x => (x.1, adP adT m p x.1))))) q (.lst ((L.map (·.1)).map V.str ++ [V.str m]))) d q (L ++ [(m, y, l)]) (adP adT m p) := by
  obtain ⟨_, c2⟩ := h.came.push (y := y) (l := l) hm hp
  have dq : d ≠ q := fun e => by have := h.qq; rw [← e, h.came.d] at this; cases this
  have dp : d ≠ p := ne_of_none h.came.d hp
  have qp : q ≠ p := ne_of_none h.qq hp
  refine ⟨fun b o z => ?_, ⟨by rw [upd_ne dq]; exact c2.d, fun x hx => ?_⟩, ?_, h.d0, h.q0⟩
  · have z1 := h.same _ _ z
    have b1 : b ≠ q := fun e => by rw [e, h.q0] at z; cases z
    have b2 : b ≠ d := fun e => by rw [e, h.d0] at z; cases z
    rw [upd_ne b1, upd_ne b2, upd_ne (ne_of_none z1 hp)]; exact z1
  · have z := c2.at' x hx
    rw [upd_ne fun e => ?_]
    · exact z
    · rw [e, upd_ne dq.symm, upd_ne qp, h.qq] at z; cases z
  · rw [upd_same, List.map_append, List.map_append]; rfl

theorem ch_init {X : Sc PySem.Str} {S : SMs} {c : PySem.Str} {l : List PySem.Str} (nd : l.Nodup) (h : ∀ m ∈ l, m ∈ X.heard c) : Ch X S c (l.map fun m => (m, c, (none : Option PySem.Str))) := by
  have go : ∀ i, i ≤ l.length → Ch X S c ((l.take i).map fun m => (m, c, (none : Option PySem.Str))) := by
    intro i
    induction i with
    | zero => exact fun _ => .nil
    | succ i ih =>
      intro hi
      have hm : l[i]? = some l[i] := List.getElem?_eq_getElem hi
      rw [List.take_add_one, hm, List.map_append]
      refine .snoc (ih (Nat.le_of_lt hi)) (h _ (List.getElem_mem hi)) (.inl ⟨rfl, rfl⟩) ?_
      rw [List.map_map, show (l.take i).map ((fun x => x.1) ∘ fun m => (m, c, (none : Option PySem.Str))) = l.take i from List.map_id _]
      exact nd_take nd hm
  have := go l.length (Nat.le_refl _)
  rwa [List.take_length] at this
theorem SeatH.same {CK : Addr} {H H' : Hp} {s sc a b : Addr} {adr : PySem.Str → Addr} {ms : List PySem.Str} {S : SMs} (h : SeatH CK H s sc a b adr ms S) (k : Same H H') : SeatH CK H' s sc a b adr ms S := by
  obtain ⟨dx, h1⟩ := h.here
  obtain ⟨st, h2, h3⟩ := h.seating
  exact ⟨⟨dx, k _ _ h1⟩, ⟨st, k _ _ h2, h3⟩, k _ _ h.seated, fun m hm => k _ _ (h.on m hm), h.inj, h.dom, h.nd, h.ab⟩
theorem CameH.new {H : Hp} {d t : Addr} {L : CL} {adT : PySem.Str → Addr} {o : HO} (h : CameH H d L adT) (ht : H t = none) : CameH (upd H t o) d L adT :=
  ⟨by rw [upd_ne (ne_of_none h.d ht)]; exact h.d, fun x hx => by rw [upd_ne (ne_of_none (h.at' x hx) ht)]; exact h.at' x hx⟩
theorem same_new {H H' : Hp} {t : Addr} {o : HO} (s : Same H H') (ht : H' t = none) : Same H (upd H' t o) := fun b u z => by rw [upd_ne (ne_of_none (s _ _ z) ht)]; exact s _ _ z
def WyW (chs : Chs) (cls : Cls') (S : SMs) (c : PySem.Str) (H : Hp) (s d q : Addr) (k : Nat) (σ : L2.St) (H' : Hp) : Prop := ∃ L adT i v5 v6 v7, σ = [some (.ref s), some (.str c), some (.ref d), some (.ref q), some (.int (i : Nat)), v5, v6, v7] ∧ QsH H H' d q L adT ∧ Bf (ScM chs cls) S c (keysT chs) L i ∧ i ≤ L.length ∧ k + i = (keysT chs).length + 1 ∧ L = sq (ScM chs cls) S c i
def In2 (chs : Chs) (cls : Cls') (S : SMs) (c m : PySem.Str) (H : Hp) (s d q : Addr) (i u : Nat) (y : Option PySem.Str) (zs : List PySem.Str) (v : Nat) (σ : L2.St) (H' : Hp) : Prop := ∃ L adT v6 v7, σ = [some (.ref s), some (.str c), some (.ref d), some (.ref q), some (.int (i : Nat)), some (.str m), v6, v7] ∧ (∀ z, y = some z → v6 = some (.str z)) ∧
  QsH H H' d q L adT ∧ Bf (ScM chs cls) S c (keysT chs) L i ∧ (L.map (·.1))[i]? = some m ∧ (∀ z ∈ (S.on m).take u, ∀ o ∈ (ScM chs cls).heard z, o ∈ L.map (·.1)) ∧ (∀ o ∈ zs.take v, o ∈ L.map (·.1)) ∧ L = (zs.take v).foldl (stO (y.getD m) m) (((S.on m).take u).foldl (stY (ScM chs cls) m) (sq (ScM chs cls) S c i))
def spWay (K : PySem.W.Frag) (CK CS CC : Addr) : Sp := fun vs H Q _ => ∃ (s sc a b : Addr) (adr : PySem.Str → Addr) (chs : Chs) (cls : Cls') (S : SMs) (names : List PySem.Str) (c : PySem.Str), vs = [.ref s, .str c] ∧ SeatH CK H s sc a b adr (keysT chs) S ∧
  ScnH K CS CC H sc (fpS a adr (keysT chs)) chs cls ∧ SOk (ScM chs cls) S names ∧ OkC chs cls ∧ c ∈ keysT cls ∧ (∀ x ∈ names, x ∈ keysT cls) ∧ names.length < 400 ∧
  ∀ (t d : Addr) (H' : Hp) (adT : PySem.Str → Addr) (L : CL) (i : Nat) (r : Option PySem.Str), Same H H' → H' t = some (.tup [vL r, .ref d]) → CameH H' d L adT → H d = none → Bf (ScM chs cls) S c (keysT chs) L i →
    (∀ m, r = some m → m ∈ L.map (·.1) ∧ (S.on m).length < (ScM chs cls).cap m) → (r = none → i = L.length) → WayR (ScM chs cls) S c L i r → Q (.ref t) H'
section
variable {P : Program} {w : World} {K : PySem.W.Frag} {mg : PySem.Str → Option Value} {base : Heap}
theorem scWay : FnScope ["self", "name", "came", "queue", "at", "mast", "call", "other"] ["self", "name"] (defScope sWay) := ⟨rfl, rfl, rfl, by decide +kernel, rfl, by decide +kernel, by decide +kernel⟩
theorem ok_way {f CK CS CC : Addr} {fd : FuncData} (F : Fun K "way_for" "Seats.way_for" sWay f fd) (T : TxK K mg CK CS CC) (c_Seats_has_room : CalM P w K mg base CK 1 "has_room" ["self", "mast"] (spRoom K CK CS CC)) : FnOk P w K mg base CX0 2 f fd ["self", "name"] (spWay K CK CS CC) := by
  refine F.ok scWay (fun vs H Q E h => ?_) (fun cdv A outer s H vs Q E hr h => ?_)
  · obtain ⟨s, sc, a, b, adr, chs, cls, S, names, c, rfl, _⟩ := h
    rfl
  · obtain ⟨s, sc, a, b, adr, chs, cls, S, names, c, rfl, hS, hC, O, ok, hc, hnm, hlen, q_⟩ := h
    have hu := hu_of hr
    refine ⟨_, (pss_cons (ps_setDc (i := 2) (own := [("mast", 5)]) (g := gName 5) (tt := tYes) rfl scWay.nd rfl rfl (sw_dict rfl rfl rfl (by decide +kernel)) (pi_tup (pe_fld (pe_dget hu (pe_fld (pe_fld (pv 0) rfl) rfl) (pv 1) (fun _ _ => rfl)) rfl)) (blkOk_by (own := [("mast", 5)]) (N := ["self", "name", "came", "queue", "at", "mast", "call", "other"]) (sc := defScope sWay) (by decide +kernel)) (fun _ _ _ _ _ => pg_name (i := 5) scWay.nd rfl (Or.inl rfl)) (fun _ _ _ _ _ => pts_nil) (fun _ _ _ _ _ => (pv 5)) (fun _ _ _ _ _ => (pe_tup (pa_cons (pv 1) (pa_cons pe_non pa_nil)))))
      (pss_cons (ps_set (i := 3) scWay.nd rfl (Or.inl rfl) (pe_callTy (call_listD rfl) (by rfl) T.list boot_list (pa_cons (pv 2) pa_nil)))
      (pss_cons (ps_set (i := 4) scWay.nd rfl (Or.inl rfl) pe_int)
      (pss_cons (ps_while PassesOwn.never (pt_cmpR op_lt (pv 4) (pe_callB call_len_seq (by rfl) T.len PySem.boot_len (pa_cons (pv 3) pa_nil)) (nomark _))
        (pss_cons (ps_set (i := 5) scWay.nd rfl (Or.inl rfl) (pe_ix ix_list (pv 3) (pv 4) (fun _ _ => rfl)))
        (pss_cons (ps_if (pt_val (pe_calM (pv 0) T.cl c_Seats_has_room (hr.mono (by decide)) (pa_cons (pv 5) pa_nil)))
          (pss_one (ps_ret (pe_tup (pa_cons (pv 5) (pa_cons (pv 2) pa_nil)))))
          pss_nil)
        (pss_cons (ps_for PassesOwn.never rfl (pi_list (pe_dget hu (pe_fld (pv 0) rfl) (pv 5) (fun _ _ => rfl))) (pg_name (i := 6) scWay.nd rfl (Or.inl rfl))
          (pss_one (ps_for PassesOwn.never rfl (pi_tup (pe_fld (pe_dget hu (pe_fld (pe_fld (pv 0) rfl) rfl) (pv 6) (fun _ _ => rfl)) rfl)) (pg_name (i := 7) scWay.nd rfl (Or.inl rfl))
            (pss_one (ps_if (pt_cmp (pc_dnotin hu (pv 7) (pv 2)))
              (pss_cons (ps_dput hu (pv 2) (pv 7) (pe_tup (pa_cons (pv 6) (pa_cons (pv 5) pa_nil))) rfl)
              (pss_one (ps_expr (pe_bm PySem.F.plainAttrs_list PySem.F.slot_list_append PySem.F.type_list_append mt_append (pv 3) (pa_cons (pv 7) pa_nil)))))
              pss_nil)))))
        (pss_one (ps_aug (i := 4) scWay.nd rfl (Or.inl rfl) pe_int ip_add))))))
      (pss_one (ps_ret (pe_tup (pa_cons pe_non (pa_cons (pv 2) pa_nil))))))))), ?_⟩
    obtain ⟨dx, h1⟩ := hS.here
    obtain ⟨dx2, x, y, c1, c2, c3, nsc, nx, ny⟩ := hC.sc
    obtain ⟨cd, hcd⟩ := getT_key hc
    obtain ⟨o1, o2, o3, o4, o5, o6⟩ := ok.cl _ (getT_in hcd)
    obtain ⟨dx3, hh, e1, e2, ne1, ne2⟩ := hC.calls _ (getT_in hcd)
    have hX : (ScM chs cls).heard c = cd.2.2 := by show ((getT cls c).map (·.2.2)).getD [] = _; rw [hcd]; rfl
    -- came = {mast: (name, None) ..}
    refine ⟨_, rfl, s, CK, dx, _, _, rfl, h1, T.cl, T.n1, rfl, sc, CS, dx2, _, _, rfl, c1, T.clS, T.nCa, rfl, _, rfl, y, _, rfl, dgetT (f := vO) c3 hcd, cd.1, CC, dx3, _, _, rfl, e1, T.clC, T.nH, rfl, hh, rfl, ⟨_, SqT.of e2⟩, fun d hd => dc_it walk_tup (n := (cd.2.2.map V.str).length) (G := fun H' => SqT K H' hh (cd.2.2.map V.str)) (Y := YAt (cd.2.2.map V.str))
      (fun i H' => ∃ adT, Same H H' ∧ CameH H' d ((cd.2.2.take i).map fun m => (m, c, none)) adT) ⟨fun _ => d, fun b o z => by rw [upd_ne (ne_of_none z hd)]; exact z, upd_same, fun x hx => (nomatch hx)⟩ (fun i H' _ ⟨adT, s1, _⟩ => SqT.of (s1 _ _ e2)) ?_ ?_⟩
    · rintro i v _ H1 hi ⟨adT, s1, cm⟩ ⟨rfl, hv⟩
      rw [List.getElem?_map] at hv
      cases hm : cd.2.2[i]? with
      | none => rw [hm] at hv; cases hv
      | some m =>
        rw [hm] at hv
        cases Option.some.inj hv
        have nm : m ∉ ((cd.2.2.take i).map fun m => (m, c, (none : Option PySem.Str))).map (·.1) := by
          rw [List.map_map, show (cd.2.2.take i).map ((fun x => x.1) ∘ fun m => (m, c, (none : Option PySem.Str))) = cd.2.2.take i from List.map_id _]
          exact nd_take o4 hm
        refine ⟨rfl, _, rfl, _, rfl, (by show 2 ≤ sizeLine; decide), fun p hp => ⟨_, Sum.inr m, rfl, by rw [upd_ne (ne_of_none cm.d hp)]; exact cm.d, ?_, ?_⟩⟩
        · rw [List.map_map]; exact len_mk o5
        · obtain ⟨p1, p2⟩ := cm.push (y := c) (l := none) nm hp
          have et : ((cd.2.2.take (i + 1)).map fun m => (m, c, (none : Option PySem.Str))) = ((cd.2.2.take i).map fun m => (m, c, (none : Option PySem.Str))) ++ [(m, c, none)] := by rw [List.take_add_one, hm, List.map_append]; rfl
          rw [p1, et]
          refine ⟨_, fun b o z => ?_, p2⟩
          have bd : b ≠ d := fun e => by rw [e, hd] at z; cases z
          rw [upd_ne bd, upd_ne (ne_of_none (s1 _ _ z) hp)]
          exact s1 _ _ z
    · rintro H1 ⟨adT, s1, cm⟩
      rw [List.length_map, List.take_length] at cm
      have ek : ∀ L : CL, ∀ adT : PySem.Str → Addr, (kvT vA (L.map fun x => (x.1, adT x.1))).map (fun kv => kV kv.1) = (L.map (·.1)).map V.str := fun L adT => by
        unfold kvT; rw [List.map_map, List.map_map, List.map_map]; rfl
      have bf0 : Bf (ScM chs cls) S c (keysT chs) (cd.2.2.map fun m => (m, c, (none : Option PySem.Str))) 0 := by
        have em : (cd.2.2.map fun m => (m, c, (none : Option PySem.Str))).map (·.1) = cd.2.2 := by rw [List.map_map]; exact List.map_id _
        refine ⟨ch_init o4 fun m hm => by rw [hX]; exact hm, fun m hm => ?_, fun m hm => ?_, fun j hj => absurd hj (Nat.not_lt_zero _)⟩
        · rw [em, ← hX]; exact hm
        · rw [em] at hm; exact o6 m hm
      refine ⟨_, rfl, d, _, rfl, .inl cm.d, fun q hq => ?_⟩
      rw [ek]
      have hq0 : H q = none := Classical.byContradiction fun z => by
        cases e : H q with
        | none => exact z e
        | some o => rw [s1 _ _ e] at hq; cases hq
      have dq : d ≠ q := ne_of_none cm.d hq
      have Q0 : QsH H (upd H1 q (.lst (((cd.2.2.map fun m => (m, c, (none : Option PySem.Str))).map (·.1)).map V.str))) d q (cd.2.2.map fun m => (m, c, none)) adT := by
        refine ⟨fun b o z => by rw [upd_ne (ne_of_none (s1 _ _ z) hq)]; exact s1 _ _ z, ⟨by rw [upd_ne dq]; exact cm.d, fun x hx => by rw [upd_ne (ne_of_none (cm.at' x hx) hq)]; exact cm.at' x hx⟩, upd_same, hd, hq0⟩
      generalize upd H1 q (.lst (((cd.2.2.map fun m => (m, c, (none : Option PySem.Str))).map (·.1)).map V.str)) = H2 at Q0 ⊢
      have eL0 : (cd.2.2.map fun m => (m, c, (none : Option PySem.Str))) = sq (ScM chs cls) S c 0 := by rw [sq, hX]
      generalize (cd.2.2.map fun m => (m, c, (none : Option PySem.Str))) = L0 at bf0 Q0 eL0
      clear cm s1 hq hq0 dq
      -- the search
      refine ⟨WyW chs cls S c H s d q, ⟨(keysT chs).length + 1, L0, adT, 0, none, none, none, rfl, Q0, bf0, Nat.zero_le _, rfl, eL0⟩, ?_⟩
      rintro k σ H3 ⟨L, adT', i, v5, v6, v7, rfl, Q3, B, hi, hk, eL⟩
      refine ⟨_, rfl, _, rfl, q, _, rfl, .inl (SqL.of Q3.qq), _, _, rfl, rfl, _, rfl, ?_⟩
      refine ite2 (fun h => ?_) (fun h => ?_)
      · have hiL : i < L.length := by
          have h' := of_decide_eq_true h
          rw [List.length_map, List.length_map] at h'
          exact Int.ofNat_lt.mp h'
        refine ⟨fun σ' H' => ∃ m', m' < k ∧ WyW chs cls S c H s d q m' σ' H', fun _ _ z => z, ?_⟩
        obtain ⟨m, hm⟩ : ∃ m, (L.map (·.1))[i]? = some m := ⟨_, List.getElem?_eq_getElem (by rw [List.length_map]; exact hiL)⟩
        have hmL : m ∈ L.map (·.1) := List.mem_of_getElem? hm
        have hms : m ∈ keysT chs := B.sub m hmL
        obtain ⟨n, hn⟩ := getT_key hms
        have hS3 := hS.same Q3.same
        have hC3 := hC.keep (Kp.same Q3.same)
        have n0 : 0 ≤ n := (ok.ch _ (getT_in hn)).2.1
        have hcap : (ScM chs cls).cap m = n.toNat := by show ((getT chs m).getD 0).toNat = _; rw [hn]; rfl
        refine ⟨_, rfl, _, rfl, q, _, _, .str m, rfl, rfl, SqL.of Q3.qq, at_of rfl (by rw [List.getElem?_map, hm]; rfl), ?_⟩
        refine ⟨_, rfl, s, dx, _, rfl, Q3.same _ _ h1, rfl, _, rfl, s, sc, a, b, adr, chs, S, m, n, rfl, hS3, ⟨dx2, x, y, Q3.same _ _ c1, rd_same c2 Q3.same⟩, hn, _, rfl, ?_⟩
        refine ite2 (fun h => ?_) (fun h => ?_)
        · have h' := of_decide_eq_true h
          refine ⟨_, rfl, _, rfl, (by show 2 ≤ sizeLine; decide), fun t ht => ?_⟩
          exact q_ t d _ adT' L i (some m) (same_new Q3.same ht) upd_same (Q3.came.new ht) Q3.d0 B (fun m' e => by (cases Option.some.inj e; exact ⟨hmL, by rw [hcap]; omega⟩)) (fun e => (nomatch e)) ⟨eL, fun j hj m' hm' => (B.done j hj m' hm').1, hi, fun m' e => by (cases Option.some.inj e; exact ⟨hm, by rw [hcap]; omega⟩), fun e => (nomatch e)⟩
        · have hfull : ¬ (S.on m).length < (ScM chs cls).cap m := fun z => h (decide_eq_true (by rw [hcap] at z; omega))
          have nA : ∀ y ∈ S.on m, ∃ cy, getT cls y = some cy := fun y hy => getT_key (hnm y ((O.dom y).mp ⟨m, (O.mem y m).mpr hy⟩))
          refine ⟨_, rfl, s, CK, dx, _, _, rfl, Q3.same _ _ h1, T.cl, T.n3, rfl, _, rfl, b, _, rfl, hS3.get hms, adr m, rfl, ⟨_, SqL.of (hS3.on m hms)⟩, for_list (K := K) (xs := (S.on m).map V.str) (fun u => In2 chs cls S c m H s d q i u none [] 0) ⟨L, adT', v6, v7, rfl, fun z e => (nomatch e), Q3, B, hm, fun z hz => (nomatch hz), fun z hz => (nomatch hz), eL⟩
            (fun u σ H' _ ⟨L1, a1, w6, w7, _, _, Q1, _⟩ => SqL.of ((hS.same Q1.same).on m hms)) ?_ ?_⟩
          · rintro u x σ H4 hx ⟨L1, a1, w6, w7, rfl, _, Q4, B4, hm4, hd4, _, eq4⟩
            rw [List.getElem?_map] at hx
            cases hy : (S.on m)[u]? with
            | none => rw [hy] at hx; cases hx
            | some y =>
              rw [hy] at hx
              cases Option.some.inj hx
              obtain ⟨cy, hcy⟩ := nA y (List.mem_of_getElem? hy)
              obtain ⟨y1, y2, y3, y4, y5, y6⟩ := ok.cl _ (getT_in hcy)
              have hXy : (ScM chs cls).heard y = cy.2.2 := by show ((getT cls y).map (·.2.2)).getD [] = _; rw [hcy]; rfl
              have hC4 := hC.keep (Kp.same Q4.same)
              obtain ⟨dx4, x4, z4, g1, g2, g3, _⟩ := hC4.sc
              obtain ⟨dx5, hh5, f1', f2', _⟩ := hC.calls _ (getT_in hcy)
              have f1 := Q4.same _ _ f1'
              have f2 := Q4.same _ _ f2'
              refine ⟨_, rfl, s, CK, dx, _, _, rfl, Q4.same _ _ h1, T.cl, T.n1, rfl, sc, CS, dx4, _, _, rfl, g1, T.clS, T.nCa, rfl, _, rfl, z4, _, rfl, dgetT (f := vO) g3 hcy, cy.1, CC, dx5, _, _, rfl, f1, T.clC, T.nH, rfl, hh5, rfl, ⟨_, SqT.of f2⟩, for_tup (K := K) (xs := cy.2.2.map V.str) (fun v => In2 chs cls S c m H s d q i u (some y) cy.2.2 v) ⟨L1, a1, _, _, rfl, fun z e => by (cases Option.some.inj e; rfl), Q4, B4, hm4, hd4, fun z hz => (nomatch hz), eq4⟩
                (fun v σ H' _ ⟨L2, a2, t6, t7, _, _, Q5, _⟩ => SqT.of (Q5.same _ _ f2')) ?_ ?_⟩
              · rintro v x σ H5 hx ⟨L2, a2, t6, t7, rfl, h6, Q5, B5, hm5, hd5, hv5, eq5⟩
                rw [List.getElem?_map] at hx
                cases ho : cy.2.2[v]? with
                | none => rw [ho] at hx; cases hx
                | some o =>
                  rw [ho] at hx
                  cases Option.some.inj hx
                  cases h6 y rfl
                  have ets : cy.2.2.take (v + 1) = cy.2.2.take v ++ [o] := by rw [List.take_add_one, ho]; rfl
                  refine ⟨_, rfl, _, rfl, d, _, rfl, dgetN (f := vA) (.inl Q5.came.d), _, rfl, ?_⟩
                  refine ite2 (fun h => ?_) (fun h => ?_)
                  · have hno : o ∉ L2.map (·.1) := by
                      intro z
                      obtain ⟨w', hw'⟩ := getT_key (l := L2.map fun x => (x.1, a2 x.1)) (k := o) (by unfold keysT; rw [List.map_map]; exact z)
                      rw [hw'] at h
                      exact absurd (show false = true from h) (by decide)
                    have hil : i < L2.length := by
                      have := (List.getElem?_eq_some_iff.mp hm5).1
                      rwa [List.length_map] at this
                    have hoy : o ∈ (ScM chs cls).heard y := by rw [hXy]; exact List.mem_of_getElem? ho
                    have hoc : o ∈ keysT chs := y6 o (List.mem_of_getElem? ho)
                    have hch : Ch (ScM chs cls) S c (L2 ++ [(o, y, some m)]) := .snoc B5.ch hoy (.inr ⟨m, rfl, List.mem_of_getElem? hm5, List.mem_of_getElem? hy⟩) hno
                    have Bn := B5.grow hch hoc (Nat.le_of_lt hil)
                    have mono : ∀ x ∈ L2.map (·.1), x ∈ (L2 ++ [(o, y, some m)]).map (·.1) := fun x hx => by rw [List.map_append]; exact List.mem_append_left _ hx
                    have small : L2.length < 64 := Nat.lt_of_le_of_lt B5.len (by unfold keysT; rw [List.length_map]; exact ok.len)
                    refine ⟨_, rfl, _, rfl, (by show 2 ≤ sizeLine; decide), fun p hp => ?_⟩
                    have Qn := Q5.push (y := y) (l := some m) hno hp
                    have pk := (Q5.came.push (y := y) (l := some m) hno hp).1
                    refine ⟨_, rfl, _, rfl, d, _, rfl, DPut.k (k := Sum.inr o) (by rw [upd_ne (ne_of_none Q5.came.d hp)]; exact Q5.came.d) (by unfold kvT; rw [List.length_map, List.length_map]; exact Nat.lt_trans small (by decide)), ?_⟩
                    rw [pk]
                    have hqq : (upd (upd H5 p (.tup [.str y, .str m])) d (.dK (kvT vA ((L2 ++ [(o, y, some m)]).map fun x => (x.1, adP a2 o p x.1))))) q = some (.lst ((L2.map (·.1)).map V.str)) := by
                      have dq : q ≠ d := fun e => by have := Q5.qq; rw [e, Q5.came.d] at this; cases this
                      rw [upd_ne dq, upd_ne (ne_of_none Q5.qq hp)]; exact Q5.qq
                    refine ⟨_, rfl, .inl ⟨rfl, _, SqL.of hqq⟩, _, rfl, q, _, _, rfl, rfl, hqq, by rw [List.length_map, List.length_map]; exact Nat.lt_trans small (by decide), ?_⟩
                    refine ⟨_, _, _, _, rfl, fun z e => by (cases Option.some.inj e; rfl), Qn, Bn, ?_, fun z hz o' ho' => mono o' (hd5 z hz o' ho'), fun z hz => ?_, ?_⟩
                    · rw [List.map_append, List.getElem?_append_left (by rw [List.length_map]; exact hil)]; exact hm5
                    · rw [ets] at hz
                      rcases List.mem_append.mp hz with hz | hz
                      · exact mono z (hv5 z hz)
                      · cases List.mem_singleton.mp hz
                        rw [List.map_append]; exact List.mem_append_right _ (by simp)
                    · rw [ets, List.foldl_append, ← eq5]
                      show _ = stO y m L2 o
                      unfold stO
                      rw [if_neg hno]
                  · have hyes : o ∈ L2.map (·.1) := by
                      refine Classical.byContradiction fun hno => h ?_
                      rw [getT_none.mpr (by unfold keysT; rw [List.map_map]; exact hno)]
                      rfl
                    refine ⟨L2, a2, _, _, rfl, fun z e => by (cases Option.some.inj e; rfl), Q5, B5, hm5, hd5, fun z hz => ?_, ?_⟩
                    · rw [ets] at hz
                      rcases List.mem_append.mp hz with hz | hz
                      · exact hv5 z hz
                      · cases List.mem_singleton.mp hz
                        exact hyes
                    · rw [ets, List.foldl_append, ← eq5]
                      show _ = stO y m L2 o
                      unfold stO
                      rw [if_pos hyes]
              · rintro σ H5 ⟨L2, a2, t6, t7, rfl, h6, Q5, B5, hm5, hd5, hv5, eq5⟩
                rw [List.length_map, List.take_length] at hv5 eq5
                refine ⟨L2, a2, t6, t7, rfl, fun z e => (nomatch e), Q5, B5, hm5, ?_, fun z hz => (nomatch hz), ?_⟩
                rotate_left 1
                · rw [List.take_add_one, hy]
                  show _ = ((S.on m).take u ++ [y]).foldl _ _
                  rw [List.foldl_append, eq5]
                  show _ = stY (ScM chs cls) m _ y
                  unfold stY
                  rw [hXy]; rfl
                intro z hz
                rw [List.take_add_one, hy] at hz
                rcases List.mem_append.mp hz with hz | hz
                · exact hd5 z hz
                · cases List.mem_singleton.mp hz
                  rw [hXy]; exact hv5
          · rintro σ H4 ⟨L1, a1, w6, w7, rfl, _, Q4, B4, hm4, hd4, _, eq4⟩
            rw [List.length_map, List.take_length] at eq4
            refine ⟨_, rfl, _, _, rfl, rfl, ?_⟩
            have hbl := B.len
            refine ⟨k - 1, by omega, L1, a1, i + 1, _, _, _, rfl, Q4, ⟨B4.ch, B4.hd, B4.sub, fun j hj m' hm' => ?_⟩, ?_, by omega, ?_⟩
            rotate_left 2
            · have ex : ∃ x, (sq (ScM chs cls) S c i)[i]? = some x ∧ x.1 = m := by
                rw [eL, List.getElem?_map] at hm
                cases e : (sq (ScM chs cls) S c i)[i]? with
                | none => rw [e] at hm; cases hm
                | some x => rw [e] at hm; exact ⟨x, rfl, Option.some.inj hm⟩
              obtain ⟨x, ex1, ex2⟩ := ex
              rw [sq, ex1]
              show L1 = stM (ScM chs cls) S (sq (ScM chs cls) S c i) x.1
              rw [ex2]
              exact eq4
            · by_cases e : j = i
              · subst e
                rw [hm4] at hm'
                cases Option.some.inj hm'
                refine ⟨hfull, fun y hy o ho => hd4 y ?_ o ho⟩
                rw [List.length_map, List.take_length]; exact hy
              · exact B4.done j (by omega) m' hm'
            · have := (List.getElem?_eq_some_iff.mp hm4).1
              rw [List.length_map] at this
              exact this
      · refine ⟨_, rfl, (by show 2 ≤ sizeLine; decide), fun t ht => ?_⟩
        have hi2 : i = L.length := by
          have h' : ¬ ((i : Nat) : Int) < (((L.map (·.1)).map V.str).length : Nat) := fun z => h (decide_eq_true z)
          rw [List.length_map, List.length_map] at h'
          omega
        exact q_ t d _ adT' L i none (same_new Q3.same ht) upd_same (Q3.came.new ht) Q3.d0 B (fun m e => (nomatch e)) (fun _ => hi2) ⟨eL, fun j hj m' hm' => (B.done j hj m' hm').1, hi, fun m e => (nomatch e), fun _ => hi2⟩
end
end Mc
namespace Mc
open PySem L2 PySem.Spec PyProof.Rows
def spAdd (K : PySem.W.Frag) (CK CS CC : Addr) : Sp := fun vs H Q _ => ∃ (s sc a b : Addr) (adr : PySem.Str → Addr) (chs : Chs) (cls : Cls') (S : SMs) (names : List PySem.Str) (c : PySem.Str), vs = [.ref s, .str c] ∧ SeatH CK H s sc a b adr (keysT chs) S ∧
  ScnH K CS CC H sc (fpS a adr (keysT chs)) chs cls ∧ SOk (ScM chs cls) S names ∧ OkC chs cls ∧ c ∈ keysT cls ∧ (∀ x ∈ names, x ∈ keysT cls) ∧ names.length < 399 ∧ names.Nodup ∧ c ∉ names ∧
  (Seatable (ScM chs cls) (names ++ [c]) → ∀ H' S', SeatH CK H' s sc a b adr (keysT chs) S' → SOk (ScM chs cls) S' (names ++ [c]) → AddR (ScM chs cls) S c S' → Kp (fpS a adr (keysT chs)) H H' → Q (.bl true) H') ∧
  (¬ Seatable (ScM chs cls) (names ++ [c]) → ∀ H', Same H H' → Q (.bl false) H')
section
variable {P : Program} {w : World} {K : PySem.W.Frag} {mg : PySem.Str → Option Value} {base : Heap}
theorem scAdd : FnScope ["self", "name", "mast", "came"] ["self", "name"] (defScope sAdd) := ⟨rfl, rfl, rfl, by decide +kernel, rfl, by decide +kernel, by decide +kernel⟩
theorem ok_add {f CK CS CC : Addr} {fd : FuncData} (F : Fun K "add" "Seats.add" sAdd f fd) (T : TxK K mg CK CS CC) (c_Seats_way_for : CalM P w K mg base CK 2 "way_for" ["self", "name"] (spWay K CK CS CC)) (c_Seats_lead : CalM P w K mg base CK 3 "lead" ["self", "mast", "came"] (spLead CK)) :
    FnOk P w K mg base CX0 4 f fd ["self", "name"] (spAdd K CK CS CC) := by
  refine F.ok scAdd (fun vs H Q E h => ?_) (fun cdv A outer s H vs Q E hr h => ?_)
  · obtain ⟨s, sc, a, b, adr, chs, cls, S, names, c, rfl, _⟩ := h
    rfl
  · obtain ⟨s, sc, a, b, adr, chs, cls, S, names, c, rfl, hS, hC, O, ok, hc, hnm, hlen, nd, hcn, qy, qn⟩ := h
    refine ⟨_, (pss_cons (ps_asg (pe_calM (pv 0) T.cl c_Seats_way_for (hr.mono (by decide)) (pa_cons (pv 1) pa_nil)) (pg_tup rfl (pgs_cons (pg_name (i := 2) scAdd.nd rfl (Or.inl rfl)) (pgs_cons (pg_name (i := 3) scAdd.nd rfl (Or.inl rfl)) pgs_nil))))
      (pss_cons (ps_if (pt_cmpR op_isN (pv 2) pe_non (nomark _))
        (pss_one (ps_ret pe_bl))
        pss_nil)
      (pss_cons (ps_expr (pe_calM (pv 0) T.cl c_Seats_lead (hr.mono (by decide)) (pa_cons (pv 2) (pa_cons (pv 3) pa_nil))))
      (pss_one (ps_ret pe_bl))))), ?_⟩
    obtain ⟨dx, h1⟩ := hS.here
    have ndc : (names ++ [c]).Nodup := List.nodup_append.mpr ⟨nd, by simp, fun x hx y hy e => hcn (by simp at hy; rw [← hy, ← e]; exact hx)⟩
    refine ⟨_, rfl, s, dx, _, rfl, h1, rfl, _, rfl, s, sc, a, b, adr, chs, cls, S, names, c, rfl, hS, hC, O, ok, hc, hnm, Nat.lt_succ_of_lt hlen, fun t d H1 adT L i r s1 ht cm hd B hy hn hW => ?_⟩
    refine ⟨t, [vL r, .ref d], rfl, SqT.of ht, rfl, _, _, rfl, _, _, rfl, rfl, ?_⟩
    cases r with
    | none =>
      refine ⟨_, rfl, rfl, _, rfl, ?_⟩
      refine qn (no_seat O hcn B.ch.nodup B.hd ?_ ?_ fun x => by simp) _ s1
      · intro m hm
        obtain ⟨j, hj⟩ := List.mem_iff_getElem?.mp hm
        exact (B.done j (by rw [hn rfl]; have := (List.getElem?_eq_some_iff.mp hj).1; rwa [List.length_map] at this) m hj).1
      · intro m hm
        obtain ⟨j, hj⟩ := List.mem_iff_getElem?.mp hm
        exact (B.done j (by rw [hn rfl]; have := (List.getElem?_eq_some_iff.mp hj).1; rwa [List.length_map] at this) m hj).2
    | some m =>
      obtain ⟨hm, hroom⟩ := hy m rfl
      refine ⟨_, rfl, rfl, _, rfl, ?_⟩
      have hda : d ≠ a := fun e => by obtain ⟨st, st1, _⟩ := hS.seating; rw [e, st1] at hd; cases hd
      have hms : ∀ c m, m ∈ (ScM chs cls).heard c → m ∈ keysT chs := fun c m hm => by
        have hm : m ∈ ((getT cls c).map (·.2.2)).getD [] := hm
        cases e : getT cls c with
        | none => rw [e] at hm; cases hm
        | some cd =>
          rw [e] at hm
          exact (ok.cl _ (getT_in e)).2.2.2.2.2 m hm
      have LD : Lead (ScM chs cls) S c L S names m (L.length + 1) := ⟨O, hcn, B.ch, hroom, hm, fun L1 y l L2 e => ⟨by rw [e]; simp; omega, fun _ _ => rfl⟩⟩
      refine ⟨_, rfl, s, dx, _, rfl, s1 _ _ h1, rfl, _, rfl, _, rfl, s, sc, a, b, d, adr, adT, keysT chs, ScM chs cls, S, names, c, m, L, L.length + 1, rfl, hS.same s1, Nat.lt_succ_of_lt hlen, hms, cm, hda, LD, fun H2 S2 hS2 O2 hR2 k2 => ?_⟩
      exact qy (O2.seatable ndc) H2 S2 hS2 O2 ⟨L, i, m, hW, hR2⟩ ((Kp.same s1).trans k2)
end
end Mc
namespace Mc
open PySem L2 PySem.Spec PyProof.Rows
abbrev S0 : SMs := ⟨fun _ => none, fun _ => []⟩
/-- a new list for each of some masts -/
structure NewL (H0 H : Hp) (D : Addr) (ms : List PySem.Str) (adr : PySem.Str → Addr) : Prop where
  same : Same H0 H
  d : H D = some (.dK (kvT vA (ms.map fun m => (m, adr m))))
  d0 : H0 D = none
  on : ∀ m ∈ ms, H (adr m) = some (.lst []) ∧ H0 (adr m) = none
  inj : ∀ m ∈ ms, ∀ n ∈ ms, adr m = adr n → m = n
theorem NewL.push {H0 H : Hp} {D p : Addr} {ms : List PySem.Str} {adr : PySem.Str → Addr} (h : NewL H0 H D ms adr) {m : PySem.Str} (hm : m ∉ ms) (hp : H p = none) :
    putK (kvT vA (ms.map fun m => (m, adr m))) (Sum.inr m : L2.Key) (.ref p) = kvT vA ((ms ++ [m]).map fun z => (z, adP adr m p z)) ∧
    NewL H0 (upd (upd H p (.lst [])) D (.dK (kvT vA ((ms ++ [m]).map fun z => (z, adP adr m p z))))) D (ms ++ [m]) (adP adr m p) := by
  have Dp : D ≠ p := ne_of_none h.d hp
  have ne : ∀ x ∈ ms, x ≠ m := fun x hx e => hm (by rw [← e]; exact hx)
  have eL : (ms.map fun x => (x, adP adr m p x)) = ms.map fun x => (x, adr x) := List.map_congr_left fun x hx => by
    show (x, if x = m then p else adr x) = _
    rw [if_neg (ne x hx)]
  have p0 : H0 p = none := Classical.byContradiction fun z => by
    cases e : H0 p with
    | none => exact z e
    | some o => rw [h.same _ _ e] at hp; cases hp
  have em : adP adr m p m = p := if_pos rfl
  have ex : ∀ x ∈ ms, adP adr m p x = adr x := fun x hx => if_neg (ne x hx)
  have xp : ∀ x ∈ ms, adr x ≠ p := fun x hx => ne_of_none (h.on x hx).1 hp
  refine ⟨?_, fun b o z => ?_, upd_same, h.d0, fun x hx => ?_, fun x hx y hy e => ?_⟩
  · have e1 := put_new (f := vA) (l := ms.map fun x => (x, adr x)) (k := m) (v := p) (fun z => hm (by rw [keysT_mk] at z; exact z))
    rw [e1, List.map_append, eL]
    show _ = kvT vA (_ ++ [(m, adP adr m p m)])
    rw [em]
  · have bD : b ≠ D := fun e => by rw [e, h.d0] at z; cases z
    rw [upd_ne bD, upd_ne (ne_of_none (h.same _ _ z) hp)]; exact h.same _ _ z
  · rcases List.mem_append.mp hx with hx | hx
    · obtain ⟨h1, h2⟩ := h.on x hx
      have xD : adr x ≠ D := fun e => by rw [e, h.d] at h1; cases h1
      rw [ex x hx, upd_ne xD, upd_ne (xp x hx)]; exact ⟨h1, h2⟩
    · cases List.mem_singleton.mp hx
      rw [em, upd_ne Dp.symm, upd_same]; exact ⟨rfl, p0⟩
  · rcases List.mem_append.mp hx with hx | hx
    · rcases List.mem_append.mp hy with hy | hy
      · rw [ex x hx, ex y hy] at e; exact h.inj x hx y hy e
      · cases List.mem_singleton.mp hy
        rw [ex x hx, em] at e; exact absurd e (xp x hx)
    · cases List.mem_singleton.mp hx
      rcases List.mem_append.mp hy with hy | hy
      · rw [em, ex y hy] at e; exact absurd e.symm (xp y hy)
      · cases List.mem_singleton.mp hy; rfl
def spKInit (K : PySem.W.Frag) (CK CS CC : Addr) : Sp := fun vs H Q _ => ∃ (p dx sc : Addr) (chs : Chs) (cls : Cls'), vs = [.ref p, .ref sc] ∧ H p = some (.ins CK dx []) ∧ SceneH K CS CC H sc chs cls ∧ OkC chs cls ∧
  ∀ (a b : Addr) (adr : PySem.Str → Addr) (H' : Hp), SeatH CK H' p sc a b adr (keysT chs) S0 → ScnH K CS CC H' sc (fpS a adr (keysT chs)) chs cls → H a = none → (∀ m ∈ keysT chs, H (adr m) = none) → Kp [p] H H' → Q .non H'
section
variable {P : Program} {w : World} {K : PySem.W.Frag} {mg : PySem.Str → Option Value} {base : Heap}
theorem scKI : FnScope ["self", "scene", "mast"] ["self", "scene"] (defScope sKInit) := ⟨rfl, rfl, rfl, by decide +kernel, rfl, by decide +kernel, by decide +kernel⟩
theorem ok_kinit {f CK CS CC : Addr} {fd : FuncData} (F : Fun K "__init__" "Seats.__init__" sKInit f fd) (T : TxK K mg CK CS CC) : FnOk P w K mg base CX0 1 f fd ["self", "scene"] (spKInit K CK CS CC) := by
  refine F.ok scKI (fun vs H Q E h => ?_) (fun cdv A outer s H vs Q E hr h => ?_)
  · obtain ⟨p, dx, sc, chs, cls, rfl, _⟩ := h
    rfl
  · obtain ⟨p, dx, sc, chs, cls, rfl, hp, ⟨⟨dx2, x, y, c1, c2, c3⟩, hC⟩, ok, q⟩ := h
    rcases c2 with c2 | ⟨o2, c2⟩
    · refine ⟨_, (pss_cons (ps_fld (pv 0) (pv 1) rfl)
        (pss_cons (ps_fld (pv 0) pe_dnewK rfl)
        (pss_one (ps_fld (pv 0) (pe_lock (pe_dc (own := [("mast", 2)]) (g := gName 2) (tt := tYes) rfl scKI.nd (pi_keys (pe_fld (pv 1) rfl)) (blkOk_by (own := [("mast", 2)]) (N := ["self", "scene", "mast"]) (sc := defScope sKInit) (by decide +kernel)) (fun _ _ _ _ _ => pg_name (i := 2) scKI.nd rfl (Or.inl rfl)) (fun _ _ _ _ _ => pts_nil) (fun _ _ _ _ _ => (pv 2)) (fun _ _ _ _ _ => (pe_lst pa_nil)))) rfl)))), ?_⟩
      refine ⟨_, rfl, _, rfl, p, CK, dx, [], rfl, hp, T.cl, T.n1, (by show 0 < 1000; decide), ?_⟩
      rw [show putF "scene" (V.ref sc) [] = ([("scene", V.ref sc)] : List (PySem.Str × V)) from rfl]
      intro a ha
      have pa : p ≠ a := ne_of_none upd_same ha
      have ha0 : H a = none := by rw [upd_ne pa.symm] at ha; exact ha
      refine ⟨_, rfl, p, CK, dx, _, rfl, (by rw [upd_ne pa]; exact upd_same), T.cl, T.n2, (by show 1 < 1000; decide), ?_⟩
      rw [show putF "seating" (V.ref a) [("scene", V.ref sc)] = ([("scene", V.ref sc), ("seating", V.ref a)] : List (PySem.Str × V)) from rfl]
      have hp2 : (upd (upd (upd H p (.ins CK dx [("scene", .ref sc)])) a (.dK [])) p (.ins CK dx [("scene", .ref sc), ("seating", .ref a)])) p = some (.ins CK dx [("scene", .ref sc), ("seating", .ref a)]) := upd_same
      have ha2 : (upd (upd (upd H p (.ins CK dx [("scene", .ref sc)])) a (.dK [])) p (.ins CK dx [("scene", .ref sc), ("seating", .ref a)])) a = some (.dK []) := by rw [upd_ne pa.symm]; exact upd_same
      have far : ∀ b, b ≠ p → ∀ o, H b = some o → (upd (upd (upd H p (.ins CK dx [("scene", .ref sc)])) a (.dK [])) p (.ins CK dx [("scene", .ref sc), ("seating", .ref a)])) b = some o := fun b n o z => by
        rw [upd_ne n, upd_ne (ne_of_none z ha0), upd_ne n]; exact z
      generalize (upd (upd (upd H p (.ins CK dx [("scene", .ref sc)])) a (.dK [])) p (.ins CK dx [("scene", .ref sc), ("seating", .ref a)])) = H2 at hp2 ha2 far ⊢
      have np : ∀ {b : Addr} {o : HO}, H b = some o → (∀ C d fs, o = .ins C d fs → fs ≠ []) → b ≠ p := fun {b o} z h e => by
        rw [e, hp] at z; exact h _ _ _ (Option.some.inj z).symm rfl
      have c1' := far sc (np c1 fun C d fs e => by cases e; simp) _ c1
      have c2' := far x (np c2 fun C d fs e => by cases e) _ c2
      have npy : y ≠ p := c3.elim (fun z => np z fun C d fs e => by cases e) fun ⟨o, z⟩ => np z fun C d fs e => by cases e
      have c3' : Rd _ y _ := c3.elim (fun z => .inl (far y npy _ z)) fun ⟨o, z⟩ => .inr ⟨o, far y npy _ z⟩
      refine ⟨x, _, c2', trivial, fun od => ⟨_, rfl, sc, CS, dx2, _, _, rfl, (by
        have : sc ≠ x := fun e => by rw [e, c2] at c1; cases c1
        rw [upd_ne this]; exact c1'), T.clS, T.nCh, rfl, x, od, rfl, .inl ⟨_, upd_same, fun D hD => dc_it walk_keys (fun i H' => ∃ adr, NewL (upd H2 x (.frz od (.dK (kvT vI chs)))) H' D ((keysT chs).take i) adr) ?_ ?_ ?_ ?_⟩⟩⟩
      · exact ⟨fun _ => D, ⟨fun b o z => by rw [upd_ne (ne_of_none z hD)]; exact z, upd_same, hD, fun m hm => (nomatch hm), fun m hm => (nomatch hm)⟩⟩
      · rintro i H' _ ⟨adr, N⟩
        exact N.same _ _ upd_same
      · rintro i v _ H3 hi ⟨adr, N⟩ ⟨rfl, kk, v', hk, rfl⟩
        obtain ⟨z, hz, rfl, rfl⟩ := kvT_get hk
        have hz' : (keysT chs)[i]? = some z.1 := by unfold keysT; rw [List.getElem?_map, hz]; rfl
        refine ⟨rfl, _, rfl, Nat.zero_le _, fun p' hp' => ⟨_, Sum.inr z.1, rfl, by rw [upd_ne (ne_of_none N.d hp')]; exact N.d, len_mk (by unfold keysT; rw [List.length_map]; exact ok.len), ?_⟩⟩
        obtain ⟨p1, p2⟩ := N.push (nd_take ok.nd hz') hp'
        have et : (keysT chs).take (i + 1) = (keysT chs).take i ++ [z.1] := by rw [List.take_add_one, hz']; rfl
        rw [p1, et]
        exact ⟨_, p2⟩
      · rintro H3 ⟨adr, N⟩
        rw [show (kvT vI chs).length = (keysT chs).length by unfold kvT keysT; rw [List.length_map, List.length_map], List.take_length] at N
        refine ⟨N.same _ _ upd_same, ?_⟩
        have L0x : (upd H2 x (.frz od (.dK (kvT vI chs)))) x = some (.frz od (.dK (kvT vI chs))) := upd_same
        have Dx : D ≠ x := fun e => by have := N.d0; rw [e, L0x] at this; cases this
        have ax : ∀ m ∈ keysT chs, adr m ≠ x := fun m hm e => by have := (N.on m hm).2; rw [e, L0x] at this; cases this
        have s4 : Same H2 (upd H3 x (.dK (kvT vI chs))) := un_same N.same c2'
        have d4 : (upd H3 x (.dK (kvT vI chs))) D = some (.dK (kvT vA ((keysT chs).map fun m => (m, adr m)))) := by rw [upd_ne Dx]; exact N.d
        have o4 : ∀ m ∈ keysT chs, (upd H3 x (.dK (kvT vI chs))) (adr m) = some (.lst []) := fun m hm => by rw [upd_ne (ax m hm)]; exact (N.on m hm).1
        generalize upd H3 x (.dK (kvT vI chs)) = H4 at s4 d4 o4 ⊢
        have p4 := s4 _ _ hp2
        refine ⟨_, rfl, p, CK, dx, _, rfl, p4, T.cl, T.n3, (by show 2 < 1000; decide), ?_⟩
        rw [show putF "seated" (V.ref D) [("scene", V.ref sc), ("seating", V.ref a)] = ([("scene", V.ref sc), ("seating", V.ref a), ("seated", V.ref D)] : List (PySem.Str × V)) from rfl]
        have H2none : ∀ u, H2 u = none → H u = none := fun u hu => Classical.byContradiction fun z => by
          cases e : H u with
          | none => exact z e
          | some o =>
            by_cases up : u = p
            · rw [up, hp2] at hu; cases hu
            · rw [far u up o e] at hu; cases hu
        have D2 : H2 D = none := by have := N.d0; rw [upd_ne Dx] at this; exact this
        have a2 : ∀ m ∈ keysT chs, H2 (adr m) = none := fun m hm => by have := (N.on m hm).2; rw [upd_ne (ax m hm)] at this; exact this
        have far5 : ∀ u, u ≠ p → ∀ o, H4 u = some o → (upd H4 p (.ins CK dx [("scene", .ref sc), ("seating", .ref a), ("seated", .ref D)])) u = some o := fun u n o z => by rw [upd_ne n]; exact z
        have farH : ∀ u, u ≠ p → ∀ o, H u = some o → (upd H4 p (.ins CK dx [("scene", .ref sc), ("seating", .ref a), ("seated", .ref D)])) u = some o := fun u n o z => far5 u n o (s4 _ _ (far u n o z))
        have Dp : D ≠ p := fun e => by rw [e, p4] at d4; cases d4
        have Da : D ≠ a := fun e => by rw [e, ha2] at D2; cases D2
        have ap : ∀ m ∈ keysT chs, adr m ≠ p := fun m hm e => by have := o4 m hm; rw [e, p4] at this; cases this
        have nF : ∀ u o, H u = some o → u ∉ fpS a adr (keysT chs) := fun u o z hu => by
          rcases List.mem_cons.mp hu with e | e
          · rw [e, ha0] at z; cases z
          · obtain ⟨m, hm, e⟩ := List.mem_map.mp e
            rw [← e, H2none _ (a2 m hm)] at z; cases z
        refine q a D adr _ ⟨⟨dx, upd_same⟩, ⟨[], far5 a (fun e => pa e.symm) _ (s4 _ _ ha2), List.Pairwise.nil, by decide, fun c => rfl⟩, far5 D Dp _ d4, fun m hm => far5 _ (ap m hm) _ (o4 m hm), N.inj, fun c m e => (nomatch e), ok.nd, Da⟩ ⟨⟨dx2, x, y, farH _ (np c1 fun C d fs e => by cases e; simp) _ c1, .inl (farH _ (np c2 fun C d fs e => by cases e) _ c2), c3.elim (fun z => .inl (farH _ npy _ z)) fun ⟨o, z⟩ => .inr ⟨o, farH _ npy _ z⟩, nF _ _ c1, nF _ _ c2, c3.elim (fun z => nF _ _ z) fun ⟨o, z⟩ => nF _ _ z⟩, fun z hz => ?_⟩ ha0 (fun m hm => H2none _ (a2 m hm)) fun u o z n => farH u (fun e => n (List.mem_singleton.mpr e)) o z
        obtain ⟨dx', h', g1, g2⟩ := (hC z hz).here
        exact ⟨dx', h', farH _ (np g1 fun C d fs e => by cases e; simp) _ g1, farH _ (np g2 fun C d fs e => by cases e) _ g2, nF _ _ g1, nF _ _ g2⟩
    · refine ⟨_, (pss_cons (ps_fld (pv 0) (pv 1) rfl)
        (pss_cons (ps_fld (pv 0) pe_dnewK rfl)
        (pss_one (ps_fld (pv 0) ((pe_dc (own := [("mast", 2)]) (g := gName 2) (tt := tYes) rfl scKI.nd (pi_keys (pe_fld (pv 1) rfl)) (blkOk_by (own := [("mast", 2)]) (N := ["self", "scene", "mast"]) (sc := defScope sKInit) (by decide +kernel)) (fun _ _ _ _ _ => pg_name (i := 2) scKI.nd rfl (Or.inl rfl)) (fun _ _ _ _ _ => pts_nil) (fun _ _ _ _ _ => (pv 2)) (fun _ _ _ _ _ => (pe_lst pa_nil)))) rfl)))), ?_⟩
      refine ⟨_, rfl, _, rfl, p, CK, dx, [], rfl, hp, T.cl, T.n1, (by show 0 < 1000; decide), ?_⟩
      rw [show putF "scene" (V.ref sc) [] = ([("scene", V.ref sc)] : List (PySem.Str × V)) from rfl]
      intro a ha
      have pa : p ≠ a := ne_of_none upd_same ha
      have ha0 : H a = none := by rw [upd_ne pa.symm] at ha; exact ha
      refine ⟨_, rfl, p, CK, dx, _, rfl, (by rw [upd_ne pa]; exact upd_same), T.cl, T.n2, (by show 1 < 1000; decide), ?_⟩
      rw [show putF "seating" (V.ref a) [("scene", V.ref sc)] = ([("scene", V.ref sc), ("seating", V.ref a)] : List (PySem.Str × V)) from rfl]
      have hp2 : (upd (upd (upd H p (.ins CK dx [("scene", .ref sc)])) a (.dK [])) p (.ins CK dx [("scene", .ref sc), ("seating", .ref a)])) p = some (.ins CK dx [("scene", .ref sc), ("seating", .ref a)]) := upd_same
      have ha2 : (upd (upd (upd H p (.ins CK dx [("scene", .ref sc)])) a (.dK [])) p (.ins CK dx [("scene", .ref sc), ("seating", .ref a)])) a = some (.dK []) := by rw [upd_ne pa.symm]; exact upd_same
      have far : ∀ b, b ≠ p → ∀ o, H b = some o → (upd (upd (upd H p (.ins CK dx [("scene", .ref sc)])) a (.dK [])) p (.ins CK dx [("scene", .ref sc), ("seating", .ref a)])) b = some o := fun b n o z => by
        rw [upd_ne n, upd_ne (ne_of_none z ha0), upd_ne n]; exact z
      generalize (upd (upd (upd H p (.ins CK dx [("scene", .ref sc)])) a (.dK [])) p (.ins CK dx [("scene", .ref sc), ("seating", .ref a)])) = H2 at hp2 ha2 far ⊢
      have np : ∀ {b : Addr} {o : HO}, H b = some o → (∀ C d fs, o = .ins C d fs → fs ≠ []) → b ≠ p := fun {b o} z h e => by
        rw [e, hp] at z; exact h _ _ _ (Option.some.inj z).symm rfl
      have c1' := far sc (np c1 fun C d fs e => by cases e; simp) _ c1
      have c2' := far x (np c2 fun C d fs e => by cases e) _ c2
      have npy : y ≠ p := c3.elim (fun z => np z fun C d fs e => by cases e) fun ⟨o, z⟩ => np z fun C d fs e => by cases e
      have c3' : Rd _ y _ := c3.elim (fun z => .inl (far y npy _ z)) fun ⟨o, z⟩ => .inr ⟨o, far y npy _ z⟩
      refine ⟨_, rfl, sc, CS, dx2, _, _, rfl, c1', T.clS, T.nCh, rfl, x, o2, rfl, .inl ⟨_, c2', fun D hD => dc_it walk_keys (fun i H' => ∃ adr, NewL H2 H' D ((keysT chs).take i) adr) ?_ ?_ ?_ ?_⟩⟩
      · exact ⟨fun _ => D, ⟨fun b o z => by rw [upd_ne (ne_of_none z hD)]; exact z, upd_same, hD, fun m hm => (nomatch hm), fun m hm => (nomatch hm)⟩⟩
      · rintro i H' _ ⟨adr, N⟩
        exact N.same _ _ c2'
      · rintro i v _ H3 hi ⟨adr, N⟩ ⟨rfl, kk, v', hk, rfl⟩
        obtain ⟨z, hz, rfl, rfl⟩ := kvT_get hk
        have hz' : (keysT chs)[i]? = some z.1 := by unfold keysT; rw [List.getElem?_map, hz]; rfl
        refine ⟨rfl, _, rfl, Nat.zero_le _, fun p' hp' => ⟨_, Sum.inr z.1, rfl, by rw [upd_ne (ne_of_none N.d hp')]; exact N.d, len_mk (by unfold keysT; rw [List.length_map]; exact ok.len), ?_⟩⟩
        obtain ⟨p1, p2⟩ := N.push (nd_take ok.nd hz') hp'
        have et : (keysT chs).take (i + 1) = (keysT chs).take i ++ [z.1] := by rw [List.take_add_one, hz']; rfl
        rw [p1, et]
        exact ⟨_, p2⟩
      · rintro H3 ⟨adr, N⟩
        rw [show (kvT vI chs).length = (keysT chs).length by unfold kvT keysT; rw [List.length_map, List.length_map], List.take_length] at N
        have s4 : Same H2 H3 := N.same
        have d4 := N.d
        have o4 : ∀ m ∈ keysT chs, H3 (adr m) = some (.lst []) := fun m hm => (N.on m hm).1
        have p4 := s4 _ _ hp2
        refine ⟨_, rfl, p, CK, dx, _, rfl, p4, T.cl, T.n3, (by show 2 < 1000; decide), ?_⟩
        rw [show putF "seated" (V.ref D) [("scene", V.ref sc), ("seating", V.ref a)] = ([("scene", V.ref sc), ("seating", V.ref a), ("seated", V.ref D)] : List (PySem.Str × V)) from rfl]
        have H2none : ∀ u, H2 u = none → H u = none := fun u hu => Classical.byContradiction fun z => by
          cases e : H u with
          | none => exact z e
          | some o =>
            by_cases up : u = p
            · rw [up, hp2] at hu; cases hu
            · rw [far u up o e] at hu; cases hu
        have D2 : H2 D = none := N.d0
        have a2 : ∀ m ∈ keysT chs, H2 (adr m) = none := fun m hm => (N.on m hm).2
        have far5 : ∀ u, u ≠ p → ∀ o, H3 u = some o → (upd H3 p (.ins CK dx [("scene", .ref sc), ("seating", .ref a), ("seated", .ref D)])) u = some o := fun u n o z => by rw [upd_ne n]; exact z
        have farH : ∀ u, u ≠ p → ∀ o, H u = some o → (upd H3 p (.ins CK dx [("scene", .ref sc), ("seating", .ref a), ("seated", .ref D)])) u = some o := fun u n o z => far5 u n o (s4 _ _ (far u n o z))
        have Dp : D ≠ p := fun e => by rw [e, p4] at d4; cases d4
        have Da : D ≠ a := fun e => by rw [e, ha2] at D2; cases D2
        have ap : ∀ m ∈ keysT chs, adr m ≠ p := fun m hm e => by have := o4 m hm; rw [e, p4] at this; cases this
        have nF : ∀ u o, H u = some o → u ∉ fpS a adr (keysT chs) := fun u o z hu => by
          rcases List.mem_cons.mp hu with e | e
          · rw [e, ha0] at z; cases z
          · obtain ⟨m, hm, e⟩ := List.mem_map.mp e
            rw [← e, H2none _ (a2 m hm)] at z; cases z
        refine q a D adr _ ⟨⟨dx, upd_same⟩, ⟨[], far5 a (fun e => pa e.symm) _ (s4 _ _ ha2), List.Pairwise.nil, by decide, fun c => rfl⟩, far5 D Dp _ d4, fun m hm => far5 _ (ap m hm) _ (o4 m hm), N.inj, fun c m e => (nomatch e), ok.nd, Da⟩ ⟨⟨dx2, x, y, farH _ (np c1 fun C d fs e => by cases e; simp) _ c1, .inr ⟨o2, farH _ (np c2 fun C d fs e => by cases e) _ c2⟩, c3.elim (fun z => .inl (farH _ npy _ z)) fun ⟨o, z⟩ => .inr ⟨o, farH _ npy _ z⟩, nF _ _ c1, nF _ _ c2, c3.elim (fun z => nF _ _ z) fun ⟨o, z⟩ => nF _ _ z⟩, fun z hz => ?_⟩ ha0 (fun m hm => H2none _ (a2 m hm)) fun u o z n => farH u (fun e => n (List.mem_singleton.mpr e)) o z
        obtain ⟨dx', h', g1, g2⟩ := (hC z hz).here
        exact ⟨dx', h', farH _ (np g1 fun C d fs e => by cases e; simp) _ g1, farH _ (np g2 fun C d fs e => by cases e) _ g2, nF _ _ g1, nF _ _ g2⟩
end
end Mc
namespace Mc
open PySem L2 PySem.Spec PyProof.Rows
theorem seatable_sub {α : Type} [DecidableEq α] {X : Sc α} {a b : List α} (nd : a.Nodup) (h : ∀ x ∈ a, x ∈ b) : Seatable X b → Seatable X a := fun ⟨T, t1, t2⟩ =>
  ⟨T, fun c hc => t1 c (h c hc), fun m => Nat.le_trans (len_sub (nd.filter _) fun x hx => List.mem_filter.mpr ⟨h x (List.mem_filter.mp hx).1, (List.mem_filter.mp hx).2⟩) (t2 m)⟩
theorem sok0 (X : Sc PySem.Str) : SOk X S0 [] := ⟨fun c m => ⟨fun e => (nomatch e), fun e => (nomatch e)⟩, fun _ => List.nodup_nil, fun _ => Nat.zero_le _, fun c m h => (nomatch h), fun c => ⟨fun ⟨m, e⟩ => (nomatch e), fun e => (nomatch e)⟩⟩
theorem kp_same {F : List Addr} {H H1 H' : Hp} (s : Same H H1) (k : Kp F H1 H') (h : ∀ u ∈ F, H u = none) : Same H H' := fun u o z => k u o (s u o z) fun hu => by rw [h u hu] at z; cases z
end Mc
namespace Mc
open PySem L2 PySem.Spec PyProof.Rows
/-! a list comprehension with two fors, by two walks -/
theorem yes_ite {σ : L2.St} {H : Hp} {A B : Hp → Prop} (h : A H) : tYes σ H (fun b H3 => if b = true then A H3 else B H3) := by
  show (if true = true then A H else B H)
  rw [if_pos rfl]
  exact h
theorem pi_listK {X : Cx} {K : PySem.W.Frag} {tg l : Expr} {tl : TE} (h : X.K = K) (hl : PE X l tl) : PI X tg l (iList K tl) := by
  subst h
  exact pi_list hl
section
variable {J J1 : It} {n n1 : Nat} {G G1 : Hp → Prop} {Y Y1 : Nat → Hp → V → Hp → Prop} {g g1 : TG} {tt tt1 : TT} {te : TE} {wi1 : TI} {vs vs1 : List Nat} {σ σ2 : L2.St} {H1 H4 : Hp} {D : Addr} {Qd Nx : Hp → Prop}
theorem lc2_out (w : Walk J n G Y) (Pv : Nat → Hp → Prop) (h0 : Pv 0 (upd H1 D (.lst []))) (hG : ∀ i H, i ≤ n → Pv i H → G H)
    (hs : ∀ i x H H', i < n → Pv i H → Y i H x H' → g x (wipe σ vs) H' fun σ2 H2 => wipe σ2 vs = wipe σ vs ∧ tt σ2 H2 fun b H3 => if b = true then wi1 σ2 H3 fun J1 H4 => ∃ W1 : Nat → Nat → Hp → Prop, (∃ m, W1 0 m H4) ∧ ∀ j k H, W1 j k H →
      (J1.stop j H ∧ Pv (i + 1) H) ∨ (J1.go j H ∧ ∃ Nx1 : Hp → Prop, (∀ H', Nx1 H' → ∃ k', k' < k ∧ W1 (j + 1) k' H') ∧ ∀ x H', J1.yld j H x H' → g1 x (wipe σ2 vs1) H' fun σ3 H5 => wipe σ3 vs1 = wipe σ2 vs1 ∧ tt1 σ3 H5 fun b H6 =>
        if b = true then te σ3 H6 fun y H7 => ∃ acc, H7 D = some (.lst acc) ∧ acc.length < sizeLine ∧ Nx1 (upd H7 D (.lst (acc ++ [y]))) else Nx1 H6) else Pv (i + 1) H3) (hd : ∀ H, Pv n H → Qd H) :
    ∃ W : Nat → Nat → Hp → Prop, (∃ m, W 0 m (upd H1 D (.lst []))) ∧ ∀ i m H, W i m H →
  (J.stop i H ∧ Qd H) ∨ (J.go i H ∧ ∃ Nx : Hp → Prop, (∀ H', Nx H' → ∃ m', m' < m ∧ W (i + 1) m' H') ∧ ∀ x H', J.yld i H x H' → g x (wipe σ vs) H' fun σ2 H2 => wipe σ2 vs = wipe σ vs ∧ tt σ2 H2 fun b H3 =>
    if b = true then wi1 σ2 H3 fun J1 H4 => ∃ W1 : Nat → Nat → Hp → Prop, (∃ m, W1 0 m H4) ∧ ∀ j k H, W1 j k H →
      (J1.stop j H ∧ Nx H) ∨ (J1.go j H ∧ ∃ Nx1 : Hp → Prop, (∀ H', Nx1 H' → ∃ k', k' < k ∧ W1 (j + 1) k' H') ∧ ∀ x H', J1.yld j H x H' → g1 x (wipe σ2 vs1) H' fun σ3 H5 => wipe σ3 vs1 = wipe σ2 vs1 ∧ tt1 σ3 H5 fun b H6 =>
        if b = true then te σ3 H6 fun y H7 => ∃ acc, H7 D = some (.lst acc) ∧ acc.length < sizeLine ∧ Nx1 (upd H7 D (.lst (acc ++ [y]))) else Nx1 H6)
    else Nx H3) := by
  refine ⟨fun i m H => m = n - i ∧ i ≤ n ∧ Pv i H, ⟨n, by simp, Nat.zero_le _, h0⟩, ?_⟩
  rintro i m H ⟨rfl, hi, p⟩
  by_cases hlt : i < n
  · exact .inr ⟨w.goes i H hlt (hG i H hi p), Pv (i + 1), fun H' p' => ⟨n - (i + 1), by omega, rfl, hlt, p'⟩, fun x H' y => hs i x H H' hlt p (w.yields i H x H' hlt (hG i H hi p) y)⟩
  · obtain rfl : i = n := by omega
    exact .inl ⟨w.stops H (hG _ H hi p), hd H p⟩
theorem lc2_in (w : Walk J1 n1 G1 Y1) (Pj : Nat → Hp → Prop) (h0 : Pj 0 H4) (hG : ∀ i H, i ≤ n1 → Pj i H → G1 H)
    (hs : ∀ j x H H', j < n1 → Pj j H → Y1 j H x H' → g1 x (wipe σ2 vs1) H' fun σ3 H5 => wipe σ3 vs1 = wipe σ2 vs1 ∧ tt1 σ3 H5 fun b H6 => if b = true then te σ3 H6 fun y H7 => ∃ acc, H7 D = some (.lst acc) ∧ acc.length < sizeLine ∧ Pj (j + 1) (upd H7 D (.lst (acc ++ [y]))) else Pj (j + 1) H6)
    (hd : ∀ H, Pj n1 H → Nx H) :
    ∃ W1 : Nat → Nat → Hp → Prop, (∃ m, W1 0 m H4) ∧ ∀ j k H, W1 j k H →
      (J1.stop j H ∧ Nx H) ∨ (J1.go j H ∧ ∃ Nx1 : Hp → Prop, (∀ H', Nx1 H' → ∃ k', k' < k ∧ W1 (j + 1) k' H') ∧ ∀ x H', J1.yld j H x H' → g1 x (wipe σ2 vs1) H' fun σ3 H5 => wipe σ3 vs1 = wipe σ2 vs1 ∧ tt1 σ3 H5 fun b H6 =>
        if b = true then te σ3 H6 fun y H7 => ∃ acc, H7 D = some (.lst acc) ∧ acc.length < sizeLine ∧ Nx1 (upd H7 D (.lst (acc ++ [y]))) else Nx1 H6) := by
  refine ⟨fun i m H => m = n1 - i ∧ i ≤ n1 ∧ Pj i H, ⟨n1, by simp, Nat.zero_le _, h0⟩, ?_⟩
  rintro i m H ⟨rfl, hi, p⟩
  by_cases hlt : i < n1
  · exact .inr ⟨w.goes i H hlt (hG i H hi p), Pj (i + 1), fun H' p' => ⟨n1 - (i + 1), by omega, rfl, hlt, p'⟩, fun x H' y => hs i x H H' hlt p (w.yields i H x H' hlt (hG i H hi p) y)⟩
  · obtain rfl : i = n1 := by omega
    exact .inl ⟨w.stops H (hG _ H hi p), hd H p⟩
end
end Mc
namespace Mc
open PySem L2 PySem.Spec PyProof.Rows
/-! ### comprehensions whose turns change nothing that stood -/
theorem itP {c A B : Prop} [Decidable c] (h : c) (a : A) : if c then A else B := by rw [if_pos h]; exact a
theorem itN {c A B : Prop} [Decidable c] (h : ¬ c) (b : B) : if c then A else B := by rw [if_neg h]; exact b
theorem Same.new {p : Addr} {H : Hp} {o : HO} (h : H p = none) : Same H (upd H p o) := fun b u z => by rw [upd_ne (ne_of_none z h)]; exact z
theorem Same.rfl' {H : Hp} : Same H H := fun _ _ z => z
theorem Same.two {p q : Addr} {H : Hp} {o u : HO} (h : H p = none) (k : upd H p o q = none) : Same H (upd (upd H p o) q u) := (Same.new h).trans (Same.new k)
section
variable {α : Type} {c f : α → V} {ys : List α} {J : It} {n : Nat} {G : Hp → Prop} {te : TE} {vs : List Nat} {σ : L2.St} {H1 : Hp} {D : Addr} {Qd : Hp → Prop} {j : Nat}
/-- [e for x in xs], as a map -/
theorem lc_m (w : Walk J n G (YAt (ys.map c))) (f : α → V) (hn : n = ys.length) (hD : H1 D = none) (hG : ∀ H', Same H1 H' → G H') (hz : ys.length ≤ sizeLine)
    (turn : ∀ (i : Nat) (y : α) (H' : Hp) (k : VK), ys[i]? = some y → Same H1 H' → (∀ H4, Same H' H4 → k (f y) H4) → te ((wipe σ vs).set j (some (c y))) H' k)
    (hd : ∀ H', Same H1 H' → H' D = some (.lst (ys.map f)) → Qd H') (hw : ∀ v, wipe ((wipe σ vs).set j (some v)) vs = wipe σ vs := by intro _; rfl) :
    ∃ W : Nat → Nat → Hp → Prop, (∃ m, W 0 m (upd H1 D (.lst []))) ∧ ∀ i m H, W i m H →
      (J.stop i H ∧ Qd H) ∨ (J.go i H ∧ ∃ Nx : Hp → Prop, (∀ H', Nx H' → ∃ m', m' < m ∧ W (i + 1) m' H') ∧ ∀ x H', J.yld i H x H' → gName j x (wipe σ vs) H' fun σ2 H2 => wipe σ2 vs = wipe σ vs ∧ tYes σ2 H2 fun b H3 =>
        if b = true then te σ2 H3 fun y H4 => ∃ acc, H4 D = some (.lst acc) ∧ acc.length < sizeLine ∧ Nx (upd H4 D (.lst (acc ++ [y]))) else Nx H3) := by
  refine lc_it w (fun i H' => Same H1 H' ∧ H' D = some (.lst ((ys.take i).map f))) ⟨Same.new hD, upd_same⟩ (fun i H' _ z => hG H' z.1) ?_ ?_
  · rintro i x H H' hi ⟨s1, d1⟩ ⟨rfl, hx⟩
    rw [List.getElem?_map] at hx
    cases e : ys[i]? with
    | none => rw [e] at hx; cases hx
    | some y =>
      rw [e] at hx
      obtain rfl := Option.some.inj hx
      refine ⟨hw _, yes_ite (turn i y _ _ e s1 fun H4 s4 => ⟨_, s4 _ _ d1, ?_, ?_, ?_⟩)⟩
      · rw [List.length_map, List.length_take]; omega
      · exact fun b o z => by
          have nb : b ≠ D := ne_of_none z hD
          rw [upd_ne nb]
          exact s4 _ _ (s1 _ _ z)
      · rw [upd_same, List.take_add_one, e, List.map_append]
        rfl
  · rintro H ⟨s1, d1⟩
    subst hn
    rw [List.take_length] at d1
    exact hd H s1 d1
/-- [x for x in xs if t] and the like, as a filter and a map -/
theorem lc_f {tt : TT} (w : Walk J n G (YAt (ys.map c))) (p : α → Bool) (f : α → V) (hn : n = ys.length) (hD : H1 D = none) (hG : ∀ H', Same H1 H' → G H') (hz : ys.length ≤ sizeLine)
    (test : ∀ (i : Nat) (y : α) (H' : Hp) (k : Bool → Hp → Prop), ys[i]? = some y → Same H1 H' → (∀ H4, Same H' H4 → k (p y) H4) → tt ((wipe σ vs).set j (some (c y))) H' k)
    (turn : ∀ (i : Nat) (y : α) (H' : Hp) (k : VK), ys[i]? = some y → p y = true → Same H1 H' → (∀ H4, Same H' H4 → k (f y) H4) → te ((wipe σ vs).set j (some (c y))) H' k)
    (hd : ∀ H', Same H1 H' → H' D = some (.lst ((ys.filter p).map f)) → Qd H') (hw : ∀ v, wipe ((wipe σ vs).set j (some v)) vs = wipe σ vs := by intro _; rfl) :
    ∃ W : Nat → Nat → Hp → Prop, (∃ m, W 0 m (upd H1 D (.lst []))) ∧ ∀ i m H, W i m H →
      (J.stop i H ∧ Qd H) ∨ (J.go i H ∧ ∃ Nx : Hp → Prop, (∀ H', Nx H' → ∃ m', m' < m ∧ W (i + 1) m' H') ∧ ∀ x H', J.yld i H x H' → gName j x (wipe σ vs) H' fun σ2 H2 => wipe σ2 vs = wipe σ vs ∧ tt σ2 H2 fun b H3 =>
        if b = true then te σ2 H3 fun y H4 => ∃ acc, H4 D = some (.lst acc) ∧ acc.length < sizeLine ∧ Nx (upd H4 D (.lst (acc ++ [y]))) else Nx H3) := by
  refine lc_it w (fun i H' => Same H1 H' ∧ H' D = some (.lst (((ys.take i).filter p).map f))) ⟨Same.new hD, upd_same⟩ (fun i H' _ z => hG H' z.1) ?_ ?_
  · rintro i x H H' hi ⟨s1, d1⟩ ⟨rfl, hx⟩
    rw [List.getElem?_map] at hx
    cases e : ys[i]? with
    | none => rw [e] at hx; cases hx
    | some y =>
      rw [e] at hx
      obtain rfl := Option.some.inj hx
      have et : (ys.take (i + 1)).filter p = (ys.take i).filter p ++ (if p y = true then [y] else []) := by
        rw [List.take_add_one, e, List.filter_append]
        show _ ++ [y].filter p = _
        rw [List.filter_cons]
        split <;> rfl
      refine ⟨hw _, test i y _ _ e s1 fun H3 s3 => ?_⟩
      by_cases hp : p y = true
      · rw [if_pos hp]
        refine turn i y _ _ e hp (s1.trans s3) fun H4 s4 => ⟨_, s4 _ _ (s3 _ _ d1), ?_, ?_, ?_⟩
        · have h1 := List.length_filter_le p (ys.take i)
          have h2 := List.length_take_le i ys
          rw [List.length_map]
          have h3 : (ys.take i).length < ys.length := by
            have := (List.getElem?_eq_some_iff.mp e).1
            rw [List.length_take]; omega
          omega
        · exact fun b o z => by
            have nb : b ≠ D := ne_of_none z hD
            rw [upd_ne nb]
            exact s4 _ _ (s3 _ _ (s1 _ _ z))
        · rw [upd_same, et, if_pos hp, List.map_append]
          rfl
      · rw [if_neg hp]
        refine ⟨s1.trans s3, ?_⟩
        rw [et, if_neg hp, List.append_nil]
        exact s3 _ _ d1
  · rintro H ⟨s1, d1⟩
    subst hn
    rw [List.take_length] at d1
    exact hd H s1 d1
/-- [e for x in xs], each item a new object -/
theorem lc_n {R : Hp → α → Addr → Prop} (w : Walk J n G (YAt (ys.map c))) (hn : n = ys.length) (hD : H1 D = none) (hG : ∀ H', Same H1 H' → G H') (hz : ys.length ≤ sizeLine)
    (hR : ∀ H H' y a, R H y a → a ≠ D → (∀ b o, b ≠ D → H b = some o → H' b = some o) → R H' y a)
    (turn : ∀ (i : Nat) (y : α) (H' : Hp) (k : VK), ys[i]? = some y → Same H1 H' → (∀ H4 a, Same H' H4 → H' a = none → R H4 y a → k (.ref a) H4) → te ((wipe σ vs).set j (some (c y))) H' k)
    (hd : ∀ (H' : Hp) (as : List Addr), Same H1 H' → H' D = some (.lst (as.map V.ref)) → as.length = ys.length → (∀ (i : Nat) a y, as[i]? = some a → ys[i]? = some y → R H' y a ∧ a ≠ D ∧ H1 a = none) → Qd H') (hw : ∀ v, wipe ((wipe σ vs).set j (some v)) vs = wipe σ vs := by intro _; rfl) :
    ∃ W : Nat → Nat → Hp → Prop, (∃ m, W 0 m (upd H1 D (.lst []))) ∧ ∀ i m H, W i m H →
      (J.stop i H ∧ Qd H) ∨ (J.go i H ∧ ∃ Nx : Hp → Prop, (∀ H', Nx H' → ∃ m', m' < m ∧ W (i + 1) m' H') ∧ ∀ x H', J.yld i H x H' → gName j x (wipe σ vs) H' fun σ2 H2 => wipe σ2 vs = wipe σ vs ∧ tYes σ2 H2 fun b H3 =>
        if b = true then te σ2 H3 fun y H4 => ∃ acc, H4 D = some (.lst acc) ∧ acc.length < sizeLine ∧ Nx (upd H4 D (.lst (acc ++ [y]))) else Nx H3) := by
  refine lc_it w (fun i H' => ∃ as : List Addr, Same H1 H' ∧ H' D = some (.lst (as.map V.ref)) ∧ as.length = (ys.take i).length ∧ ∀ (l : Nat) a y, as[l]? = some a → (ys.take i)[l]? = some y → R H' y a ∧ a ≠ D ∧ H1 a = none) ⟨[], Same.new hD, upd_same, rfl, fun l a y z => (nomatch z)⟩ (fun i H' _ ⟨_, z, _⟩ => hG H' z) ?_ ?_
  · rintro i x H H' hi ⟨as, s1, d1, l1, r1⟩ ⟨rfl, hx⟩
    rw [List.getElem?_map] at hx
    cases e : ys[i]? with
    | none => rw [e] at hx; cases hx
    | some y =>
      rw [e] at hx
      obtain rfl := Option.some.inj hx
      have hil := (List.getElem?_eq_some_iff.mp e).1
      have ti : (ys.take i).length = i := by rw [List.length_take]; omega
      refine ⟨hw _, yes_ite (turn i y _ _ e s1 fun H4 a s4 na ra => ⟨_, s4 _ _ d1, ?_, as ++ [a], ?_, ?_, ?_, ?_⟩)⟩
      · rw [List.length_map, l1, ti]; omega
      · exact fun b o z => by
          have nb : b ≠ D := ne_of_none z hD
          rw [upd_ne nb]
          exact s4 _ _ (s1 _ _ z)
      · rw [upd_same, List.map_append]
        rfl
      · rw [List.length_append, l1, ti, List.length_take]; simp; omega
      · have naD : a ≠ D := fun e => by rw [e, d1] at na; cases na
        have k4 : ∀ b o, b ≠ D → H4 b = some o → upd H4 D (.lst (as.map V.ref ++ [V.ref a])) b = some o := fun b o nb z => by rw [upd_ne nb]; exact z
        intro l b z hb hz
        have et : ys.take (i + 1) = ys.take i ++ [y] := by rw [List.take_add_one, e]; rfl
        rw [et] at hz
        rcases Nat.lt_trichotomy l i with hl | hl | hl
        · rw [List.getElem?_append_left (by omega)] at hb hz
          obtain ⟨q1, q2, q3⟩ := r1 l b z hb hz
          refine ⟨hR _ _ _ _ q1 q2 fun c o nc h => k4 _ _ nc (s4 _ _ h), q2, q3⟩
        · subst hl
          rw [List.getElem?_append_right (by omega), l1, ti, Nat.sub_self] at hb
          rw [List.getElem?_append_right (by omega), ti, Nat.sub_self] at hz
          cases Option.some.inj hb
          cases Option.some.inj hz
          refine ⟨hR _ _ _ _ ra naD k4, naD, ?_⟩
          cases e1 : H1 a with
          | none => rfl
          | some o => rw [s1 _ _ e1] at na; cases na
        · rw [List.getElem?_eq_none (by rw [List.length_append, l1, ti]; simp; omega)] at hb
          cases hb
  · rintro H ⟨as, s1, d1, l1, r1⟩
    subst hn
    rw [List.take_length] at l1 r1
    exact hd H as s1 d1 l1 r1
end
/-- over a dict's keys, by their texts -/
theorem walk_kT {β : Type} {g : β → V} {l : List (PySem.Str × β)} {d : Addr} {o : Obj} : Walk (Itk d o (kvT g l)) (keysT l).length (fun H => H d = some (.frz o (.dK (kvT g l)))) (YAt ((keysT l).map V.str)) := by
  have e : (kvT g l).length = (keysT l).length := by unfold kvT keysT; rw [List.length_map, List.length_map]
  rw [← e]
  refine walk_keys.mono (fun _ h => h) ?_
  rintro i H x H' hi _ ⟨rfl, k, v, hk, rfl⟩
  refine ⟨rfl, ?_⟩
  unfold kvT at hk
  rw [List.getElem?_map] at hk
  unfold keysT
  rw [List.getElem?_map, List.getElem?_map]
  cases e2 : l[i]? with
  | none => rw [e2] at hk; cases hk
  | some z =>
    rw [e2] at hk
    cases Option.some.inj hk
    rfl
theorem walk_rng {lo : Int} {n : Nat} : Walk (Itr lo n) n (fun _ => True) (YAt ((List.range n).map fun i => V.int (lo + (i : Nat)))) := by
  refine walk_range.mono (fun _ h => h) ?_
  rintro i H x H' hi _ ⟨rfl, rfl⟩
  refine ⟨rfl, ?_⟩
  rw [List.getElem?_map, List.getElem?_range hi]
  rfl
theorem map_bl (p : α → Bool) (l : List α) : l.map (fun x => V.bl (p x)) = (l.map p).map V.bl := by rw [List.map_map]; rfl
theorem all_map_id {α : Type} (p : α → Bool) (l : List α) : (l.map p).all id = l.all p := by rw [List.all_map]; rfl
theorem any_map_id {α : Type} (p : α → Bool) (l : List α) : (l.map p).any id = l.any p := by rw [List.any_map]; rfl
end Mc
namespace Mc
open PySem L2 PySem.Spec PyProof.Rows FbM
/-! ### sorted(d, key=o.m), d a dict with text keys, m a method that gives an int and the key -/
/-- a method that is taken as a value -/
def CalB (P : Program) (w : World) (K : PySem.W.Frag) (mg : PySem.Str → Option Value) (base : Heap) (C : Addr) (k : Nat) (m : PySem.Str) (ps : List PySem.Str) (sp : Sp) : Prop :=
  ∃ (f : Addr) (fd : FuncData), BMeth K C m f ∧ Binds K fd ps [] ∧ FnOk P w K mg base CX0 k f fd ps sp
def kdM (kf : PySem.Str → Int) (x : PySem.Str) : PyData := .tuple [.int (kf x), .str x]
/-- what is asked of the method at each key -/
def RankOk (sp : Sp) (o : Addr) (kf : PySem.Str → Int) (ks : List PySem.Str) (H : Hp) : Prop :=
  ∀ x ∈ ks, ∀ H', Same H H' → sp [.ref o, .str x] H' (fun v H2 => ∃ p, v = .ref p ∧ H' p = none ∧ H2 = upd H' p (.tup [.int (kf x), .str x])) E0
/-- the heap with the object at k thrown away: the records behind a call of ours -/
def rid (h : Heap) (k : Addr) : Heap := h.update k fun _ => { cls := .none, data := .freed }
theorem rid_none {h : Heap} {k : Addr} : (rid h k).get? k = none := by
  by_cases hk : k < h.objs.size
  · unfold rid Heap.get?
    rw [Heap.objs_update_self, Array.getElem?_eq_getElem hk]
    rfl
  · refine Heap.get?_none_of_le ?_
    unfold rid
    rw [Heap.size_update]
    exact Nat.le_of_not_lt hk
theorem rid_ne {h : Heap} {k b : Addr} (n : b ≠ k) : (rid h k).get? b = h.get? b := Heap.get?_update_ne _ _ _ _ n
section
variable {X : Cx} {pins : List (Addr × Obj)} {σ : L2.St} {H : Hp} {s : Shared} {k : Nat} {g o q a kS : Addr} {fd : FuncData} {ps : List PySem.Str} {sp : Sp} {kf : PySem.Str → Int} {ks : List PySem.Str} {vs : List Value} {A : Around} {E : Value → Shared → Prop} {e1 : Nat} {P : PySem.Fin → Shared → Prop}
theorem tup_reads {h : Heap} {p : Addr} {H : Hp} {n : Int} {x : PySem.Str} (hok : HOk X.prog X.w H h) (e : H p = some (.tup [.int n, .str x])) : Reads h (.ref p) (.tuple [.int n, .str x]) [] := by
  obtain ⟨_, its, rv, ob, ho, hc, nn, hd⟩ := hok p _ e
  obtain ⟨v1, v2, rfl, r1, r2⟩ := vals2 rv
  obtain ⟨t1, rfl⟩ := r1
  obtain ⟨t2, rfl⟩ := r2
  exact .tuple ho hc hd (.cons (.int _ _) (.cons (.str _ _) .nil))
theorem km_rest (hr : Room k A) (hA : A.frames = some X.stack) (hb : Binds X.K fd ps []) (F : FnOk X.prog X.w X.K X.mg X.base CX0 k g fd ps sp) (I : Inv X pins σ H s) (hq : H q = some (.met g o)) (ra : Rec X pins a) (rk : Rec X pins kS) (na : H a = none) (nk : H kS = none)
    (hka : kS ≠ a) (ek : s.heap.get? kS = some (seqObj "list" #[] 0)) (ea : s.heap.get? a = some (seqObj "list" #[] e1)) (hv : StrsAre vs ks) (h64 : ks.length < 64) (turn : RankOk sp o kf ks H)
    (done : ∀ s' H' out c, Inv X pins σ H' s' → Same H H' → H' a = none → s'.heap.get? a = some (seqObj "list" (List.toArray out) c) → PySem.W.KeyedOut false (ks.map (kdM kf)) vs out → P (.done (.ret .none)) s') :
    wpAny (model X.prog X.w) A (ksk_rest a (.ref q) false vs.toArray e1 (.ref kS)) P E s := by
  have hlen : vs.length = ks.length := hv.len_eq
  have h16 : vs.length ≤ sizeLine := by rw [hlen, sizeLine_eq]; omega
  unfold ksk_rest
  refine wpAny_bind (wpAny_rule ?_)
  rw [List.forIn_toArray]
  refine wpAny_bind (ksk_fold (fun i s' => ∃ H' kA e, Inv X pins σ H' s' ∧ Same H H' ∧ H' a = none ∧ H' kS = none ∧ s'.heap.get? kS = some (seqObj "list" kA e) ∧ s'.heap.get? a = some (seqObj "list" #[] e1) ∧
    PySem.W.EachIs (fun v x => ∃ p, v = Value.ref p ∧ H' p = some (.tup [.int (kf x), .str x])) kA.toList (ks.take i)) vs 0 s ⟨H, #[], 0, I, fun _ _ h => h, na, nk, ek, ea, by rw [List.take_zero]; exact PySem.W.EachIs.nil⟩ ?step ?done)
  case step =>
    rintro j x s' hx ⟨H', kA, e, I', sm, na', nk', ek', ea', hk⟩
    rw [Nat.zero_add] at hk ⊢
    obtain ⟨y, t, rfl, hy⟩ := hv.item j x hx
    have hz : kA.size ≤ ks.length := by
      have h1 := hk.length
      rw [Array.length_toList, List.length_take] at h1
      omega
    have h64' : kA.size < 64 := by omega
    have em := sm q _ hq
    have e0 := I'.env0
    have e1' : Env0 X.prog X.w X.K X.mg X.base A X.stack s' H' := ⟨hA, e0.mod, e0.bs, e0.bsz, e0.funs, e0.frf, e0.hok, e0.bare⟩
    have D := turn y (List.mem_of_getElem? hy) H' sm
    have hl2 : ([Value.ref o, .str y t] ++ []).length = ps.length := F.len _ _ _ _ D
    have bt := hb s' [Value.ref o, .str y t] I'.kIn hl2
    rw [List.append_nil] at bt
    refine wpAny_bind (wpAny_attempt ?_)
    refine wpAny_call (PySem.W.method_call (I'.hok q _ em) (codeAny_mono (F.run A X.stack s' H' ⟨[.ref o, .str y t], []⟩ _ [.ref o, .str y] _ E0 hr e1' bt (.cons rfl (.cons ⟨t, rfl⟩ .nil)) D) fun rr s2 hrr => ?_))
    cases rr with
    | error er => exact False.elim hrr
    | ok fl =>
      cases fl with
      | next => exact False.elim hrr
      | brk => exact False.elim hrr
      | cont => exact False.elim hrr
      | ret v =>
        obtain ⟨v', H2, os, bare, un, hok, rv', p, ev, hp, eH⟩ := (show CE X.stack X.prog X.w H' s' _ v s2 from hrr)
        subst ev
        cases rv'
        have I2 : Inv X pins σ H2 s2 := I'.call' os un hok bare (fun b z => absurd z List.not_mem_nil)
        have sm2 : Same H' H2 := fun b u e => by
          rw [eH, upd_ne (ne_of_none e hp)]
          exact e
        have keep : ∀ {b : Addr} {ob : Obj}, Rec X pins b → H' b = none → s'.heap.get? b = some ob → s2.heap.get? b = some ob := fun rb ub eb => un.keep _ _ eb ub rb.fr List.not_mem_nil
        have fr2 : ∀ {b : Addr} {ob : Obj}, H' b = none → s'.heap.get? b = some ob → H2 b = none := fun ub eb => un.free _ _ eb ub List.not_mem_nil
        have nk2 := keep rk nk' ek'
        have na2 := keep ra na' ea'
        have uk2 := fr2 nk' ek'
        have ua2 := fr2 na' ea'
        try dsimp only
        obtain ⟨h2, g2, d2, t2, o2⟩ := s2
        obtain ⟨c2, hc2⟩ : ∃ c2, (h2.update kS (Obj.mapSeq (·.push (.ref p)))).get? kS = some (seqObj "list" (kA.push (.ref p)) c2) := ⟨_, get?_update_seq nk2 (·.push (.ref p))⟩
        have sb : Heap.SameBut kS h2 (h2.update kS (Obj.mapSeq (·.push (.ref p)))) := Heap.SameBut.update ..
        refine wpAny_bind (listUpdate_at nk2 rfl ?_ (by rw [sizeLine_eq]; omega) (by rw [Array.size_push, sizeLine_eq]; omega))
        refine wpAny_pure ⟨rfl, H2, kA.push (.ref p), c2, rk.turn (t' := t2) I2 uk2 fun c ob hc e => sb.extBut c ob hc e, fun b u e => sm2 b u (sm b u e), ua2, uk2, hc2, sb.extBut _ _ hka.symm na2, ?_⟩
        have ek3 : ks.take (j + 1) = ks.take j ++ [y] := by rw [List.take_add_one, hy]; rfl
        have ea3 : (kA.push (Value.ref p)).toList = kA.toList ++ [.ref p] := by simp
        rw [ek3, ea3]
        refine PySem.W.each_snoc ⟨p, rfl, by rw [eH, upd_same]⟩ (hk.mono fun u d z => ?_)
        obtain ⟨p', ep, z⟩ := z
        exact ⟨p', ep, sm2 _ _ z⟩
  case done =>
    rintro s' ⟨H', kA, e, I', sm, na', nk', ek', ea', hk⟩
    have hk' : PySem.W.EachIs (fun v k => ∃ as, Reads s'.heap v k as) kA.toList (ks.map (kdM kf)) := by
      have e3 : ks.take (0 + vs.length) = ks := List.take_of_length_le (by omega)
      rw [e3] at hk
      refine PySem.W.each_map (kdM kf) (hk.mono fun v x z => ?_)
      obtain ⟨p, rfl, z⟩ := z
      exact ⟨[], tup_reads I'.hok z⟩
    have hsz : kA.size = vs.length := by
      have h1 := hk'.length
      rw [Array.length_toList, List.length_map] at h1
      omega
    refine wpAny_bind (listItems_at ek' rfl ?_)
    have hal : PySem.W.AllAlike (ks.map (kdM kf)) := PySem.W.AllAlike.of fun _ _ => by simp [kdM, PySem.W.alike, PySem.W.alikeAll]
    refine PySem.W.keyH_end (κ := PySem.W.dataKind s'.heap (ks.map (kdM kf))) (h₁ := rid s'.heap kS) (b := false) (fun b ob hb z => ?_) rid_none ek' ea' hka (PySem.W.SortsAt.data hk' hal (PySem.W.Sortable.tuples fun _ => ⟨_, _, rfl⟩) ?_) hsz h16 fun h' tk c kp hD => ?_
    · by_cases hbk : b = kS
      · subst hbk
        rw [rid_none] at z
        cases z
      · exact (rid_ne hbk).symm.trans z
    · intro d hd
      obtain ⟨x, _, rfl⟩ := List.mem_map.mp hd
      have h2 : (kdM kf x).depth = 1 := by simp [kdM, PyData.depth, PyData.depthAll]
      have := hr.units
      omega
    · have keep : ∀ b ob, b ≠ a → b ≠ kS → s'.heap.get? b = some ob → h'.get? b = some ob := fun b ob ha hk z => kp b ob ha ((rid_ne hk).trans z)
      have nb : ∀ {b u}, H' b = some u → b ≠ a ∧ b ≠ kS := fun {b u} z => ⟨fun e => (by rw [e, na'] at z; cases z), fun e => (by rw [e, nk'] at z; cases z)⟩
      refine done _ H' (PySem.W.sortVals (PySem.W.dataKind s'.heap (ks.map (kdM kf))) false kA.toList vs) c ?_ sm na' hD ⟨s'.heap, kA.toList, hal, rfl, hk'⟩
      obtain ⟨h1, g1, d1, t1, o1⟩ := s'
      refine I'.call' (ch := [a, kS]) rfl ⟨fun b ob z n _ hx => ?_, fun b ob z n _ hx => ⟨ob.slots, ?_⟩, fun b ob z n hx => n, fun b ob z hx => ⟨ob, ?_⟩, fun b xs z => z, fun b ob u z => z, fun b pz z => ⟨#[], by rw [z]; simp⟩⟩ (fun b u z => ?_) I'.bare fun b hb => ?_
      · exact keep b ob (fun e => hx (by simp [e])) (fun e => hx (by simp [e])) z
      · exact keep b ob (fun e => hx (by simp [e])) (fun e => hx (by simp [e])) z
      · exact keep b ob (fun e => hx (by simp [e])) (fun e => hx (by simp [e])) z
      · refine (I'.hok b u z).stay (fun cc v hc q => ?_) (fun _ q => q) fun _ _ q => q
        rcases hc with e | e
        · rw [e] at q ⊢
          exact keep b v (nb z).1 (nb z).2 q
        · exact keep cc v (nb e).1 (nb e).2 q
      · rcases List.mem_cons.mp hb with e | e
        · subst e
          exact ⟨.inr ra.ge, ra.nl, ra.ce, ra.pn⟩
        · obtain rfl := List.mem_singleton.mp e
          exact ⟨.inr rk.ge, rk.nl, rk.ce, rk.pn⟩
/-- what lies raw is named -/
theorem adopt {ob : HO} (I : Inv X pins σ H s) (ra : Rec X pins a) (na : H a = none) (new : ObjOk X.prog X.w (upd H a ob) s.heap a ob) : Inv X pins σ (upd H a ob) s := by
  have ne : ∀ {b u}, H b = some u → b ≠ a := fun {b u} z e => by rw [e, na] at z; cases z
  refine I.call' (ch := [a]) rfl ⟨fun b u z _ _ _ => z, fun b u z _ _ _ => ⟨u.slots, z⟩, fun b u z n hx => ?_, fun b u z _ => ⟨u, z⟩, fun b xs z => ?_, fun b u v z => ?_, fun b pz z => ⟨#[], ?_⟩⟩ (fun b u z => ?_) I.bare fun b hb => ?_
  · rw [upd_ne fun e => hx (by simp [e])]
    exact n
  · rw [upd_ne (ne z)]
    exact z
  · rw [upd_ne (ne z)]
    exact z
  · rw [upd_ne (ne z), z]
    simp
  · by_cases e : b = a
    · subst e
      rw [upd_same] at z
      cases z
      exact new
    · rw [upd_ne e] at z
      exact (I.hok b u z).stay (fun _ _ _ q => q) (fun c q => by rw [upd_ne (ne q)]; exact q) fun c xs q => by rw [upd_ne (ne q)]; exact q
  · obtain rfl := List.mem_singleton.mp hb
    exact ⟨.inr ra.ge, ra.nl, ra.ce, ra.pn⟩
theorem each_vals : ∀ {vs : List Value} {ys : List PySem.Str}, PySem.W.EachIs (fun v x => ∃ t, v = Value.str x t) vs ys → Vals (ys.map V.str) vs
  | _, _, .nil => .nil
  | _, _, .cons ⟨t, e⟩ r => .cons ⟨t, e⟩ (each_vals r)
theorem each_strs : ∀ {vs : List Value} {ys : List PySem.Str}, StrsAre vs ys → PySem.W.EachIs (fun v x => ∃ t, v = Value.str x t) vs ys
  | _, _, .nil => .nil
  | _, _, .cons y t r => .cons ⟨t, rfl⟩ (each_strs r)
/-- the order of the keys: the less number first, of one number by name -/
def rkLe (kf : PySem.Str → Int) (x y : PySem.Str) : Prop := kf x < kf y ∨ (kf x = kf y ∧ ¬ ltN y x)
theorem kdM_le {x y : PySem.Str} : PySem.W.dataLe false (kdM kf) x y = true ↔ rkLe kf x y := by
  show (!PySem.W.dataLt (kdM kf y) (kdM kf x)) = true ↔ _
  unfold kdM
  rw [PySem.W.dataLt_pair (by simp [PySem.W.alike]) (by simp [PySem.W.alike]), PySem.W.dataLt_int, PySem.W.dataLt_str]
  unfold rkLe ltN
  simp only [PyData.eqv, beq_iff_eq]
  by_cases h1 : kf y = kf x
  · rw [if_pos h1]
    by_cases h2 : y = x
    · subst h2
      simp
    · simp [h2, h1]
  · rw [if_neg h1]
    have : ¬ kf x = kf y := fun z => h1 z.symm
    simp only [Bool.not_eq_true', decide_eq_false_iff_not, this, false_and, or_false]
    omega
theorem kdM_sorted (ks : List PySem.Str) : (ks.mergeSort (PySem.W.dataLe false (kdM kf))).Pairwise (rkLe kf) := by
  refine List.Pairwise.imp (fun {a b} z => kdM_le.mp z) (List.pairwise_mergeSort (fun a b c h1 h2 => ?_) (fun a b => ?_) ks)
  · rw [kdM_le] at *
    unfold rkLe ltN at *
    rcases h1 with h1 | ⟨h1, h1'⟩ <;> rcases h2 with h2 | ⟨h2, h2'⟩
    · exact .inl (by omega)
    · exact .inl (by omega)
    · exact .inl (by omega)
    · exact .inr ⟨by omega, List.not_lt.mpr (List.le_trans (List.not_lt.mp h1') (List.not_lt.mp h2'))⟩
  · rw [Bool.or_eq_true, kdM_le, kdM_le]
    unfold rkLe ltN
    by_cases e : kf a = kf b
    · rcases List.le_total a.cps.toList b.cps.toList with h | h
      · exact .inl (.inr ⟨e, List.not_lt.mpr h⟩)
      · exact .inr (.inr ⟨e.symm, List.not_lt.mpr h⟩)
    · omega
theorem sortedKM (hcalm : X.calm = true) (hr : Room k X.A.in1.in1) (hb : Binds X.K fd ps []) (F : FnOk X.prog X.w X.K X.mg X.base CX0 k g fd ps sp) {d : Addr} {kvs : List (Key × V)} {Q : VK} (I : Inv X pins σ H s) (hd : Rd H d (.dK kvs)) (hks : kvs.map (·.1) = ks.map Sum.inr) (h64 : ks.length < 64)
    (hq : H q = some (.met g o)) (turn : RankOk sp o kf ks H) (fin : ∀ (ys : List PySem.Str) p H', Same H H' → ys.Perm ks → ys.Pairwise (rkLe kf) → H' p = none → Q (.ref p) (upd H' p (.lst (ys.map V.str)))) :
    wpAny (model X.prog X.w) X.A (call (.builtin "sorted") [.ref d] [(PySem.Str.ofString "key", .ref q)]) (EP X pins σ Q) X.xe s := by
  obtain ⟨z, lo, vs, rel, dd⟩ := dk_rd I.hok hd
  obtain ⟨ep, hat⟩ := dd.dictAt
  have hkeys : vs.map (·.1) = ks.map Sum.inr := rel.keys.symm.trans hks
  have hl : vs.length = ks.length := by
    have e := congrArg List.length hkeys
    rw [List.length_map, List.length_map] at e
    exact e
  have h16 : vs.length ≤ sizeLine := by rw [hl, sizeLine_eq]; omega
  refine call_function_entry_kw kind_sorted plain_sorted entry_sorted (ksk_s1 _ _) ?_
  unfold Builtin.«sorted»
  refine wpAny_bind (m := checkCount "sorted" 1 1 _) (wpAny_pure ?_)
  refine wpAny_bind (PySem.W.kdu_collect (A := X.A.in1) (PySem.W.kdl_dict (knd := mixKind X.prog X.w) (kvs := vs) (ep := ep) lo) (I.ok.hd hcalm) hat h16 fun h1 tk acc hk hacc => ?_)
  have hal : acc.toList.length = ks.length := by rw [Array.length_toList, hacc.1, hl]
  have hS : StrsAre acc.toList ks := strs_at hal fun j v e => by
    obtain ⟨kx, x, w1, w2⟩ := hacc.2 j v (by rw [← Array.getElem?_toList]; exact e)
    have w3 : (vs.map (·.1))[j]? = some kx := by rw [List.getElem?_map, w1]; all_goals rfl
    rw [hkeys, List.getElem?_map] at w3
    cases w4 : ks[j]? with
    | none => rw [w4] at w3; cases w3
    | some y =>
      rw [w4] at w3
      obtain rfl : Sum.inr y = kx := Option.some.inj w3
      obtain ⟨t, ev⟩ := Value.isStrOf_shape (x := y) (v := v) w2
      exact ⟨y, t, rfl, ev⟩
  have I1 : Inv X pins σ H { s with heap := h1, toks := tk } := I.kept hk
  refine wpAny_bind (wpAny_newList ?_ (by rw [hal, sizeLine_eq]; omega))
  have hoL : (h1.push (seqObj "list" acc.toList.toArray 0)).get? h1.objs.size = some (seqObj "list" acc.toList.toArray 0) := Heap.get?_push_size _ rfl
  have I2 : Inv X pins σ H { s with heap := h1.push (seqObj "list" acc.toList.toArray 0), toks := tk } := I1.kept (t' := tk) fun b u e => Heap.get?_push_of_some _ e
  have ra : Rec X pins h1.objs.size := rec_new I1 (Nat.le_refl _)
  have na : H h1.objs.size = none := I1.hok.fresh (Nat.le_refl _)
  show wpAny _ _ _ _ _ { s with heap := h1.push (seqObj "list" acc.toList.toArray 0), toks := tk }
  refine wpAny_bind (wpAny_holding (wpAny_call_entry_kw slot_list_sort ⟨_, hoL, rfl⟩ entry_list_sort ?body (ksk_l1 _ _)))
  case body =>
    rw [ksk_t1]
    unfold ksk_tree
    refine wpAny_bind (listItems_at hoL rfl ?_)
    have hz : acc.toList.toArray.size ≤ sizeLine := by rw [List.size_toArray, hal, sizeLine_eq]; omega
    refine wpAny_bind (listUpdate_at hoL rfl ?_ hz (Nat.zero_le _))
    obtain ⟨e1, ho1⟩ : ∃ e1, ((h1.push (seqObj "list" acc.toList.toArray 0)).update h1.objs.size (Obj.mapSeq fun _ => (#[] : Array Value))).get? h1.objs.size = some (seqObj "list" #[] e1) := ⟨_, get?_update_seq hoL fun _ => #[]⟩
    refine wpAny_bind (seqEpoch_at ho1 rfl ?_)
    refine wpAny_bind (wpAny_newTuple ?_ (by show acc.toList.length ≤ _; rw [hal, sizeLine_eq]; omega))
    refine wpAny_bind (wpAny_newList ?_ (Nat.zero_le _))
    refine wpAny_holding ?_
    have sb : Heap.SameBut h1.objs.size (h1.push (seqObj "list" acc.toList.toArray 0)) ((h1.push (seqObj "list" acc.toList.toArray 0)).update h1.objs.size (Obj.mapSeq fun _ => (#[] : Array Value))) := Heap.SameBut.update ..
    have I3 := ra.turn (t' := tk) I2 na fun c ob hc e => sb.extBut c ob hc e
    have I4 := I3.kept (t' := tk) fun b u e => Heap.get?_push_of_some (seqObj "tuple" acc.toList.toArray 0) e
    have I5 := I4.kept (t' := tk) fun b u e => Heap.get?_push_of_some (seqObj "list" #[] 0) e
    have lt1 : h1.objs.size < (((h1.push (seqObj "list" acc.toList.toArray 0)).update h1.objs.size (Obj.mapSeq fun _ => (#[] : Array Value))).push (seqObj "tuple" acc.toList.toArray 0)).objs.size := by
      rw [size_push', Heap.size_update, size_push']
      omega
    refine km_rest (fd := fd) (ps := ps) (sp := sp) (k := k) (g := g) (o := o) (kf := kf) (ks := ks) hr I.ok.frames hb F I5 hq ra (rec_new I4 (Nat.le_refl _)) na (I4.hok.fresh (Nat.le_refl _)) (Nat.ne_of_gt lt1) (Heap.get?_push_size _ rfl)
      (Heap.get?_push_of_some _ (Heap.get?_push_of_some _ ho1)) hS h64 turn fun s' H' out c J sm na' hD ko => ?_
    have eo := PySem.W.keyedOut_each (kdM kf) ko (each_strs hS)
    have pm := List.mergeSort_perm ks (PySem.W.dataLe false (kdM kf))
    have hlo : (ks.mergeSort (PySem.W.dataLe false (kdM kf))).length ≤ sizeLine := by rw [pm.length_eq, sizeLine_eq]; omega
    refine ⟨_, rfl, wpAny_pure ⟨_, rfl, .ref h1.objs.size, upd H' h1.objs.size (.lst ((ks.mergeSort (PySem.W.dataLe false (kdM kf))).map V.str)), adopt J ra na' ⟨?_, out, c, each_vals eo, hD⟩, rfl, fin _ _ H' sm pm (kdM_sorted ks) na'⟩⟩
    rw [List.length_map]
    exact hlo
end
/-- sorted(e, key=o.m) -/
def tSrtM (C : Addr) (m : PySem.Str) (sp : Sp) (ta to : TE) : TE := fun σ H Q => ta σ H fun x H1 => to σ H1 fun y H2 => ∃ (d a dx : Addr) (kvs : List (Key × V)) (fs : List (PySem.Str × V)) (ks : List PySem.Str) (kf : PySem.Str → Int), x = .ref d ∧ y = .ref a ∧ H2 a = some (.ins C dx fs) ∧ fs.lookup m = none ∧
  Rd H2 d (.dK kvs) ∧ kvs.map (·.1) = ks.map Sum.inr ∧ ks.length < 64 ∧ RankOk sp a kf ks H2 ∧ ∀ (ys : List PySem.Str) p H', Same H2 H' → ys.Perm ks → ys.Pairwise (rkLe kf) → H' p = none → Q (.ref p) (upd H' p (.lst (ys.map V.str)))
section
variable {X : Cx} {k : Nat} {C : Addr} {m : PySem.Str} {ps : List PySem.Str} {sp : Sp} {e o : Expr} {ta to : TE} {p pos apos kpos : Pos}
theorem pe_srtM (hcalm : X.calm = true) (cl : Cls X.K C) (c : CalB X.prog X.w X.K X.mg X.base C k m ps sp) (hr : Room (k + 2) X.A) (hg : Gl X "sorted") (hm : X.mg "sorted" = none) (he : PE X e ta) (ho : PE X o to)
    (hs1 : starEach [e] X.env = (false, eval e X.env) :: starEach [] X.env := by rfl) (hb : attributeBase o m X.env (eval o X.env) = eval o X.env := by rfl)
    (hst : backTo pos (starEach [e] X.env) = (false, eval e X.env) :: backTo pos (starEach [] X.env) := by rfl) (hpl : (backTo pos (starEach [e] X.env)).any (·.1) = false := by rfl)
    (hall : (backToKw pos (keywordEach [⟨some "key", .Attribute o m apos, kpos⟩] X.env)).all (·.1.isSome) = true := by rfl) (hno : (backToKw pos (keywordEach [⟨some "key", .Attribute o m apos, kpos⟩] X.env)).any (·.1.isNone) = false := by rfl)
    (hks : (backToKw pos (keywordEach [⟨some "key", .Attribute o m apos, kpos⟩] X.env)).filterMap (·.1) = [PySem.Str.ofString "key"] := by rfl) :
    PE X (.Call (.Name "sorted" p) [e] [⟨some "key", .Attribute o m apos, kpos⟩] pos) (tSrtM C m sp ta to) := by
  obtain ⟨g, fd, B, hbd, F⟩ := c
  have rule : CallRK X (.builtin "sorted") [PySem.Str.ofString "key"] (fun vs zs H Q => ∃ (d q a : Addr) (kvs : List (Key × V)) (ks : List PySem.Str) (kf : PySem.Str → Int), vs = [.ref d] ∧ zs = [.ref q] ∧ H q = some (.met g a) ∧
      Rd H d (.dK kvs) ∧ kvs.map (·.1) = ks.map Sum.inr ∧ ks.length < 64 ∧ RankOk sp a kf ks H ∧ ∀ (ys : List PySem.Str) p H', Same H H' → ys.Perm ks → ys.Pairwise (rkLe kf) → H' p = none → Q (.ref p) (upd H' p (.lst (ys.map V.str)))) := by
    intro pins s σ H vs zs us ws Q I r rz h
    obtain ⟨d, q, a, kvs, ks, kf, rfl, rfl, hq, hd, hk, h64, tu, fin⟩ := h
    obtain rfl := Vals.ref1 r
    obtain rfl := Vals.ref1 rz
    exact sortedKM hcalm hr.in1.in1 hbd F I hd hk h64 hq tu fin
  refine ⟨fun pins s σ H Q I h => ?_⟩
  refine wpAny_Call_Name_kw (ld_blt I hg hm rfl ?_ (by decide) (by decide))
  show wpAny _ _ (callWith pos (.builtin "sorted") [] _ _) _ _ _
  refine callWith_kw (thn ((pa_cons he pa_nil hs1).run pos pins s σ H (fun vs H1 => match vs with
    | [x] => to σ H1 fun y H2 => ∃ (d a dx : Addr) (kvs : List (Key × V)) (fs : List (PySem.Str × V)) (ks : List PySem.Str) (kf : PySem.Str → Int), x = .ref d ∧ y = .ref a ∧ H2 a = some (.ins C dx fs) ∧ fs.lookup m = none ∧ Rd H2 d (.dK kvs) ∧ kvs.map (·.1) = ks.map Sum.inr ∧
        ks.length < 64 ∧ RankOk sp a kf ks H2 ∧ ∀ (ys : List PySem.Str) p H', Same H2 H' → ys.Perm ks → ys.Pairwise (rkLe kf) → H' p = none → Q (.ref p) (upd H' p (.lst (ys.map V.str)))
    | _ => False) I h) fun us s1 hu => ?_) hst hpl hall hno
  obtain ⟨vs, H1, I1, r1, q1⟩ := hu
  match vs, q1 with
  | [x], q1 =>
    refine wpAny_evalAll_cons (wpAny_bind (attr_of hb (thn (ho.run pins s1 σ H1 _ I1 q1) fun u s2 hu => ?_)))
    obtain ⟨y, H2, I2, r2, d, a, dx, kvs, fs, ks, kf, rfl, rfl, ea, l, hd, hk, h64, tu, fin⟩ := hu
    cases r2
    refine getbound_ok I2 ea cl B l fun q s3 hq I3 => wpAny_bind (wpAny_standAt (wpAny_pure ?_))
    refine wpAny_evalAll_nil ?_
    rw [hks]
    obtain rfl := Vals.ref1 r1
    have sm : Same H2 (upd H2 q (.met g a)) := fun b u e => by rw [upd_ne (ne_of_none e hq)]; exact e
    exact sortedKM hcalm hr.in1.in1 hbd F I3 (hd.elim (fun z => .inl (sm _ _ z)) fun ⟨ob, z⟩ => .inr ⟨ob, sm _ _ z⟩) hk h64 upd_same (fun x hx H' k => tu x hx H' fun b u e => k b u (sm b u e)) fun ys p H' k => fin ys p H' fun b u e => k b u (sm b u e)
end
end Mc
namespace Mc
open PySem L2 PySem.Spec PyProof.Rows
/-! < and <= of pairs (a number, a text) -/
section
variable {X : Cx}
def rPair (R : (PySem.Str → Int) → PySem.Str → PySem.Str → Prop) : R2 := fun x y H Q => ∃ (a b : Addr) (kf : PySem.Str → Int) (s t : PySem.Str), x = .ref a ∧ y = .ref b ∧ H a = some (.tup [.int (kf s), .str s]) ∧ H b = some (.tup [.int (kf t), .str t]) ∧ ∀ v : Bool, (v = true ↔ R kf s t) → Q (.bl v) H
theorem kdM_alike (kf : PySem.Str → Int) (s t : PySem.Str) : PySem.W.alike (kdM kf s) (kdM kf t) = true := by simp [kdM, PySem.W.alike, PySem.W.alikeAll]
theorem kdM_depth (kf : PySem.Str → Int) (s : PySem.Str) : (kdM kf s).depth = 1 := by simp [kdM, PyData.depth, PyData.depthAll]
theorem op_leP (hu : X.A.units + 1 < cLine) : OpR X (compareOp .LtE) (rPair rkLe) := by
  intro pins s σ H x y v u Q I rx ry h
  obtain ⟨a, b, kf, p, q, rfl, rfl, ha, hb, k⟩ := h
  cases rx
  cases ry
  refine PySem.W.le_data (tup_reads I.hok ha) (tup_reads I.hok hb) (kdM_alike kf p q) (by intro e; cases e) (by rw [show PyData.depth (.tuple [.int (kf p), .str p]) = 1 from kdM_depth kf p, show PyData.depth (.tuple [.int (kf q), .str q]) = 1 from kdM_depth kf q]; exact hu) ?_
  exact ⟨.bl _, H, I, rfl, k _ kdM_le⟩
theorem op_ltP (hu : X.A.units + 1 < cLine) : OpR X (compareOp .Lt) (rPair fun kf s t => ¬ rkLe kf t s) := by
  intro pins s σ H x y v u Q I rx ry h
  obtain ⟨a, b, kf, p, q, rfl, rfl, ha, hb, k⟩ := h
  cases rx
  cases ry
  refine PySem.W.lt_data (tup_reads I.hok ha) (tup_reads I.hok hb) (kdM_alike kf p q) (by intro e; cases e) (by rw [show PyData.depth (.tuple [.int (kf p), .str p]) = 1 from kdM_depth kf p, show PyData.depth (.tuple [.int (kf q), .str q]) = 1 from kdM_depth kf q]; exact hu) ?_
  refine ⟨.bl _, H, I, rfl, k _ ?_⟩
  have e : (!PySem.W.dataLt (kdM kf p) (kdM kf q)) = true ↔ rkLe kf q p := kdM_le
  show PySem.W.dataLt (kdM kf p) (kdM kf q) = true ↔ ¬ rkLe kf q p
  rw [← e]
  cases PySem.W.dataLt (kdM kf p) (kdM kf q) <;> simp
end
end Mc
namespace Mc
open PySem L2 PySem.Spec PyProof.Rows Evl
/-! ### what evaluates to what, further: fields, dicts, calls, comprehensions -/
theorem has_T {β : Type} {f : β → V} {l : List (PySem.Str × β)} {k : PySem.Str} : (valV (kvT f l) (Sum.inr k)).isSome = decide (k ∈ keysT l) := by
  cases e : getT l k with
  | none =>
    have h1 := getT_none.mp e
    have h2 : valV (kvT f l) (Sum.inr k) = none := by rw [val_T, e]; rfl
    rw [h2, decide_eq_false h1]
    rfl
  | some v =>
    have h1 : k ∈ keysT l := List.mem_map.mpr ⟨_, getT_in e, rfl⟩
    have h2 : valV (kvT f l) (Sum.inr k) = some (f v) := by rw [val_T, e]; rfl
    rw [h2, decide_eq_true h1]
    rfl
theorem dgetK {H : Hp} {a : Addr} {kvs : List (L2.Key × V)} {x : PySem.Str} (e : Rd H a (.dK kvs)) : DGet H a (.str x) (valV kvs (Sum.inr x)) := .inl ⟨kvs, Sum.inr x, e, rfl, rfl⟩
instance (f : PySem.Str → Int) (x y : PySem.Str) : Decidable (rkLe f x y) := by unfold rkLe ltN; exact inferInstance
theorem inV_str {x : PySem.Str} {xs : List PySem.Str} : inV (.str x) (xs.map V.str) = decide (x ∈ xs) := by
  unfold inV
  induction xs with
  | nil => rfl
  | cons y ys ih =>
    rw [List.map_cons, List.any_cons, ih]
    by_cases e : x = y
    · subst e
      have : eqV (V.str x) (V.str x) = true := by simp [eqV]
      simp [this]
    · have : eqV (V.str y) (V.str x) = false := by
        simp [eqV]
        exact fun z => e z.symm
      simp [this, e]
theorem flat_strs (xs : List PySem.Str) : (xs.map V.str).all flatV = true := by
  rw [List.all_map, List.all_eq_true]
  exact fun x _ => rfl
section
variable {K : PySem.W.Frag} {σ : L2.St} {H H' : Hp} {ta tb te tx to td ty tl : TE} {t u : TT} {x y z v : V} {r : R2}
theorem EvU.mono {xs : List V} (e : Ex H H') (h : EvU te σ H xs) : EvU te σ H' xs := fun H1 a Q q => h H1 (e.trans a) Q q
theorem ev_fld {p C dx : Addr} {fs : List (PySem.Str × V)} {f : PySem.Str} (h : Ev to σ H (.ref p)) (hp : H p = some (.ins C dx fs)) (c : Cls K C) (n : NoAttr K C f) (l : fs.lookup f = some v) : Ev (tFld K to f) σ H v := fun H1 e Q q =>
  h H1 e _ fun H2 e2 => ⟨p, C, dx, fs, v, rfl, e2 _ _ (e _ _ hp), c, n, l, q H2 e2⟩
theorem ev_dget {β : Type} {f : β → V} {l : List (PySem.Str × β)} {b : β} {d : Addr} {k : PySem.Str} (hd : Ev td σ H (.ref d)) (hk : Ev ty σ H (.str k)) (h : Rd H d (.dK (kvT f l))) (e : getT l k = some b) : Ev (tDGet td ty) σ H (f b) := fun H1 e1 Q q =>
  hd H1 e1 _ fun H2 e2 => hk H2 (e1.trans e2) _ fun H3 e3 => ⟨d, f b, rfl, dgetT (ex_rd ((e1.trans e2).trans e3) h) e, q H3 (e2.trans e3)⟩
theorem ev_din {β : Type} {f : β → V} {l : List (PySem.Str × β)} {d : Addr} {k : PySem.Str} (hk : Ev ty σ H (.str k)) (hd : Ev td σ H (.ref d)) (h : Rd H d (.dK (kvT f l))) : Ev (tDIn ty td) σ H (.bl (decide (k ∈ keysT l))) := fun H1 e1 Q q =>
  hk H1 e1 _ fun H2 e2 => hd H2 (e1.trans e2) _ fun H3 e3 => ⟨d, _, rfl, dgetK (ex_rd ((e1.trans e2).trans e3) h), by rw [has_T]; exact q H3 (e2.trans e3)⟩
theorem ev_dnotin {β : Type} {f : β → V} {l : List (PySem.Str × β)} {d : Addr} {k : PySem.Str} (hk : Ev ty σ H (.str k)) (hd : Ev td σ H (.ref d)) (h : Rd H d (.dK (kvT f l))) : Ev (tDNotIn ty td) σ H (.bl (!decide (k ∈ keysT l))) := fun H1 e1 Q q =>
  hk H1 e1 _ fun H2 e2 => hd H2 (e1.trans e2) _ fun H3 e3 => ⟨d, _, rfl, dgetK (ex_rd ((e1.trans e2).trans e3) h), by rw [has_T]; exact q H3 (e2.trans e3)⟩
theorem isD_rd {d : Addr} {kvs : List (L2.Key × V)} (h : Rd H d (.dK kvs)) : IsD H d := by
  rcases h with h | ⟨o, h⟩
  · first | exact .inl ⟨_, .inl h⟩ | exact ⟨_, .inl h⟩ | exact .inl ⟨kvs, h⟩ | (unfold IsD; exact .inl ⟨_, Rd.of h⟩)
  · first | exact .inl ⟨_, .inr ⟨o, h⟩⟩ | exact ⟨_, .inr ⟨o, h⟩⟩ | (unfold IsD; exact .inl ⟨_, .inr ⟨o, h⟩⟩)
/-- d.get(k, x) -/
theorem ev_get2 {β : Type} {f : β → V} {l : List (PySem.Str × β)} {d : Addr} {k : PySem.Str} (hd : Ev td σ H (.ref d)) (hk : Ev ty σ H (.str k)) (hx : Ev tx σ H z) (h : Rd H d (.dK (kvT f l))) : Ev (tDGet2 td ty tx) σ H (((getT l k).map f).getD z) := fun H1 e1 Q q =>
  hd H1 e1 _ fun H2 e2 => ⟨d, rfl, isD_rd (ex_rd (e1.trans e2) h), hk H2 (e1.trans e2) _ fun H3 e3 => hx H3 ((e1.trans e2).trans e3) _ fun H4 e4 => ⟨_, dgetN (ex_rd (((e1.trans e2).trans e3).trans e4) h), q H4 ((e2.trans e3).trans e4)⟩⟩
theorem ev_all {bs : List Bool} (h : EvL te σ H (bs.map V.bl)) : Ev (tCB (rAll K) (tCons te tNil)) σ H (.bl (bs.all id)) := fun H1 e Q q =>
  h H1 e _ fun p H2 _ e2 h2 => ⟨p, bs, rfl, sq_of h2, q H2 e2⟩
theorem ev_any {bs : List Bool} (h : EvL te σ H (bs.map V.bl)) : Ev (tCB (rAny K) (tCons te tNil)) σ H (.bl (bs.any id)) := fun H1 e Q q =>
  h H1 e _ fun p H2 _ e2 h2 => ⟨p, bs, rfl, sq_of h2, q H2 e2⟩
theorem ev_sum {ns : List Int} (h : EvL te σ H (ns.map V.int)) : Ev (tCB (rSum K) (tCons te tNil)) σ H (.int ns.sum) := fun H1 e Q q =>
  h H1 e _ fun p H2 _ e2 h2 => ⟨p, ns, rfl, sq_of h2, q H2 e2⟩
theorem ev_lenT {p : Addr} {xs : List V} (ha : Ev ta σ H (.ref p)) (h : SqT K H p xs) : Ev (tCB (rLenS K) (tCons ta tNil)) σ H (.int (xs.length : Int)) := fun H1 e Q q =>
  ha H1 e _ fun H2 e2 => ⟨p, xs, rfl, Or.inr (ex_t (e.trans e2) h), q H2 e2⟩
theorem rv_inSL {neg : Bool} {p : Addr} {s : PySem.Str} {xs : List PySem.Str} (h : SqL K H p (xs.map V.str)) : RV (rIn K neg) (.str s) (.ref p) H (.bl (if neg then !decide (s ∈ xs) else decide (s ∈ xs))) := by
  rw [← inV_str]
  exact rv_inL h rfl (flat_strs _)
theorem rv_inST {neg : Bool} {p : Addr} {s : PySem.Str} {xs : List PySem.Str} (h : SqT K H p (xs.map V.str)) : RV (rIn K neg) (.str s) (.ref p) H (.bl (if neg then !decide (s ∈ xs) else decide (s ∈ xs))) := by
  rw [← inV_str]
  exact rv_inT h rfl (flat_strs _)
theorem ev_inSL {p : Addr} {s : PySem.Str} {xs : List PySem.Str} (ha : Ev ta σ H (.str s)) (hb : Ev tb σ H (.ref p)) (h : SqL K H p (xs.map V.str)) : Ev (tOp (rIn K false) ta tb) σ H (.bl (decide (s ∈ xs))) := ev_op ha hb (rv_inSL (neg := false) h)
theorem ev_niSL {p : Addr} {s : PySem.Str} {xs : List PySem.Str} (ha : Ev ta σ H (.str s)) (hb : Ev tb σ H (.ref p)) (h : SqL K H p (xs.map V.str)) : Ev (tOp (rIn K true) ta tb) σ H (.bl (!decide (s ∈ xs))) := ev_op ha hb (rv_inSL (neg := true) h)
theorem ev_inST {p : Addr} {s : PySem.Str} {xs : List PySem.Str} (ha : Ev ta σ H (.str s)) (hb : Ev tb σ H (.ref p)) (h : SqT K H p (xs.map V.str)) : Ev (tOp (rIn K false) ta tb) σ H (.bl (decide (s ∈ xs))) := ev_op ha hb (rv_inST (neg := false) h)
theorem ev_niST {p : Addr} {s : PySem.Str} {xs : List PySem.Str} (ha : Ev ta σ H (.str s)) (hb : Ev tb σ H (.ref p)) (h : SqT K H p (xs.map V.str)) : Ev (tOp (rIn K true) ta tb) σ H (.bl (!decide (s ∈ xs))) := ev_op ha hb (rv_inST (neg := true) h)
theorem ev_eqS {a b : PySem.Str} (ha : Ev ta σ H (.str a)) (hb : Ev tb σ H (.str b)) : Ev (tOp rEq ta tb) σ H (.bl (decide (a = b))) := ev_is (ev_op ha hb (rv_eq rfl)) (by simp)
theorem ev_neS {a b : PySem.Str} (ha : Ev ta σ H (.str a)) (hb : Ev tb σ H (.str b)) : Ev (tOp rNe ta tb) σ H (.bl (!decide (a = b))) := ev_is (ev_op ha hb (rv_ne rfl)) (by simp)
theorem ev_eqB {a b : Bool} (ha : Ev ta σ H (.bl a)) (hb : Ev tb σ H (.bl b)) : Ev (tOp rEq ta tb) σ H (.bl (decide (a = b))) := ev_is (ev_op ha hb (rv_eq rfl)) (by simp)
theorem ev_neB {a b : Bool} (ha : Ev ta σ H (.bl a)) (hb : Ev tb σ H (.bl b)) : Ev (tOp rNe ta tb) σ H (.bl (!decide (a = b))) := ev_is (ev_op ha hb (rv_ne rfl)) (by simp)
theorem ev_eqI {a b : Int} (ha : Ev ta σ H (.int a)) (hb : Ev tb σ H (.int b)) : Ev (tOp rEq ta tb) σ H (.bl (decide (a = b))) := ev_is (ev_op ha hb (rv_eq rfl)) (by simp)
theorem ev_neI {a b : Int} (ha : Ev ta σ H (.int a)) (hb : Ev tb σ H (.int b)) : Ev (tOp rNe ta tb) σ H (.bl (!decide (a = b))) := ev_is (ev_op ha hb (rv_ne rfl)) (by simp)
/-- a method that gives a value and changes nothing that stood -/
theorem ev_meth {p C dx : Addr} {fs : List (PySem.Str × V)} {m : PySem.Str} {sp : Sp} {dvs vs : List V} {E : XK} {tr : TA} (h : Ev to σ H (.ref p)) (hp : H p = some (.ins C dx fs)) (l : fs.lookup m = none) (ha : EvA tr σ H vs) (hs : SpV sp (.ref p :: (vs ++ dvs)) H z) : Ev (tMeth C m sp dvs E to tr) σ H z := fun H1 e Q q =>
  h H1 e _ fun H2 e2 => ⟨p, dx, fs, rfl, e2 _ _ (e _ _ hp), l, ha H2 (e.trans e2) _ fun H3 e3 => hs H3 ((e.trans e2).trans e3) Q (fun H4 e4 => q H4 ((e2.trans e3).trans e4)) E⟩
theorem ev_anyM {α : Type} {ys : List α} {p : α → Bool} (h : EvL te σ H (ys.map fun y => V.bl (p y))) : Ev (tCB (rAny K) (tCons te tNil)) σ H (.bl (ys.any p)) := by
  rw [map_bl] at h
  have := ev_any (K := K) h
  rw [any_map_id] at this
  exact this
theorem ev_allM {α : Type} {ys : List α} {p : α → Bool} (h : EvL te σ H (ys.map fun y => V.bl (p y))) : Ev (tCB (rAll K) (tCons te tNil)) σ H (.bl (ys.all p)) := by
  rw [map_bl] at h
  have := ev_all (K := K) h
  rw [all_map_id] at this
  exact this
theorem ev_sumM {α : Type} {ys : List α} {p : α → Int} (h : EvL te σ H (ys.map fun y => V.int (p y))) : Ev (tCB (rSum K) (tCons te tNil)) σ H (.int (ys.map p).sum) := by
  have e : (ys.map fun y => V.int (p y)) = (ys.map p).map V.int := by rw [List.map_map]; rfl
  rw [e] at h
  exact ev_sum h
/-- the first operand a new tuple -/
theorem ev_op1U {xs : List V} (ha : EvU ta σ H xs) (hb : Ev tb σ H y) (hr : ∀ p H1, H1 p = some (.tup xs) → Ex H H1 → RV r (.ref p) y H1 z) : Ev (tOp r ta tb) σ H z := fun H1 e Q q =>
  ha H1 e _ fun p H2 _ e2 hp => hb H2 (e.trans e2) _ fun H3 e3 => hr p H3 (e3 p _ hp) ((e.trans e2).trans e3) H3 (Ex.refl H3) Q fun H4 e4 => q H4 ((e2.trans e3).trans e4)
theorem rv_leP {p q : Addr} {kf : PySem.Str → Int} {s t : PySem.Str} (hp : H p = some (.tup [.int (kf s), .str s])) (hq : H q = some (.tup [.int (kf t), .str t])) : RV (rPair rkLe) (.ref p) (.ref q) H (.bl (decide (rkLe kf s t))) := fun H1 e Q k =>
  ⟨p, q, kf, s, t, rfl, rfl, e _ _ hp, e _ _ hq, fun v hv => by
    have : v = decide (rkLe kf s t) := by
      cases v with
      | true => exact (decide_eq_true (hv.mp rfl)).symm
      | false => exact (decide_eq_false fun z => by have := hv.mpr z; cases this).symm
    rw [this]
    exact k H1 (Ex.refl _)⟩
theorem rv_gt {i j : Int} : RV (rI0 fun a b => .bl (decide (a > b))) (.int i) (.int j) H (.bl (decide (i > j))) := rv_I0
/-! comprehensions as maps and filters -/
section
variable {α : Type} {ys : List α} {j : Nat} {vs : List Nat} {a : Addr}
theorem el_mL {c : α → V} (f : α → V) (hl : Ev tl σ H (.ref a)) (h : SqL K H a (ys.map c)) (hz : ys.length ≤ 100000) (turn : ∀ (i : Nat) y, ys[i]? = some y → ∀ H', Ex H H' → Ev te ((wipe σ vs).set j (some (c y))) H' (f y)) (hw : ∀ v, wipe ((wipe σ vs).set j (some v)) vs = wipe σ vs := by intro _; rfl) :
    EvL (tLc (iList K tl) (gName j) tYes te vs) σ H (ys.map f) := fun H1 e Q q => hl H1 e _ fun H2 e2 => ⟨a, rfl, ⟨_, ex_l (e.trans e2) h⟩, fun D hD =>
  lc_m (j := j) (c := c) (ys := ys) walk_list f (by rw [List.length_map]) hD (fun H' s => ex_l ((e.trans e2).trans s) h) (sz_of hz) (fun i y H' k hy s hk => turn i y hy H' ((e.trans e2).trans s) H' (Ex.refl _) k hk) (fun H' s hD' => q D H' (fresh_back e2 hD) (e2.trans s) hD') hw⟩
theorem el_mT {c : α → V} (f : α → V) (hl : Ev tl σ H (.ref a)) (h : SqT K H a (ys.map c)) (hz : ys.length ≤ 100000) (turn : ∀ (i : Nat) y, ys[i]? = some y → ∀ H', Ex H H' → Ev te ((wipe σ vs).set j (some (c y))) H' (f y)) (hw : ∀ v, wipe ((wipe σ vs).set j (some v)) vs = wipe σ vs := by intro _; rfl) :
    EvL (tLc (iTup K tl) (gName j) tYes te vs) σ H (ys.map f) := fun H1 e Q q => hl H1 e _ fun H2 e2 => ⟨a, rfl, ⟨_, ex_t (e.trans e2) h⟩, fun D hD =>
  lc_m (j := j) (c := c) (ys := ys) walk_tup f (by rw [List.length_map]) hD (fun H' s => ex_t ((e.trans e2).trans s) h) (sz_of hz) (fun i y H' k hy s hk => turn i y hy H' ((e.trans e2).trans s) H' (Ex.refl _) k hk) (fun H' s hD' => q D H' (fresh_back e2 hD) (e2.trans s) hD') hw⟩
/-- over a new list -/
theorem el_mN {c : α → V} (f : α → V) (hl : EvL tl σ H (ys.map c)) (hz : ys.length ≤ 100000) (turn : ∀ (i : Nat) y, ys[i]? = some y → ∀ H', Ex H H' → Ev te ((wipe σ vs).set j (some (c y))) H' (f y)) (hw : ∀ v, wipe ((wipe σ vs).set j (some v)) vs = wipe σ vs := by intro _; rfl) :
    EvL (tLc (iList K tl) (gName j) tYes te vs) σ H (ys.map f) := fun H1 e Q q => hl H1 e _ fun a H2 ha e2 h2 => ⟨a, rfl, ⟨_, sq_of h2⟩, fun D hD =>
  lc_m (j := j) (c := c) (ys := ys) walk_list f (by rw [List.length_map]) hD (fun H' s => sq_of (s _ _ h2)) (sz_of hz) (fun i y H' k hy s hk => turn i y hy H' ((e.trans e2).trans s) H' (Ex.refl _) k hk) (fun H' s hD' => q D H' (fresh_back e2 hD) (e2.trans s) hD') hw⟩
theorem el_fL {c : α → V} (p : α → Bool) (f : α → V) (hl : Ev tl σ H (.ref a)) (h : SqL K H a (ys.map c)) (hz : ys.length ≤ 100000) (test : ∀ (i : Nat) y, ys[i]? = some y → ∀ H', Ex H H' → EvT t ((wipe σ vs).set j (some (c y))) H' (p y))
    (turn : ∀ (i : Nat) y, ys[i]? = some y → p y = true → ∀ H', Ex H H' → Ev te ((wipe σ vs).set j (some (c y))) H' (f y)) (hw : ∀ v, wipe ((wipe σ vs).set j (some v)) vs = wipe σ vs := by intro _; rfl) :
    EvL (tLc (iList K tl) (gName j) t te vs) σ H ((ys.filter p).map f) := fun H1 e Q q => hl H1 e _ fun H2 e2 => ⟨a, rfl, ⟨_, ex_l (e.trans e2) h⟩, fun D hD =>
  lc_f (j := j) (c := c) (ys := ys) walk_list p f (by rw [List.length_map]) hD (fun H' s => ex_l ((e.trans e2).trans s) h) (sz_of hz) (fun i y H' k hy s hk => test i y hy H' ((e.trans e2).trans s) H' (Ex.refl _) k hk) (fun i y H' k hy hp s hk => turn i y hy hp H' ((e.trans e2).trans s) H' (Ex.refl _) k hk) (fun H' s hD' => q D H' (fresh_back e2 hD) (e2.trans s) hD') hw⟩
theorem el_fT {c : α → V} (p : α → Bool) (f : α → V) (hl : Ev tl σ H (.ref a)) (h : SqT K H a (ys.map c)) (hz : ys.length ≤ 100000) (test : ∀ (i : Nat) y, ys[i]? = some y → ∀ H', Ex H H' → EvT t ((wipe σ vs).set j (some (c y))) H' (p y))
    (turn : ∀ (i : Nat) y, ys[i]? = some y → p y = true → ∀ H', Ex H H' → Ev te ((wipe σ vs).set j (some (c y))) H' (f y)) (hw : ∀ v, wipe ((wipe σ vs).set j (some v)) vs = wipe σ vs := by intro _; rfl) :
    EvL (tLc (iTup K tl) (gName j) t te vs) σ H ((ys.filter p).map f) := fun H1 e Q q => hl H1 e _ fun H2 e2 => ⟨a, rfl, ⟨_, ex_t (e.trans e2) h⟩, fun D hD =>
  lc_f (j := j) (c := c) (ys := ys) walk_tup p f (by rw [List.length_map]) hD (fun H' s => ex_t ((e.trans e2).trans s) h) (sz_of hz) (fun i y H' k hy s hk => test i y hy H' ((e.trans e2).trans s) H' (Ex.refl _) k hk) (fun i y H' k hy hp s hk => turn i y hy hp H' ((e.trans e2).trans s) H' (Ex.refl _) k hk) (fun H' s hD' => q D H' (fresh_back e2 hD) (e2.trans s) hD') hw⟩
theorem el_fN {c : α → V} (p : α → Bool) (f : α → V) (hl : EvL tl σ H (ys.map c)) (hz : ys.length ≤ 100000) (test : ∀ (i : Nat) y, ys[i]? = some y → ∀ H', Ex H H' → EvT t ((wipe σ vs).set j (some (c y))) H' (p y))
    (turn : ∀ (i : Nat) y, ys[i]? = some y → p y = true → ∀ H', Ex H H' → Ev te ((wipe σ vs).set j (some (c y))) H' (f y)) (hw : ∀ v, wipe ((wipe σ vs).set j (some v)) vs = wipe σ vs := by intro _; rfl) :
    EvL (tLc (iList K tl) (gName j) t te vs) σ H ((ys.filter p).map f) := fun H1 e Q q => hl H1 e _ fun a H2 ha e2 h2 => ⟨a, rfl, ⟨_, sq_of h2⟩, fun D hD =>
  lc_f (j := j) (c := c) (ys := ys) walk_list p f (by rw [List.length_map]) hD (fun H' s => sq_of (s _ _ h2)) (sz_of hz) (fun i y H' k hy s hk => test i y hy H' ((e.trans e2).trans s) H' (Ex.refl _) k hk) (fun i y H' k hy hp s hk => turn i y hy hp H' ((e.trans e2).trans s) H' (Ex.refl _) k hk) (fun H' s hD' => q D H' (fresh_back e2 hD) (e2.trans s) hD') hw⟩
/-- over the keys of a dict that is locked already -/
theorem el_mK {β : Type} {g : β → V} {l : List (PySem.Str × β)} {o : Obj} (f : PySem.Str → V) (hl : Ev tl σ H (.ref a)) (h : H a = some (.frz o (.dK (kvT g l)))) (hz : l.length ≤ 100000) (turn : ∀ (i : Nat) y, (keysT l)[i]? = some y → ∀ H', Ex H H' → Ev te ((wipe σ vs).set j (some (.str y))) H' (f y)) (hw : ∀ v, wipe ((wipe σ vs).set j (some v)) vs = wipe σ vs := by intro _; rfl) :
    EvL (tLc (iKeys tl) (gName j) tYes te vs) σ H ((keysT l).map f) := fun H1 e Q q => hl H1 e _ fun H2 e2 => ⟨a, o, rfl, .inl ⟨_, e2 _ _ (e _ _ h), fun D hD =>
  lc_m (j := j) (c := V.str) (ys := keysT l) walk_kT f rfl hD (fun H' s => s _ _ (e2 _ _ (e _ _ h))) (by unfold keysT; rw [List.length_map]; exact sz_of hz) (fun i y H' k hy s hk => turn i y hy H' ((e.trans e2).trans s) H' (Ex.refl _) k hk) (fun H' s hD' => q D H' (fresh_back e2 hD) (e2.trans s) hD') hw⟩⟩
theorem el_fK {β : Type} {g : β → V} {l : List (PySem.Str × β)} {o : Obj} (p : PySem.Str → Bool) (f : PySem.Str → V) (hl : Ev tl σ H (.ref a)) (h : H a = some (.frz o (.dK (kvT g l)))) (hz : l.length ≤ 100000) (test : ∀ (i : Nat) y, (keysT l)[i]? = some y → ∀ H', Ex H H' → EvT t ((wipe σ vs).set j (some (.str y))) H' (p y))
    (turn : ∀ (i : Nat) y, (keysT l)[i]? = some y → p y = true → ∀ H', Ex H H' → Ev te ((wipe σ vs).set j (some (.str y))) H' (f y)) (hw : ∀ v, wipe ((wipe σ vs).set j (some v)) vs = wipe σ vs := by intro _; rfl) :
    EvL (tLc (iKeys tl) (gName j) t te vs) σ H (((keysT l).filter p).map f) := fun H1 e Q q => hl H1 e _ fun H2 e2 => ⟨a, o, rfl, .inl ⟨_, e2 _ _ (e _ _ h), fun D hD =>
  lc_f (j := j) (c := V.str) (ys := keysT l) walk_kT p f rfl hD (fun H' s => s _ _ (e2 _ _ (e _ _ h))) (by unfold keysT; rw [List.length_map]; exact sz_of hz) (fun i y H' k hy s hk => test i y hy H' ((e.trans e2).trans s) H' (Ex.refl _) k hk) (fun i y H' k hy hp s hk => turn i y hy hp H' ((e.trans e2).trans s) H' (Ex.refl _) k hk) (fun H' s hD' => q D H' (fresh_back e2 hD) (e2.trans s) hD') hw⟩⟩
/-- a list made while the dict d is locked, from the state within the lock -/
theorem el_lock {kvs : List (L2.Key × V)} {xs : List V} (h : H a = some (.dK kvs)) (k : ∀ od, EvL te σ (upd H a (.frz od (.dK kvs))) xs) : EvL (tLockE te) σ H xs := fun H1 e Q q => by
  have h1 := e _ _ h
  refine ⟨a, _, h1, trivial, fun od => ?_⟩
  have e1 : Ex (upd H a (.frz od (.dK kvs))) (upd H1 a (.frz od (.dK kvs))) := fun b o z => by
    by_cases nb : b = a
    · rw [nb, upd_same] at z ⊢; exact z
    · rw [upd_ne nb] at z ⊢; exact e _ _ z
  refine k od _ e1 _ fun p H2 hp e2 h2 => ?_
  have na : p ≠ a := fun z => by rw [z, upd_same] at hp; cases hp
  have fa : H2 a = some (.frz od (.dK kvs)) := e2 _ _ upd_same
  refine ⟨fa, q p _ (by rw [upd_ne na] at hp; exact hp) (fun b o z => ?_) (by rw [upd_ne na]; exact h2)⟩
  by_cases nb : b = a
  · rw [nb, h1] at z; rw [nb, upd_same]; exact z
  · rw [upd_ne nb]; exact e2 _ _ (by rw [upd_ne nb]; exact z)
end
end
/-! ### statements under a dict's lock -/
section
variable {K : PySem.W.Frag} {σ : L2.St} {H H' : Hp} {te td : TE} {D : Ends} {tb tz : TS} {a : Addr} {u : HO}
theorem ex_lock {H1 : Hp} {f : HO} (e : Ex H H1) : Ex (upd H a f) (upd H1 a f) := fun b o z => by
  by_cases nb : b = a
  · rw [nb, upd_same] at z ⊢; exact z
  · rw [upd_ne nb] at z ⊢; exact e _ _ z
theorem ex_unlock {f : HO} (h : H a = some u) (e : Ex (upd H a f) H') : Ex H (upd H' a u) := fun b o z => by
  by_cases nb : b = a
  · rw [nb, h] at z; rw [nb, upd_same]; exact z
  · rw [upd_ne nb]; exact e _ _ (by rw [upd_ne nb]; exact z)
/-- y = [.. for k in d ..], d locked meanwhile -/
theorem s_lockL {kvs : List (L2.Key × V)} {xs : List V} {i : Nat} (h : H a = some (.dK kvs)) (k : ∀ od, EvL te σ (upd H a (.frz od (.dK kvs))) xs) (q : ∀ p H1, H p = none → Ex H H1 → H1 p = some (.lst xs) → D.nx (σ.set i (some (.ref p))) H1) : tLock (tAsg te (gName i)) D σ H := by
  refine ⟨a, _, h, trivial, fun od => k od _ (Ex.refl _) _ fun p H2 hp e2 h2 => ?_⟩
  have na : p ≠ a := fun z => by rw [z, upd_same] at hp; cases hp
  refine ⟨e2 _ _ upd_same, q p _ (by rw [upd_ne na] at hp; exact hp) (ex_unlock h e2) (by rw [upd_ne na]; exact h2)⟩
theorem q_lockL {kvs : List (L2.Key × V)} {xs : List V} {i : Nat} (h : H a = some (.dK kvs)) (k : ∀ od, EvL te σ (upd H a (.frz od (.dK kvs))) xs) (q : ∀ p H1, H p = none → Ex H H1 → H1 p = some (.lst xs) → tz D (σ.set i (some (.ref p))) H1) : tSeq (tLock (tAsg te (gName i))) tz D σ H :=
  s_lockL (D := { D with nx := tz D }) h k q
/-- for k in d: ..; the turns within the lock -/
theorem s_lockFor {β : Type} {g : β → V} {l : List (PySem.Str × β)} {j : Nat} (h : H a = some (.dK (kvT g l))) (hd : ∀ od, Ev td σ (upd H a (.frz od (.dK (kvT g l)))) (.ref a)) (Pv : Obj → Nat → L2.St → Hp → Prop) (h0 : ∀ od H1, Ex (upd H a (.frz od (.dK (kvT g l)))) H1 → Pv od 0 σ H1)
    (hl : ∀ od i σ' H', Pv od i σ' H' → H' a = some (.frz od (.dK (kvT g l))))
    (hs : ∀ od (i : Nat) y σ' H', (keysT l)[i]? = some y → Pv od i σ' H' → tb ⟨Pv od (i + 1), fun v H' => H' a = some (.frz od (.dK (kvT g l))) ∧ D.rt v (upd H' a (.dK (kvT g l))), fun σ' H' => H' a = some (.frz od (.dK (kvT g l))) ∧ D.nx σ' (upd H' a (.dK (kvT g l))), Pv od (i + 1)⟩ (σ'.set j (some (.str y))) H')
    (he : ∀ od σ' H', Pv od (keysT l).length σ' H' → D.nx σ' (upd H' a (.dK (kvT g l)))) : tLock (tFor (iKeys td) (gName j) tb) D σ H := by
  refine ⟨a, _, h, trivial, fun od => hd od _ (Ex.refl _) _ fun H1 e1 => ⟨a, od, rfl, .inl ⟨_, e1 _ _ upd_same, for_it walk_kT (Pv od) (h0 od H1 e1) (fun i σ' H' _ p => hl od i σ' H' p) ?_ ?_⟩⟩⟩
  · rintro i x σ' H' H'' hi p ⟨rfl, hx⟩
    rw [List.getElem?_map] at hx
    cases e : (keysT l)[i]? with
    | none => rw [e] at hx; cases hx
    | some y =>
      rw [e] at hx
      obtain rfl := Option.some.inj hx
      exact hs od i y σ' _ e p
  · exact fun σ' H' p => ⟨hl od _ σ' H' p, he od σ' H' p⟩
theorem q_lockFor {β : Type} {g : β → V} {l : List (PySem.Str × β)} {j : Nat} (h : H a = some (.dK (kvT g l))) (hd : ∀ od, Ev td σ (upd H a (.frz od (.dK (kvT g l)))) (.ref a)) (Pv : Obj → Nat → L2.St → Hp → Prop) (h0 : ∀ od H1, Ex (upd H a (.frz od (.dK (kvT g l)))) H1 → Pv od 0 σ H1)
    (hl : ∀ od i σ' H', Pv od i σ' H' → H' a = some (.frz od (.dK (kvT g l))))
    (hs : ∀ od (i : Nat) y σ' H', (keysT l)[i]? = some y → Pv od i σ' H' → tb ⟨Pv od (i + 1), fun v H' => H' a = some (.frz od (.dK (kvT g l))) ∧ D.rt v (upd H' a (.dK (kvT g l))), fun σ' H' => H' a = some (.frz od (.dK (kvT g l))) ∧ tz D σ' (upd H' a (.dK (kvT g l))), Pv od (i + 1)⟩ (σ'.set j (some (.str y))) H')
    (he : ∀ od σ' H', Pv od (keysT l).length σ' H' → tz D σ' (upd H' a (.dK (kvT g l)))) : tSeq (tLock (tFor (iKeys td) (gName j) tb)) tz D σ H :=
  s_lockFor (D := { D with nx := tz D }) h hd Pv h0 hl hs he
end
section
variable {X : Cx} {K : PySem.W.Frag}
theorem cr_anyK (h : X.K = K) (hc : X.calm = true) : CallR X (.builtin "any") (rAny K) := by subst h; exact cr_any hc
theorem cr_allK (h : X.K = K) (hc : X.calm = true) : CallR X (.builtin "all") (rAll K) := by subst h; exact cr_all hc
theorem cr_sumK (h : X.K = K) (hc : X.calm = true) : CallR X (.builtin "sum") (rSum K) := by subst h; exact cr_sum hc
end
end Mc
namespace Mc
open PySem L2 PySem.Spec PyProof.Rows Evl
/-! ### a dict that is walked where it is made: it stays locked -/
def tFrz (t : TE) : TE := fun σ H Q => t σ H fun x H1 => ∃ d u, x = .ref d ∧ H1 d = some u ∧ Mut (some u) ∧ ∀ o, Q x (upd H1 d (.frz o u))
theorem pe_frz {X : Cx} {e : Expr} {t : TE} (h : PE X e t) : PE X e (tFrz t) := ⟨fun pins s σ H Q I hw => thn (h.run pins s σ H _ I hw) fun v s1 hv => by
  obtain ⟨x, H1, I1, r1, d, u, rfl, hd, mu, q⟩ := hv
  obtain ⟨od, I2⟩ := I1.lock hd mu
  exact ⟨_, _, I2, r1, q od⟩⟩
/-! ### xs.count(text) -/
theorem cntS : ∀ {xs : List PySem.Str} {its : List Value} {k : PySem.Str}, Vals (xs.map V.str) its → its.countP (isS k) = xs.count k
  | [], _, _, .nil => rfl
  | x :: xs, _ :: us, k, .cons ⟨t, e⟩ r => by
    subst e
    rw [List.countP_cons, List.count_cons, cntS (k := k) r]
    have e2 : isS k (.str x t) = (x == k) := by
      show (x.cps.toList == k.cps.toList) = (x == k)
      by_cases h : x = k
      · subst h; simp
      · have n1 : ¬ x.cps.toList = k.cps.toList := fun z => h (str_ext z)
        rw [beq_eq_false_iff_ne.mpr n1, beq_eq_false_iff_ne.mpr h]
    rw [e2]
section
variable {X : Cx} {K : PySem.W.Frag}
def rCntS (K : PySem.W.Frag) : V → List V → Hp → VK → Prop := fun x xs H Q => ∃ (p : Addr) (ys : List PySem.Str) (k : PySem.Str), x = .ref p ∧ xs = [.str k] ∧ SqL K H p (ys.map V.str) ∧ Q (.int (ys.count k : Nat)) H
theorem mt_lcountS : MtR X "list.count" (rCntS X.K) := by
  intro pins s σ H x xs v us Q I rx rxs h
  obtain ⟨p, ys, k, rfl, rfl, hs, q⟩ := h
  cases rx
  obtain ⟨u, rfl, ru⟩ := rxs.one
  obtain ⟨t, rfl⟩ := ru
  obtain ⟨its, rv, ⟨⟨cls, dd, data, sl⟩, n, ho, hc, hdn, hd⟩, hlen⟩ := I.list hs
  simp only at hc hd
  subst hc hd
  refine call_meets PySem.F.slot_list_count ⟨_, ho, rfl⟩ PySem.F.entry_list_count (PySem.F.args_list_count_2 _ _) (SeqAt.list_countAt p its.toArray n dd sl (.str k t) (isS k)) ⟨ho, fun y hy => ?_, ?_⟩
  · obtain ⟨i, hi⟩ := List.mem_iff_getElem?.mp (show y ∈ its by simpa using hy)
    cases hx : ys[i]? with
    | none => rw [rv.none_of (by rw [List.getElem?_map, hx]; rfl)] at hi; cases hi
    | some z =>
      obtain ⟨w', h1, ⟨t', h2⟩⟩ := rv.get (i := i) (x := .str z) (by rw [List.getElem?_map, hx]; rfl)
      rw [hi] at h1; cases h1
      rw [h2]
      exact (SeqRoads2.EqGives.str z k t' t).at _ _
  · refine ⟨.int (ys.count k : Nat), H, I.tok _, ⟨s.toks, ?_⟩, q⟩
    show Value.int ((its.toArray.toList.countP (isS k) : Nat) : Int) s.toks = Value.int ((ys.count k : Nat) : Int) s.toks
    rw [List.toList_toArray, cntS rv]
theorem mt_lcountSK (h : X.K = K) : MtR X "list.count" (rCntS K) := by subst h; exact mt_lcountS
end
/-! ### {k: e for k in ..} as a map -/
section
variable {f : PySem.Str → V} {ys : List PySem.Str} {J : It} {n : Nat} {G : Hp → Prop} {te : TE} {vs : List Nat} {σ : L2.St} {H1 : Hp} {D : Addr} {Qd : Hp → Prop} {j : Nat}
def mkD (f : PySem.Str → V) (ys : List PySem.Str) : List (L2.Key × V) := ys.map fun y => (Sum.inr y, f y)
theorem mkD_put {y : PySem.Str} (h : y ∉ ys) (f : PySem.Str → V) : putK (mkD f ys) (Sum.inr y) (f y) = mkD f (ys ++ [y]) := by
  have e1 : mkD f ys = kvT id (ys.map fun y => (y, f y)) := by unfold mkD kvT; rw [List.map_map]; rfl
  have e2 := put_new (f := (id : V → V)) (l := ys.map fun y => (y, f y)) (k := y) (v := f y) (by rw [keysT_mk]; exact h)
  rw [e1]
  refine e2.trans ?_
  unfold mkD kvT
  rw [List.map_append, List.map_map, List.map_append]
  rfl
theorem dc_m (w : Walk J n G (YAt (ys.map V.str))) (f : PySem.Str → V) (hn : n = ys.length) (nd : ys.Nodup) (hD : H1 D = none) (hG : ∀ H', Same H1 H' → G H') (hz : ys.length ≤ sizeLine)
    (turn : ∀ (i : Nat) (y : PySem.Str) (H' : Hp) (k : VK), ys[i]? = some y → Same H1 H' → (∀ H4, Same H' H4 → k (f y) H4) → te ((wipe σ vs).set j (some (.str y))) H' k)
    (hd : ∀ H', Same H1 H' → H' D = some (.dK (mkD f ys)) → Qd H') (hj : ∀ v, ((wipe σ vs).set j (some v))[j]? = some (some v) := by intro _; rfl) (hw : ∀ v, wipe ((wipe σ vs).set j (some v)) vs = wipe σ vs := by intro _; rfl) :
    ∃ W : Nat → Nat → Hp → Prop, (∃ m, W 0 m (upd H1 D (.dK []))) ∧ ∀ i m H, W i m H →
      (J.stop i H ∧ Qd H) ∨ (J.go i H ∧ ∃ Nx : Hp → Prop, (∀ H', Nx H' → ∃ m', m' < m ∧ W (i + 1) m' H') ∧ ∀ x H', J.yld i H x H' → gName j x (wipe σ vs) H' fun σ2 H2 => wipe σ2 vs = wipe σ vs ∧ tYes σ2 H2 fun b H3 =>
        if b = true then tVar j σ2 H3 fun y H4 => te σ2 H4 fun z H5 => ∃ kvs k, y = kV k ∧ H5 D = some (.dK kvs) ∧ kvs.length < sizeLine ∧ Nx (upd H5 D (.dK (putK kvs k z))) else Nx H3) := by
  refine ⟨fun i m H => m = n - i ∧ i ≤ n ∧ Same H1 H ∧ H D = some (.dK (mkD f (ys.take i))), ⟨n, by simp, Nat.zero_le _, Same.new hD, upd_same⟩, ?_⟩
  rintro i m H ⟨rfl, hi, s1, d1⟩
  by_cases hlt : i < n
  · refine .inr ⟨w.goes i H hlt (hG H s1), fun H' => Same H1 H' ∧ H' D = some (.dK (mkD f (ys.take (i + 1)))), fun H' p' => ⟨n - (i + 1), by omega, rfl, hlt, p'⟩, fun x H' y => ?_⟩
    obtain ⟨rfl, hx⟩ := w.yields i H x H' hlt (hG H s1) y
    rw [List.getElem?_map] at hx
    cases e : ys[i]? with
    | none => rw [e] at hx; cases hx
    | some c =>
      rw [e] at hx
      obtain rfl := Option.some.inj hx
      refine ⟨hw _, yes_ite ⟨_, hj _, turn i c _ _ e s1 fun H4 s4 => ⟨_, Sum.inr c, rfl, s4 _ _ d1, ?_, ?_, ?_⟩⟩⟩
      · unfold mkD; rw [List.length_map, List.length_take]; omega
      · exact fun b o z => by
          have nb : b ≠ D := ne_of_none z hD
          rw [upd_ne nb]
          exact s4 _ _ (s1 _ _ z)
      · rw [upd_same, mkD_put (nd_take nd e), List.take_add_one, e]
        rfl
  · obtain rfl : i = n := by omega
    subst hn
    rw [List.take_length] at d1
    exact .inl ⟨w.stops H (hG H s1), hd H s1 d1⟩
/-- a new dict -/
def EvD (te : TE) (σ : L2.St) (H : Hp) (kvs : List (L2.Key × V)) : Prop := ∀ H1, Ex H H1 → ∀ Q : VK, (∀ p H2, H1 p = none → Ex H1 H2 → H2 p = some (.dK kvs) → Q (.ref p) H2) → te σ H1 Q
theorem mkD_kvT {β : Type} {g : β → V} {h : PySem.Str → β} (ys : List PySem.Str) : mkD (fun y => g (h y)) ys = kvT g (ys.map fun y => (y, h y)) := by unfold mkD kvT; rw [List.map_map]; rfl
section
variable {K : PySem.W.Frag} {H : Hp} {tl : TE} {a : Addr}
theorem ed_N (f : PySem.Str → V) (nd : ys.Nodup) (hl : EvL tl σ H (ys.map V.str)) (hz : ys.length ≤ 100000) (turn : ∀ (i : Nat) y, ys[i]? = some y → ∀ H', Ex H H' → Ev te ((wipe σ vs).set j (some (.str y))) H' (f y)) (hj : ∀ v, ((wipe σ vs).set j (some v))[j]? = some (some v) := by intro _; rfl) (hw : ∀ v, wipe ((wipe σ vs).set j (some v)) vs = wipe σ vs := by intro _; rfl) :
    EvD (tDc (iList K tl) (gName j) tYes (tVar j) te vs) σ H (mkD f ys) := fun H1 e Q q => hl H1 e _ fun a H2 ha e2 h2 => ⟨a, rfl, ⟨_, sq_of h2⟩, fun D hD =>
  dc_m (j := j) (ys := ys) walk_list f (by rw [List.length_map]) nd hD (fun H' s => sq_of (s _ _ h2)) (sz_of hz) (fun i y H' k hy s hk => turn i y hy H' ((e.trans e2).trans s) H' (Ex.refl _) k hk) (fun H' s hD' => q D H' (fresh_back e2 hD) (e2.trans s) hD') hj hw⟩
theorem ed_K {β : Type} {g : β → V} {l : List (PySem.Str × β)} {o : Obj} (f : PySem.Str → V) (nd : (keysT l).Nodup) (hl : Ev tl σ H (.ref a)) (h : H a = some (.frz o (.dK (kvT g l)))) (hz : l.length ≤ 100000) (turn : ∀ (i : Nat) y, (keysT l)[i]? = some y → ∀ H', Ex H H' → Ev te ((wipe σ vs).set j (some (.str y))) H' (f y)) (hj : ∀ v, ((wipe σ vs).set j (some v))[j]? = some (some v) := by intro _; rfl) (hw : ∀ v, wipe ((wipe σ vs).set j (some v)) vs = wipe σ vs := by intro _; rfl) :
    EvD (tDc (iKeys tl) (gName j) tYes (tVar j) te vs) σ H (mkD f (keysT l)) := fun H1 e Q q => hl H1 e _ fun H2 e2 => ⟨a, o, rfl, .inl ⟨_, e2 _ _ (e _ _ h), fun D hD =>
  dc_m (j := j) (ys := keysT l) walk_kT f rfl nd hD (fun H' s => s _ _ (e2 _ _ (e _ _ h))) (by unfold keysT; rw [List.length_map]; exact sz_of hz) (fun i y H' k hy s hk => turn i y hy H' ((e.trans e2).trans s) H' (Ex.refl _) k hk) (fun H' s hD' => q D H' (fresh_back e2 hD) (e2.trans s) hD') hj hw⟩⟩
theorem ed_lock {kvs xs : List (L2.Key × V)} (h : H a = some (.dK kvs)) (k : ∀ od, EvD te σ (upd H a (.frz od (.dK kvs))) xs) : EvD (tLockE te) σ H xs := fun H1 e Q q => by
  have h1 := e _ _ h
  refine ⟨a, _, h1, trivial, fun od => k od _ (ex_lock e) _ fun p H2 hp e2 h2 => ?_⟩
  have na : p ≠ a := fun z => by rw [z, upd_same] at hp; cases hp
  exact ⟨e2 _ _ upd_same, q p _ (by rw [upd_ne na] at hp; exact hp) (ex_unlock h1 e2) (by rw [upd_ne na]; exact h2)⟩
end
end
end Mc
namespace Mc
open PySem L2 PySem.Spec PyProof.Rows Evl
theorem rising_pw : ∀ (r : List PySem.Str) (p : PySem.Str), risingS p r = true → (p :: r).Pairwise fun a b => ¬ ltN b a
  | [], p, _ => List.pairwise_singleton _ _
  | x :: r, p, h => by
    unfold risingS at h
    rw [Bool.and_eq_true] at h
    have ih := rising_pw r x h.2
    have px : ¬ ltN x p := by
      have h1 := h.1
      rw [ltCps_eq] at h1
      intro z
      rw [decide_eq_true (show x.cps.toList < p.cps.toList from z)] at h1
      cases h1
    refine List.pairwise_cons.mpr ⟨fun y hy => ?_, ih⟩
    rcases List.mem_cons.mp hy with e | e
    · rw [e]; exact px
    · intro z
      have xy := (List.pairwise_cons.mp ih).1 y e
      by_cases ep : p = x
      · rw [ep] at z; exact xy z
      · by_cases ey : y = x
        · rw [ey] at z; exact px z
        · exact ltN_irr _ (ltN_trans (ltN_trans (ltN_tri px fun q => ep q.symm) (ltN_tri xy ey)) z)
theorem srt_pw {ys : List PySem.Str} (h : sortedS ys = true) : ys.Pairwise fun a b => ¬ ltN b a := by
  cases ys with
  | nil => exact .nil
  | cons x r => exact rising_pw r x h
theorem srt_eq {ys zs : List PySem.Str} (hp : ys.Perm zs) (h1 : sortedS ys = true) (h2 : sortedS zs = true) : ys = zs :=
  List.Perm.eq_of_pairwise (le := fun a b => ¬ ltN b a) (fun a b _ _ h k => Classical.byContradiction fun n => h (ltN_tri k n)) (srt_pw h1) (srt_pw h2) hp
theorem perm_nd {α : Type} [DecidableEq α] {a b : List α} (h1 : a.Nodup) (h2 : b.Nodup) (h : ∀ x, x ∈ a ↔ x ∈ b) : a.Perm b := by
  refine List.perm_iff_count.mpr fun x => ?_
  by_cases e : x ∈ a
  · rw [h1.count, h2.count, if_pos e, if_pos ((h x).mp e)]
  · rw [h1.count, h2.count, if_neg e, if_neg fun z => e ((h x).mpr z)]
def pdS (xs : List PySem.Str) : PyData := .list (xs.map PyData.str)
theorem dpAllS (K : PySem.W.Frag) (H : Hp) : ∀ xs : List PySem.Str, DpAll K H (xs.map V.str) (xs.map PyData.str)
  | [] => .nil
  | x :: xs => .cons (.str x) (dpAllS K H xs)
theorem dpS {K : PySem.W.Frag} {H : Hp} {a : Addr} {xs : List PySem.Str} (h : SqL K H a (xs.map V.str)) : Dp K H (.ref a) (pdS xs) := .lst h (dpAllS K H xs)
theorem lay_of {x : PySem.Str} (h : PyData.strOk x = true) : PyData.canLay0 (.str x) = true := by rw [PyData.canLay0]; exact h
theorem layS : ∀ xs : List PySem.Str, (∀ x ∈ xs, PyData.strOk x = true) → PyData.canLayAll0 (xs.map PyData.str) = true
  | [], _ => rfl
  | x :: xs, h => by
    show (PyData.canLay0 (.str x) && PyData.canLayAll0 (xs.map PyData.str)) = true
    rw [layS xs fun y hy => h y (.tail _ hy), lay_of (h x (.head _))]; rfl
theorem depS : ∀ xs : List PySem.Str, PyData.depthAll (xs.map PyData.str) = 0
  | [] => rfl
  | x :: xs => by
    show max (PyData.depth (.str x)) (PyData.depthAll (xs.map PyData.str)) = 0
    rw [depS xs]; rfl
theorem shapedS {xs : List PySem.Str} (hx : ∀ x ∈ xs, PyData.strOk x = true) : SeqAt.shaped (pdS xs) = true := by
  have h : PyData.depth (pdS xs) = PyData.depthAll (xs.map PyData.str) + 1 := by unfold pdS; rw [PyData.depth]
  have h2 : (pdS xs).canLay0 = true := by unfold pdS; rw [PyData.canLay0]; exact layS xs hx
  unfold SeqAt.shaped
  rw [h, depS, h2]; rfl
theorem eqvS (xs : List PySem.Str) : PyData.eqv (pdS xs) (pdS xs) = true := by
  unfold pdS
  rw [PyData.eqv]
  induction xs with
  | nil => rfl
  | cons x xs ih =>
    show (PyData.eqv (.str x) (.str x) && PyData.eqvAll (xs.map PyData.str) (xs.map PyData.str)) = true
    rw [ih]
    simp [PyData.eqv]
theorem eqvAllS : ∀ xs ys : List PySem.Str, PyData.eqvAll (xs.map PyData.str) (ys.map PyData.str) = decide (xs = ys)
  | [], [] => rfl
  | [], y :: ys => by simp [PyData.eqvAll]
  | x :: xs, [] => by simp [PyData.eqvAll]
  | x :: xs, y :: ys => by
    show (PyData.eqv (.str x) (.str y) && PyData.eqvAll (xs.map PyData.str) (ys.map PyData.str)) = _
    rw [eqvAllS xs ys]
    have : PyData.eqv (.str x) (.str y) = (x == y) := by rw [PyData.eqv]
    rw [this]
    by_cases h : x = y <;> simp [h]
theorem eqvLS (xs ys : List PySem.Str) : PyData.eqv (pdS xs) (pdS ys) = decide (xs = ys) := by
  unfold pdS
  rw [PyData.eqv]
  exact eqvAllS xs ys
def pdTS (xs : List PySem.Str) : PyData := .tuple (xs.map PyData.str)
theorem eqvTS (xs ys : List PySem.Str) : PyData.eqv (pdTS xs) (pdTS ys) = decide (xs = ys) := by
  unfold pdTS
  rw [PyData.eqv]
  exact eqvAllS xs ys
theorem shapedTS {xs : List PySem.Str} (hx : ∀ x ∈ xs, PyData.strOk x = true) : SeqAt.shaped (pdTS xs) = true := by
  have h : PyData.depth (pdTS xs) = PyData.depthAll (xs.map PyData.str) + 1 := by unfold pdTS; rw [PyData.depth]
  have h2 : (pdTS xs).canLay0 = true := by unfold pdTS; rw [PyData.canLay0]; exact layS xs hx
  unfold SeqAt.shaped
  rw [h, depS, h2]; rfl
theorem dpTS {K : PySem.W.Frag} {H : Hp} {a : Addr} {xs : List PySem.Str} (h : SqT K H a (xs.map V.str)) : Dp K H (.ref a) (pdTS xs) := .tup h (dpAllS K H xs)
section
variable {K : PySem.W.Frag} {H : Hp} {p q : Addr} {xs ys : List PySem.Str}
theorem rv_eqSL (hp : SqL K H p (xs.map V.str)) (hq : SqL K H q (ys.map V.str)) (ox : ∀ x ∈ xs, PyData.strOk x = true) (oy : ∀ x ∈ ys, PyData.strOk x = true) : RV (rEqD K) (.ref p) (.ref q) H (.bl (decide (xs = ys))) := fun H1 e _ k =>
  ⟨_, _, dpS (ex_l e hp), dpS (ex_l e hq), shapedS ox, shapedS oy, by rw [eqvLS]; exact k H1 (Ex.refl _)⟩
theorem rv_neSL (hp : SqL K H p (xs.map V.str)) (hq : SqL K H q (ys.map V.str)) (ox : ∀ x ∈ xs, PyData.strOk x = true) (oy : ∀ x ∈ ys, PyData.strOk x = true) : RV (rNeD K) (.ref p) (.ref q) H (.bl (!decide (xs = ys))) := fun H1 e _ k =>
  ⟨_, _, dpS (ex_l e hp), dpS (ex_l e hq), shapedS ox, shapedS oy, by rw [eqvLS]; exact k H1 (Ex.refl _)⟩
theorem rv_eqST (hp : SqT K H p (xs.map V.str)) (hq : SqT K H q (ys.map V.str)) (ox : ∀ x ∈ xs, PyData.strOk x = true) (oy : ∀ x ∈ ys, PyData.strOk x = true) : RV (rEqD K) (.ref p) (.ref q) H (.bl (decide (xs = ys))) := fun H1 e _ k =>
  ⟨_, _, dpTS (ex_t e hp), dpTS (ex_t e hq), shapedTS ox, shapedTS oy, by rw [eqvTS]; exact k H1 (Ex.refl _)⟩
theorem rv_neST (hp : SqT K H p (xs.map V.str)) (hq : SqT K H q (ys.map V.str)) (ox : ∀ x ∈ xs, PyData.strOk x = true) (oy : ∀ x ∈ ys, PyData.strOk x = true) : RV (rNeD K) (.ref p) (.ref q) H (.bl (!decide (xs = ys))) := fun H1 e _ k =>
  ⟨_, _, dpTS (ex_t e hp), dpTS (ex_t e hq), shapedTS ox, shapedTS oy, by rw [eqvTS]; exact k H1 (Ex.refl _)⟩
end
theorem asc_eq {ys zs : List PySem.Str} (n1 : ys.Nodup) (n2 : zs.Nodup) (h1 : sortedS ys = true) (h2 : sortedS zs = true) (h : ∀ x, x ∈ ys ↔ x ∈ zs) : ys = zs := srt_eq (perm_nd n1 n2 h) h1 h2
theorem sorted_of_pw {ys : List PySem.Str} (h : ys.Pairwise fun a b => ltN a b) : sortedS ys = true := by
  refine sortedS_of_pairwise ys (h.imp fun {a b} z => ?_)
  rw [ltCps_eq]
  exact decide_eq_false (List.not_lt.mpr (List.le_of_lt z))
end Mc
namespace Mc
open PySem L2 PySem.Spec PyProof.Rows
def nN (p : PySem.Str) (j : Nat) : PySem.Str := p ++ PySem.Str.ofString (toString ((0 : Int) + (j : Int)))
def mN : Nat → PySem.Str := nN (PySem.Str.ofString "m")
def cN : Nat → PySem.Str := nN (PySem.Str.ofString "c")
theorem nN_small : ∀ j : Nat, j < 8 → ((0 : Int) + (j : Int)).natAbs.log2 < 1920 := by decide +kernel
theorem mN_len : ∀ j : Nat, j < 8 → (PySem.Str.ofString "m").length + (PySem.Str.ofString (toString ((0 : Int) + (j : Int)))).length ≤ sizeLine := by decide +kernel
theorem cN_len : ∀ j : Nat, j < 8 → (PySem.Str.ofString "c").length + (PySem.Str.ofString (toString ((0 : Int) + (j : Int)))).length ≤ sizeLine := by decide +kernel
theorem mN_ok : ∀ j : Nat, j < 8 → okN (mN j) := by decide +kernel
theorem cN_ok : ∀ j : Nat, j < 8 → okN (cN j) := by decide +kernel
theorem mN_inj : ∀ i, i < 8 → ∀ j, j < 8 → mN i = mN j → i = j := by decide +kernel
theorem cN_inj : ∀ i, i < 8 → ∀ j, j < 8 → cN i = cN j → i = j := by decide +kernel
theorem cN_lay : ∀ j : Nat, j < 8 → PyData.strOk (cN j) = true := by decide +kernel
theorem range_nd {f : Nat → PySem.Str} (h : ∀ i, i < 8 → ∀ j, j < 8 → f i = f j → i = j) {n : Nat} (hn : n ≤ 7) : ((List.range n).map f).Nodup := by
  rw [List.Nodup, List.pairwise_map]
  refine List.Pairwise.imp_of_mem (R := fun a b => a ≠ b) (fun {a b} ha hb z e => z (h a (by have := List.mem_range.mp ha; omega) b (by have := List.mem_range.mp hb; omega) e)) ?_
  exact List.nodup_range
def PT (f : β → V) (H : Hp) (as : List Addr) (rows : List (PySem.Str × β)) : Prop := as.length = rows.length ∧ ∀ (i : Nat) b r, as[i]? = some b → rows[i]? = some r → H b = some (.tup [.str r.1, f r.2])
theorem PT.keep {f : β → V} {H H' : Hp} {as : List Addr} {rows : List (PySem.Str × β)} (h : PT f H as rows) (k : ∀ b xs, H b = some (.tup xs) → H' b = some (.tup xs)) : PT f H' as rows := ⟨h.1, fun i b r e1 e2 => k _ _ (h.2 i b r e1 e2)⟩
theorem PT.snoc {f : β → V} {H : Hp} {as : List Addr} {rows : List (PySem.Str × β)} (h : PT f H as rows) {b : Addr} {r : PySem.Str × β} (hb : H b = some (.tup [.str r.1, f r.2])) : PT f H (as ++ [b]) (rows ++ [r]) := by
  refine ⟨by rw [List.length_append, List.length_append, h.1]; rfl, fun i c r' e1 e2 => ?_⟩
  by_cases hi : i < as.length
  · rw [List.getElem?_append_left hi] at e1
    rw [List.getElem?_append_left (by rw [← h.1]; exact hi)] at e2
    exact h.2 i c r' e1 e2
  · have hl := (List.getElem?_eq_some_iff.mp e1).1
    rw [List.length_append] at hl
    have ei : i = as.length := by simp at hl; omega
    rw [ei, List.getElem?_append_right (Nat.le_refl _), Nat.sub_self] at e1
    rw [ei, h.1, List.getElem?_append_right (Nat.le_refl _), Nat.sub_self] at e2
    cases Option.some.inj e1; cases Option.some.inj e2
    exact hb
theorem PT.paired {K : PySem.W.Frag} {f : β → V} {H : Hp} : ∀ {as : List Addr} {rows : List (PySem.Str × β)}, PT f H as rows → Paired (fun p kv => SqT K H p [kV kv.1, kv.2]) as (kvT f rows)
  | [], [], _ => .nil
  | a :: as, r :: rs, h => .cons (SqT.of (h.2 0 a r rfl rfl)) (PT.paired ⟨Nat.succ.inj h.1, fun i b y e1 e2 => h.2 (i + 1) b y e1 e2⟩)
  | [], _ :: _, h => nomatch h.1
  | _ :: _, [], h => nomatch h.1
theorem merge_T {f : β → V} {l : List (PySem.Str × β)} (nd : (keysT l).Nodup) : mergeK [] (kvT f l) = kvT f l := by
  have go : ∀ (b a : List (PySem.Str × β)), (keysT (a ++ b)).Nodup → mergeK (kvT f a) (kvT f b) = kvT f (a ++ b) := by
    intro b
    induction b with
    | nil => intro a _; rw [List.append_nil]; rfl
    | cons x b ih =>
      intro a nd
      have nx : x.1 ∉ keysT a := fun z => by
        unfold keysT at nd z
        rw [List.map_append] at nd
        exact (List.nodup_append.mp nd).2.2 _ z x.1 (by simp) rfl
      show mergeK (putK (kvT f a) (Sum.inr x.1) (f x.2)) (kvT f b) = _
      have e := put_new (f := f) (v := x.2) nx
      rw [e, ih (a ++ [(x.1, x.2)]) (by simpa using nd), List.append_assoc]
      rfl
  exact go l [] nd
def SmallS (chs : Chs) (cls : Cls') : Prop := 0 < chs.length ∧ (∀ x ∈ chs, x.2 ≤ 3) ∧ (∀ x ∈ cls, x.2.2.1 ≤ 2) ∧ ∀ m ∈ keysT chs, ∃ j, j < 4 ∧ m = mN j
end Mc
namespace Mc
open PySem L2 PySem.Spec PyProof.Rows
abbrev sLMasts : Stmt := top 35
abbrev sLHeard : Stmt := top 36
abbrev sLScene : Stmt := top 37
def spMasts (K : PySem.W.Frag) : Sp := fun vs H Q _ => ∃ (M : List Addr) (d a : Addr) (mm : Int), vs = [.ref d, .int mm] ∧ 1 ≤ mm ∧ mm ≤ 4 ∧ Dr K M d a H ∧ ∀ (p : Addr) (H' : Hp) (chs : Chs) (n : Nat), H p = none → H' p = some (.dK (kvT vI chs)) → 1 ≤ n → n ≤ 4 → keysT chs = (List.range n).map mN → (∀ x ∈ chs, 0 ≤ x.2 ∧ x.2 ≤ 3) →
  Dr K M d a H' → Kp [d] H H' → Q (.ref p) H'
structure TxW (mg : PySem.Str → Option Value) : Prop where
  range : mg "range" = none
  str : mg "str" = none
  dict : mg "dict" = none
section
variable {P : Program} {w : World} {K : PySem.W.Frag} {mg : PySem.Str → Option Value} {base : Heap}
theorem scLM : FnScope ["draw", "most", "number"] ["draw", "most"] (defScope sLMasts) := ⟨rfl, rfl, rfl, by decide +kernel, rfl, by decide +kernel, by decide +kernel⟩
theorem ok_lmasts {f : Addr} {fd : FuncData} (F : Fun K "_law_masts" "_law_masts" sLMasts f fd) (T : TxW mg) (c__law_take : Cal P w K mg base 2 "_law_take" ["draw", "many"] (spTake K)) (c__law_pick : Cal P w K mg base 3 "_law_pick" ["draw", "items"] (spPick K)) : FnOk P w K mg base CX0 4 f fd ["draw", "most"] (spMasts K) := by
  refine F.ok scLM (fun vs H Q E h => ?_) (fun cdv A outer s H vs Q E hr h => ?_)
  · obtain ⟨M, d, a, mm, rfl, _⟩ := h
    rfl
  · obtain ⟨M, d, a, mm, rfl, hm1, hm4, D0, q⟩ := h
    refine ⟨_, (pss_one (ps_ret (pe_callTy (call_dictP rfl) (by rfl) T.dict boot_dict (pa_cons (pe_lc (own := [("number", 2)]) (g := gName 2) (tt := tYes) rfl scLM.nd (pi_range1 (by rfl) T.range (pa_cons (pe_op op_add pe_int (pe_cal c__law_take (hr.mono (by decide)) rfl (pa_cons (pv 0) (pa_cons (pv 1) pa_nil)))) pa_nil)) (blkOk_by (own := [("number", 2)]) (N := ["draw", "most", "number"]) (sc := defScope sLMasts) (by decide +kernel)) (fun _ _ _ _ _ => pg_name (i := 2) scLM.nd rfl (Or.inl rfl)) (fun _ _ _ _ _ => pts_nil) (fun _ _ _ _ _ => (pe_tup (pa_cons (pe_op op_add_str pe_str (pe_callTy call_str_int (by rfl) T.str boot_str (pa_cons (pv 2) pa_nil))) (pa_cons (pe_cal c__law_pick (hr.mono (by decide)) rfl (pa_cons (pv 0) (pa_cons (pe_lst (pa_cons pe_int (pa_cons pe_int (pa_cons pe_int (pa_cons pe_int (pa_cons pe_int (pa_cons pe_int (pa_cons pe_int pa_nil)))))))) pa_nil))) pa_nil))))) pa_nil)))), ?_⟩
    refine ⟨_, rfl, _, rfl, M, d, a, mm, rfl, D0, by omega, fun v H1 h0 h4 D1 k1 => ?_⟩
    have hn4 : (1 + v).toNat ≤ 4 := by omega
    refine ⟨_, _, rfl, rfl, 1 + v, rfl, by omega, by omega, fun D hD => ?_⟩
    have dD : d ≠ D := by obtain ⟨⟨k, hk⟩, _⟩ := D1; exact ne_of_none hk hD
    refine lc_range (lo := 0) (n := (1 + v).toNat) (fun i H' => ∃ (as : List Addr) (rows : Chs), as.length = i ∧ keysT rows = (List.range i).map mN ∧ (∀ x ∈ rows, 0 ≤ x.2 ∧ x.2 ≤ 3) ∧ Dr K (D :: M) d a H' ∧ Kp [d] H1 H' ∧ H' D = some (.lst (as.map V.ref)) ∧ PT vI H' as rows)
      ⟨[], [], rfl, rfl, fun x h => (nomatch h), (D1.grow hD).new hD, Kp.new hD, upd_same, rfl, fun i b r e => (nomatch e)⟩ ?_ ?_
    · rintro i H2 hi ⟨as, rows, hla, hk, h03, D2, k2, hd2, hP⟩
      have hi4 : i < 4 := by omega
      refine ⟨rfl, _, rfl, (0 : Int) + (i : Int), rfl, nN_small i (by omega), _, _, rfl, rfl, mN_len i (by omega), _, rfl, (by show 7 ≤ sizeLine; decide), fun l hl => ?_⟩
      refine ⟨D :: M, d, a, l, _, rfl, D2.new hl, by decide, fun H' k' => .inl (SqL.of (k' _ _ upd_same ?_)), fun j x H3 hx D3 k3 => ?_⟩
      · intro z
        obtain ⟨⟨kk, hkk⟩, _⟩ := D2
        exact ne_of_none hkk hl (List.mem_singleton.mp z).symm
      · obtain ⟨n, rfl, n0, n3⟩ : ∃ n : Int, x = .int n ∧ 0 ≤ n ∧ n ≤ 3 := by
          have hm := List.mem_of_getElem? hx
          simp only [List.mem_cons, List.not_mem_nil, or_false] at hm
          rcases hm with rfl | rfl | rfl | rfl | rfl | rfl | rfl <;> exact ⟨_, rfl, by decide, by decide⟩
        have dl : d ≠ l := by obtain ⟨⟨kk, hkk⟩, _⟩ := D2; exact ne_of_none hkk hl
        have far : ∀ b o, H2 b = some o → b ≠ d → H3 b = some o := fun b o z nd => k3 b o (by rw [upd_ne (ne_of_none z hl)]; exact z) fun e => nd (List.mem_singleton.mp e)
        have hD3 := far D _ hd2 dD.symm
        have hdt : ∀ {b : Addr} {xs : List V}, H2 b = some (.tup xs) → b ≠ d := fun {b xs} z e => by
          obtain ⟨⟨kk, hkk⟩, _⟩ := D2
          rw [e, hkk] at z; cases z
        refine ⟨(by show 2 ≤ sizeLine; decide), fun b hb => ⟨_, by rw [upd_ne (ne_of_none hD3 hb)]; exact hD3, by rw [List.length_map, hla]; exact Nat.lt_trans hi4 (by decide), as ++ [b], rows ++ [(mN i, n)], by rw [List.length_append, hla]; rfl, ?_, fun y hy => ?_, ?_, fun y o z ny => ?_, by rw [upd_same, List.map_append]; rfl, ?_⟩⟩
        · unfold keysT at hk ⊢
          rw [List.map_append, hk, List.range_succ, List.map_append]; rfl
        · rcases List.mem_append.mp hy with hy | hy
          · exact h03 y hy
          · cases List.mem_singleton.mp hy; exact ⟨n0, n3⟩
        · exact (D3.new hb).keep (Kp.at (by simp)) fun o z => by rw [upd_ne dD]; exact z
        · have z2 := k2 y o z ny
          have nD : y ≠ D := ne_of_none z hD
          have z3 := far y o z2 fun e => ny (List.mem_singleton.mpr e)
          rw [upd_ne nD, upd_ne (ne_of_none z3 hb)]; exact z3
        · have nbD : b ≠ D := (ne_of_none hD3 hb).symm
          refine (hP.keep fun c xs z => ?_).snoc (by rw [upd_ne nbD]; exact upd_same)
          have cD : c ≠ D := fun e => by rw [e, hd2] at z; cases z
          have z3 := far c _ z (hdt z)
          rw [upd_ne cD, upd_ne (ne_of_none z3 hb)]; exact z3
    · rintro H2 ⟨as, rows, hla, hk, h03, D2, k2, hd2, hP⟩
      refine ⟨D, as, kvT vI rows, rfl, SqL.of hd2, hP.paired, fun p hp => ?_⟩
      have ndk : (keysT rows).Nodup := by rw [hk]; exact range_nd mN_inj (by omega)
      rw [merge_T ndk]
      have hp0 : H p = none := Classical.byContradiction fun z => by
        cases e : H p with
        | none => exact z e
        | some o =>
          by_cases pd : p = d
          · obtain ⟨⟨kk, hkk⟩, _⟩ := D2
            rw [pd, hkk] at hp; cases hp
          · have z1 := k1 p o e fun w => pd (List.mem_singleton.mp w)
            rw [k2 p o z1 fun w => pd (List.mem_singleton.mp w)] at hp; cases hp
      refine q p _ rows (1 + v).toNat hp0 upd_same (by omega) hn4 hk h03 ?_ fun b o z nb => ?_
      · exact (D2.sub (N := M) (fun b hb => List.mem_cons_of_mem _ hb) D0.mem).new hp
      · have z2 := k2 b o (k1 b o z nb) nb
        rw [upd_ne (ne_of_none z2 hp)]; exact z2
end
theorem Dr.lock {K : PySem.W.Frag} {M : List Addr} {d a ch : Addr} {H : Hp} {kvs : List (L2.Key × V)} (D : Dr K M d a H) (h : H ch = some (.dK kvs)) : Dr K (ch :: M) d a H := by
  obtain ⟨k0, m, ns, hl, hs⟩ := D
  refine ⟨k0, List.mem_cons_of_mem _ m, ns, hl, fun H' k => ?_⟩
  have s := hs (fun b => if b = ch then H ch else H' b) fun b o z nb => by
    by_cases e : b = ch
    · show (if b = ch then H ch else H' b) = _
      rw [if_pos e, ← e]; exact z
    · show (if b = ch then H ch else H' b) = _
      rw [if_neg e]; exact k b o z fun w => (List.mem_cons.mp w).elim e nb
  by_cases e : a = ch
  · rcases s with (s | ⟨o, s⟩) | s
    · have s : (if a = ch then H ch else H' a) = _ := s
      rw [if_pos e, h] at s; cases s
    · have s : (if a = ch then H ch else H' a) = _ := s
      rw [if_pos e, h] at s; cases s
    · exact .inr s
  · rcases s with (s | ⟨o, s⟩) | s
    · have s : (if a = ch then H ch else H' a) = _ := s
      rw [if_neg e] at s; exact .inl (.inl s)
    · have s : (if a = ch then H ch else H' a) = _ := s
      rw [if_neg e] at s; exact .inl (.inr ⟨o, s⟩)
    · exact .inr s
def spHeard (K : PySem.W.Frag) : Sp := fun vs H Q _ => ∃ (M : List Addr) (d a ch : Addr) (chs : Chs), vs = [.ref d, .ref ch] ∧ Dr K M d a H ∧ H ch = some (.dK (kvT vI chs)) ∧ chs.length < 64 ∧
  ∀ (p : Addr) (H' : Hp) (hs : List PySem.Str), H p = none → H' p = some (.lst (hs.map V.str)) → hs.Sublist (keysT chs) → Dr K M d a H' → Kp [d] H H' → Q (.ref p) H'
section
variable {P : Program} {w : World} {K : PySem.W.Frag} {mg : PySem.Str → Option Value} {base : Heap}
theorem scLHd : FnScope ["draw", "channels", "mast"] ["draw", "channels"] (defScope sLHeard) := ⟨rfl, rfl, rfl, by decide +kernel, rfl, by decide +kernel, by decide +kernel⟩
theorem ok_lheard {f : Addr} {fd : FuncData} (F : Fun K "_law_heard" "_law_heard" sLHeard f fd) (c__law_take : Cal P w K mg base 2 "_law_take" ["draw", "many"] (spTake K)) : FnOk P w K mg base CX0 3 f fd ["draw", "channels"] (spHeard K) := by
  refine F.ok scLHd (fun vs H Q E h => ?_) (fun cdv A outer s H vs Q E hr h => ?_)
  · obtain ⟨M, d, a, ch, chs, rfl, _⟩ := h
    rfl
  · obtain ⟨M, d, a, ch, chs, rfl, D0, hch, hlen, q⟩ := h
    refine ⟨_, (pss_one (ps_ret (pe_lock (pe_lc (own := [("mast", 2)]) (g := gName 2) rfl scLHd.nd (pi_keys (pv 1)) (blkOk_by (own := [("mast", 2)]) (N := ["draw", "channels", "mast"]) (sc := defScope sLHeard) (by decide +kernel)) (fun _ _ _ _ _ => pg_name (i := 2) scLHd.nd rfl (Or.inl rfl)) (fun _ _ _ _ _ => pts_one (pt_cmpR op_eq (pe_cal c__law_take (hr.mono (by decide)) rfl (pa_cons (pv 0) (pa_cons pe_int pa_nil))) pe_int (nomark _))) (fun _ _ _ _ _ => (pv 2)))))), ?_⟩
    have dch : d ≠ ch := fun e => by obtain ⟨⟨k, hk⟩, _⟩ := D0; rw [e, hch] at hk; cases hk
    refine ⟨ch, _, hch, trivial, fun od => ⟨_, rfl, ch, od, rfl, .inl ⟨_, upd_same, fun D hD => ?_⟩⟩⟩
    have DL : Dr K (ch :: M) d a (upd H ch (.frz od (.dK (kvT vI chs)))) := (D0.lock hch).keep (Kp.at (by simp)) fun o z => by rw [upd_ne dch]; exact z
    have dD : d ≠ D := by obtain ⟨⟨k, hk⟩, _⟩ := DL; exact ne_of_none hk hD
    have cD : ch ≠ D := ne_of_none (show (upd H ch (.frz od (.dK (kvT vI chs)))) ch = some _ from upd_same) hD
    have hD0 : H D = none := by rw [upd_ne cD.symm] at hD; exact hD
    refine lc_it walk_keys (fun i H' => ∃ hs : List PySem.Str, hs.Sublist ((keysT chs).take i) ∧ Dr K (D :: ch :: M) d a H' ∧ Kp [d] (upd H ch (.frz od (.dK (kvT vI chs)))) H' ∧ H' D = some (.lst (hs.map V.str))) ⟨[], List.Sublist.refl _, (DL.grow hD).new hD, Kp.new hD, upd_same⟩
      (fun i H' _ ⟨hs, _, _, k, _⟩ => k ch _ upd_same fun e => dch (List.mem_singleton.mp e).symm) ?_ ?_
    · rintro i v _ H1 hi ⟨hs, hsub, D1, k1, hd1⟩ ⟨rfl, kk, v', hk, rfl⟩
      obtain ⟨z, hz, rfl, rfl⟩ := kvT_get hk
      have et : (keysT chs).take (i + 1) = (keysT chs).take i ++ [z.1] := by unfold keysT; rw [List.take_add_one, List.getElem?_map, hz]; rfl
      refine ⟨rfl, _, rfl, D :: ch :: M, d, a, 2, rfl, D1, by decide, fun v H2 _ _ D2 k2 => ⟨rfl, _, rfl, ?_⟩⟩
      have hd2 := k2 D _ hd1 fun e => dD (List.mem_singleton.mp e).symm
      refine ite2 (fun h => ?_) (fun h => ?_)
      · refine ⟨_, rfl, _, hd2, ?_, hs ++ [z.1], ?_, ?_, fun b o e nb => ?_, by rw [upd_same, List.map_append]; rfl⟩
        · rw [List.length_map]
          exact Nat.lt_of_le_of_lt (Nat.le_trans hsub.length_le (by rw [List.length_take]; exact Nat.min_le_right _ _)) (by unfold keysT; rw [List.length_map]; exact Nat.lt_trans hlen (by decide))
        · rw [et]; exact hsub.append (List.Sublist.refl _)
        · exact D2.keep (Kp.at (by simp)) fun o z => by rw [upd_ne dD]; exact z
        · rw [upd_ne (ne_of_none e hD)]; exact k2 b o (k1 b o e nb) nb
      · exact ⟨hs, by rw [et]; exact hsub.trans (List.sublist_append_left _ _), D2, k1.trans k2, hd2⟩
    · rintro H1 ⟨hs, hsub, D1, k1, hd1⟩
      rw [show (kvT vI chs).length = (keysT chs).length by unfold kvT keysT; rw [List.length_map, List.length_map], List.take_length] at hsub
      have hc1 := k1 ch _ upd_same fun e => dch (List.mem_singleton.mp e).symm
      refine ⟨hc1, ?_⟩
      refine q D _ hs hD0 (by rw [upd_ne cD.symm]; exact hd1) hsub ?_ fun b o z nb => ?_
      · exact (D1.keep (Kp.at (by simp)) fun o z => by rw [upd_ne dch]; exact z).sub (fun b hb => by simp [hb]) D0.mem
      · by_cases e : b = ch
        · rw [e, upd_same, ← hch, ← e]; exact z
        · rw [upd_ne e]; exact k1 b o (by rw [upd_ne e]; exact z) nb
end
theorem nolst {H : Hp} {d a : Addr} {M : List Addr} {K : PySem.W.Frag} (D : Dr K M d a H) {b : Addr} {o : HO} (z : H b = some o) (n : ∀ l, o ≠ .lst l) : b ∉ [d] := fun e => by
  obtain ⟨⟨k, hk⟩, _⟩ := D
  rw [List.mem_singleton.mp e, hk] at z
  exact n _ (Option.some.inj z).symm
theorem CallH.kp {K : PySem.W.Frag} {C : Addr} {H H' : Hp} {o : Addr} {wt : Int} {hs : List PySem.Str} {M : List Addr} (h : CallH K C H o wt hs) (k : Kp M H H') (n : ∀ b o, H b = some o → (∀ l, o ≠ .lst l) → b ∉ M ∨ H' b = some o) : CallH K C H' o wt hs := by
  obtain ⟨dx, q, a, b⟩ := h.here
  exact ⟨dx, q, (n _ _ a (fun _ e => by cases e)).elim (k _ _ a) id, (n _ _ b (fun _ e => by cases e)).elim (k _ _ b) id⟩
def spScene (K : PySem.W.Frag) (CS CC : Addr) : Sp := fun vs H Q _ => ∃ (M : List Addr) (d a : Addr) (mm n : Int), vs = [.ref d, .int mm, .int n] ∧ 1 ≤ mm ∧ mm ≤ 4 ∧ 0 ≤ n ∧ n ≤ 7 ∧ Dr K M d a H ∧
  ∀ (sc : Addr) (H' : Hp) (chs : Chs) (cls : Cls'), H sc = none → SceneH K CS CC H' sc chs cls → ScnX CS H' sc chs cls → OkC chs cls → (∀ x ∈ keysT cls, ∃ j, j < 8 ∧ x = cN j) → cls.length ≤ 7 → chs.length ≤ 4 → SmallS chs cls → Dr K M d a H' → Kp [d] H H' → Q (.ref sc) H'
section
variable {P : Program} {w : World} {K : PySem.W.Frag} {mg : PySem.Str → Option Value} {base : Heap}
theorem scLS : FnScope ["draw", "masts", "calls", "channels", "found", "number"] ["draw", "masts", "calls"] (defScope sLScene) := ⟨rfl, rfl, rfl, by decide +kernel, rfl, by decide +kernel, by decide +kernel⟩
theorem ok_lscene {f CS CC : Addr} {fd : FuncData} (F : Fun K "_law_scene" "_law_scene" sLScene f fd) (T : TxW mg) (c__law_take : Cal P w K mg base 2 "_law_take" ["draw", "many"] (spTake K)) (c__law_masts : Cal P w K mg base 4 "_law_masts" ["draw", "most"] (spMasts K))
    (c__law_heard : Cal P w K mg base 3 "_law_heard" ["draw", "channels"] (spHeard K)) (c_Call : CalI P w K mg base CC 1 "Call" ["self", "worth", "heard"] (spCInit K CC)) (c_Scene : CalI P w K mg base CS 4 "Scene" ["self", "channels", "calls"] (spSInit K CS CC)) :
    FnOk P w K mg base CX0 6 f fd ["draw", "masts", "calls"] (spScene K CS CC) := by
  refine F.ok scLS (fun vs H Q E h => ?_) (fun cdv A outer s H vs Q E hr h => ?_)
  · obtain ⟨M, d, a, mm, n, rfl, _⟩ := h
    rfl
  · obtain ⟨M, d, a, mm, n, rfl, hm1, hm4, hn0, hn6, D0, q⟩ := h
    have hu := hu_of hr
    refine ⟨_, (pss_cons (ps_par (i := 3) (j := 4) rfl scLS.nd rfl rfl (by decide) rfl rfl (pa_cons (pe_cal c__law_masts (hr.mono (by decide)) rfl (pa_cons (pv 0) (pa_cons (pv 1) pa_nil))) (pa_cons pe_dnewK pa_nil)) (by rfl))
      (pss_cons (ps_for PassesOwn.never rfl (pi_range1 (by rfl) T.range (pa_cons (pe_cal c__law_take (hr.mono (by decide)) rfl (pa_cons (pv 0) (pa_cons (pe_op op_add (pv 2) pe_int) pa_nil))) pa_nil)) (pg_name (i := 5) scLS.nd rfl (Or.inl rfl))
        (pss_one (ps_dput hu (pv 4) (pe_op op_add_str pe_str (pe_callTy call_str_int (by rfl) T.str boot_str (pa_cons (pv 5) pa_nil))) (pe_calI c_Call (hr.mono (by decide)) rfl (pa_cons (pe_cal c__law_take (hr.mono (by decide)) rfl (pa_cons (pv 0) (pa_cons pe_int pa_nil))) (pa_cons (pe_cal c__law_heard (hr.mono (by decide)) rfl (pa_cons (pv 0) (pa_cons (pv 3) pa_nil))) pa_nil))) rfl)))
      (pss_one (ps_ret (pe_calI c_Scene (hr.mono (by decide)) rfl (pa_cons (pv 3) (pa_cons (pv 4) pa_nil))))))), ?_⟩
    refine ⟨_, rfl, _, rfl, M, d, a, mm, rfl, hm1, hm4, D0, fun ch H1 chs nm hch0 hch n1 n4 hk h03 D1 k1 => ?_⟩
    intro f hf
    have chf : ch ≠ f := ne_of_none hch hf
    refine ⟨_, _, rfl, ?_⟩
    have s2 : Same H1 (upd H1 f (.dK [])) := fun b o z => by rw [upd_ne (ne_of_none z hf)]; exact z
    have hf2 : (upd H1 f (.dK [])) f = some (.dK []) := upd_same
    generalize (upd H1 f (.dK [])) = H2 at s2 hf2 ⊢
    have D2 := (D1.same s2).lock hf2
    have hch2 := s2 _ _ hch
    have ndk : (keysT chs).Nodup := by rw [hk]; exact range_nd mN_inj (by omega)
    have lenk : chs.length ≤ 4 := by have := congrArg List.length hk; unfold keysT at this; simp at this; omega
    have dlst : ∀ {H' M'}, Dr K M' d a H' → ∀ {b o}, H' b = some o → (∀ l, o ≠ .lst l) → b ≠ d := fun D b o z n e => nolst D z n (by rw [e]; simp)
    refine ⟨_, rfl, _, rfl, _, _, rfl, rfl, f :: M, d, a, n + 1, rfl, D2, by omega, fun v H3 v0 v1 D3 k3 => ⟨v, rfl, by omega, by omega, ?_⟩⟩
    have df : d ≠ f := (dlst D2 hf2 (fun _ e => by cases e)).symm
    have hf3 := k3 f _ hf2 fun e => df (List.mem_singleton.mp e).symm
    have hch3 := k3 ch _ hch2 (nolst D2 hch2 fun _ e => by cases e)
    refine for_range (lo := 0) (n := v.toNat) (fun i σ H' => ∃ cls v5, σ = [some (.ref d), some (.int mm), some (.int n), some (.ref ch), some (.ref f), v5] ∧ Dr K (f :: M) d a H' ∧ Kp [d, f] H3 H' ∧ H' f = some (.dK (kvT vO cls)) ∧ keysT cls = (List.range i).map cN ∧ CallsH K CC H' cls ∧
      ∀ x ∈ cls, 0 ≤ x.2.2.1 ∧ x.2.2.1 ≤ 2 ∧ x.2.2.2.Nodup ∧ x.2.2.2.length < 64 ∧ ∀ m ∈ x.2.2.2, m ∈ keysT chs) ⟨[], _, rfl, D3, Kp.refl _ _, hf3, rfl, fun x h => (nomatch h), fun x h => (nomatch h)⟩ ?_ ?_
    · rintro i σ H4 hi ⟨cls, v5, rfl, D4, k4, hf4, hk4, hC4, hg4⟩
      have hi6 : i < 8 := by omega
      have hch4 := k4 ch _ hch3 (by simp; exact ⟨dlst D3 hch3 (fun _ e => by cases e), chf⟩)
      refine ⟨_, rfl, f :: M, d, a, 3, rfl, D4, by decide, fun wt H5 w0 w3 D5 k5 => ?_⟩
      have hch5 := k5 ch _ hch4 (nolst D4 hch4 fun _ e => by cases e)
      refine ⟨_, rfl, _, rfl, f :: M, d, a, ch, chs, rfl, D5, hch5, by omega, fun l H6 hs hl0 hl hsub D6 k6 => ?_⟩
      intro p dx hp hdx ndx
      have ndh : hs.Nodup := hsub.nodup ndk
      have lenh : hs.length < 64 := Nat.lt_of_le_of_lt hsub.length_le (by unfold keysT; rw [List.length_map]; omega)
      have s67 : Same H6 (upd (upd H6 dx (.own p)) p (.ins CC dx [])) := fun b o z => by rw [upd_ne (ne_of_none z hp), upd_ne (ne_of_none z hdx)]; exact z
      have hp7 : (upd (upd H6 dx (.own p)) p (.ins CC dx [])) p = some (.ins CC dx []) := upd_same
      generalize (upd (upd H6 dx (.own p)) p (.ins CC dx [])) = H7 at s67 hp7 ⊢
      refine ⟨p, dx, l, wt, hs, rfl, hp7, s67 _ _ hl, lenh, fun ys H8 hperm _ hcall k8 => ⟨rfl, ?_⟩⟩
      have s68 : Same H6 H8 := fun b o z => k8 b o (s67 _ _ z) fun e => by rw [List.mem_singleton.mp e, hp] at z; cases z
      have far : ∀ b o, H4 b = some o → b ≠ d → H8 b = some o := fun b o z n => s68 _ _ (k6 b o (k5 b o z fun e => n (List.mem_singleton.mp e)) fun e => n (List.mem_singleton.mp e))
      have D8 := D6.same s68
      have hf8 := far f _ hf4 df.symm
      have nk : cN i ∉ keysT cls := fun z => by
        rw [hk4] at z
        obtain ⟨j, hj, e⟩ := List.mem_map.mp z
        have hj' := List.mem_range.mp hj
        have := cN_inj j (by omega) i hi6 e
        omega
      have lenc : cls.length = i := by have := congrArg List.length hk4; unfold keysT at this; simpa using this
      refine ⟨_, rfl, _, rfl, (0 : Int) + (i : Int), rfl, nN_small i hi6, _, _, rfl, rfl, cN_len i hi6, f, _, rfl, DPut.k (k := Sum.inr (cN i)) hf8 (by unfold kvT; rw [List.length_map, lenc]; exact Nat.lt_trans hi6 (by decide)), ?_⟩
      have ep := put_new (f := vO) (v := ((p, wt, ys) : CD)) nk
      refine ⟨cls ++ [(cN i, (p, wt, ys))], _, rfl, D8.keep (Kp.at (by simp)) fun o z => by rw [upd_ne df]; exact z, fun b o z nb => ?_, by rw [upd_same]; exact congrArg _ (congrArg _ ep), ?_, fun x hx => ?_, fun x hx => ?_⟩
      · have nb' : b ≠ d ∧ b ≠ f := by simp at nb; exact nb
        rw [upd_ne nb'.2]; exact far b o (k4 b o z nb) nb'.1
      · unfold keysT at hk4 ⊢
        rw [List.map_append, hk4, List.range_succ, List.map_append]; rfl
      · rcases List.mem_append.mp hx with hx | hx
        · obtain ⟨dx', h', a1, a2⟩ := (hC4 x hx).here
          have f1 : x.2.1 ≠ f := fun e => by rw [e, hf4] at a1; cases a1
          have f2 : h' ≠ f := fun e => by rw [e, hf4] at a2; cases a2
          exact ⟨dx', h', by rw [upd_ne f1]; exact far _ _ a1 (dlst D4 a1 fun _ e => by cases e), by rw [upd_ne f2]; exact far _ _ a2 (dlst D4 a2 fun _ e => by cases e)⟩
        · cases List.mem_singleton.mp hx
          obtain ⟨dx', h', a1, a2⟩ := hcall.here
          have f1 : p ≠ f := fun e => by rw [e, hf8] at a1; cases a1
          have f2 : h' ≠ f := fun e => by rw [e, hf8] at a2; cases a2
          exact ⟨dx', h', by show upd _ _ _ p = _; rw [upd_ne f1]; exact a1, by rw [upd_ne f2]; exact a2⟩
      · rcases List.mem_append.mp hx with hx | hx
        · exact hg4 x hx
        · cases List.mem_singleton.mp hx
          exact ⟨w0, by show wt ≤ 2; omega, hperm.nodup_iff.mpr ndh, by show ys.length < 64; rw [hperm.length_eq]; exact lenh, fun m hm => hsub.subset (hperm.mem_iff.mp hm)⟩
    · rintro σ H4 ⟨cls, v5, rfl, D4, k4, hf4, hk4, hC4, hg4⟩
      have hch4 := k4 ch _ hch3 (by simp; exact ⟨dlst D3 hch3 (fun _ e => by cases e), chf⟩)
      have lenc : cls.length = v.toNat := by have := congrArg List.length hk4; unfold keysT at this; simpa using this
      have ok : OkC chs cls := by
        refine ⟨ndk, by rw [hk4]; exact range_nd cN_inj (by omega), by omega, by omega, fun x hx => ?_, fun x hx => ?_⟩
        · have hm : x.1 ∈ keysT chs := List.mem_map.mpr ⟨x, hx, rfl⟩
          rw [hk] at hm
          obtain ⟨j, hj, e⟩ := List.mem_map.mp hm
          have hj' := List.mem_range.mp hj
          exact ⟨by rw [← e]; exact mN_ok j (by omega), (h03 x hx).1, by have := (h03 x hx).2; omega⟩
        · have hm : x.1 ∈ keysT cls := List.mem_map.mpr ⟨x, hx, rfl⟩
          rw [hk4] at hm
          obtain ⟨j, hj, e⟩ := List.mem_map.mp hm
          have hj' := List.mem_range.mp hj
          obtain ⟨g1, g2, g3, g4, g5⟩ := hg4 x hx
          exact ⟨by rw [← e]; exact cN_ok j (by omega), g1, by omega, g3, g4, g5⟩
      refine ⟨_, rfl, _, rfl, ?_⟩
      intro p dx hp hdx ndx
      have s45 : Same H4 (upd (upd H4 dx (.own p)) p (.ins CS dx [])) := fun b o z => by rw [upd_ne (ne_of_none z hp), upd_ne (ne_of_none z hdx)]; exact z
      have hp5 : (upd (upd H4 dx (.own p)) p (.ins CS dx [])) p = some (.ins CS dx []) := upd_same
      generalize (upd (upd H4 dx (.own p)) p (.ins CS dx [])) = H5 at s45 hp5 ⊢
      refine ⟨p, dx, ch, f, chs, cls, rfl, chf, hp5, s45 _ _ hch4, s45 _ _ hf4, ok, hC4.same s45, fun chs' cls' H6 pc1 pc2 hSc hXc k6 => ⟨rfl, ?_⟩⟩
      have s46 : Same H4 H6 := fun b o z => k6 b o (s45 _ _ z) fun e => by rw [List.mem_singleton.mp e, hp] at z; cases z
      have far : ∀ b o, H b = some o → b ≠ d → H4 b = some o := fun b o z n => by
        have z1 := k1 b o z fun e => n (List.mem_singleton.mp e)
        have nf : b ≠ f := ne_of_none z1 hf
        exact k4 b o (k3 b o (s2 b o z1) fun e => n (List.mem_singleton.mp e)) (by simp; exact ⟨n, nf⟩)
      have hp0 : H p = none := Classical.byContradiction fun z => by
        cases e : H p with
        | none => exact z e
        | some o =>
          have pd : p ≠ d := fun w => by
            obtain ⟨⟨kk, hkk⟩, _⟩ := D4
            rw [w, hkk] at hp; cases hp
          rw [far p o e pd] at hp; cases hp
      have kc1 : (keysT chs').Perm (keysT chs) := pc1.map _
      have kc2 : (keysT cls').Perm (keysT cls) := pc2.map _
      have ok' : OkC chs' cls' := by
        refine ⟨kc1.nodup_iff.mpr ok.nd, kc2.nodup_iff.mpr ok.ndc, by rw [pc1.length_eq]; exact ok.len, by rw [pc2.length_eq]; exact ok.lenc, fun x hx => ok.ch x (pc1.mem_iff.mp hx), fun x hx => ?_⟩
        obtain ⟨g0, g1, g2, g3, g4, g5⟩ := ok.cl x (pc2.mem_iff.mp hx)
        exact ⟨g0, g1, g2, g3, g4, fun m hm => kc1.mem_iff.mpr (g5 m hm)⟩
      refine q p H6 chs' cls' hp0 hSc hXc ok' (fun x hx => ?_) (by rw [pc2.length_eq, lenc]; omega) (by rw [pc1.length_eq]; exact lenk) ⟨by rw [pc1.length_eq]; have := congrArg List.length hk; unfold keysT at this; simp at this; omega, fun x hx => (h03 x (pc1.mem_iff.mp hx)).2, fun x hx => (hg4 x (pc2.mem_iff.mp hx)).2.1, fun m hm => by
        have hm := kc1.mem_iff.mp hm
        rw [hk] at hm
        obtain ⟨j, hj, e⟩ := List.mem_map.mp hm
        exact ⟨j, by have := List.mem_range.mp hj; omega, e.symm⟩⟩ ((D4.same s46).sub (N := M) (fun b hb => List.mem_cons_of_mem _ hb) D0.mem) fun b o z nb => s46 _ _ (far b o z fun e => nb (List.mem_singleton.mpr e))
      have hm := kc2.mem_iff.mp hx
      rw [hk4] at hm
      obtain ⟨j, hj, e⟩ := List.mem_map.mp hm
      exact ⟨j, by have := List.mem_range.mp hj; omega, e.symm⟩
end
end Mc
namespace Mc.Gd
section
variable {α : Type} [DecidableEq α]
/-! ### seatable rows: the exchange, the greedy row, what more room and fewer calls do -/
def cntF (A : List α) (f : α → α) (m : α) : Nat := (A.filter fun c => decide (f c = m)).length
theorem cntF_nil (f : α → α) (m : α) : cntF [] f m = 0 := rfl
theorem cntF_cons (a : α) (A : List α) (f : α → α) (m : α) : cntF (a :: A) f m = (if f a = m then 1 else 0) + cntF A f m := by
  unfold cntF
  rw [List.filter_cons]
  by_cases e : f a = m
  · rw [if_pos e, if_pos (decide_eq_true e), List.length_cons]; omega
  · rw [if_neg e, if_neg (by simp [e])]; omega
theorem cntF_app (A B : List α) (f : α → α) (m : α) : cntF (A ++ B) f m = cntF A f m + cntF B f m := by
  unfold cntF
  rw [List.filter_append, List.length_append]
theorem cntF_pos {A : List α} {f : α → α} {m : α} (h : 0 < cntF A f m) : ∃ a ∈ A, f a = m := by
  obtain ⟨a, ha⟩ := List.exists_mem_of_length_pos h
  exact ⟨a, (List.mem_filter.mp ha).1, of_decide_eq_true (List.mem_filter.mp ha).2⟩
theorem cntF_congr {A : List α} {f g : α → α} {m : α} (h : ∀ a ∈ A, f a = g a) : cntF A f m = cntF A g m := by
  unfold cntF
  rw [List.filter_congr fun a ha => by rw [h a ha]]
/-- counts at each place of R bound the lengths -/
theorem cnt_len (R : α → Prop) [DecidablePred R] (f g : α → α) : ∀ (B A : List α), (∀ b ∈ B, R (f b)) → (∀ m, R m → cntF B f m ≤ cntF A g m) → B.length ≤ (A.filter fun a => decide (R (g a))).length
  | [], _, _, _ => Nat.zero_le _
  | b :: B, A, h, k => by
    have hb := h b (by simp)
    have k0 := k _ hb
    rw [cntF_cons, if_pos rfl] at k0
    obtain ⟨a, ha, e⟩ := cntF_pos (A := A) (f := g) (m := f b) (by omega)
    obtain ⟨A1, A2, rfl⟩ := List.append_of_mem ha
    have ih := cnt_len R f g B (A1 ++ A2) (fun x hx => h x (List.mem_cons_of_mem _ hx)) fun m hm => by
      have := k m hm
      rw [cntF_cons, cntF_app, cntF_cons, e] at this
      rw [cntF_app]
      split at this <;> omega
    rw [List.filter_append, List.length_append] at ih ⊢
    rw [List.filter_cons, if_pos (by rw [e]; exact decide_eq_true hb), List.length_cons, List.length_cons]
    omega
/-- the masts that are come to in n moves from some calls Z, J seated by T -/
def Dl (X : Sc α) (Z J : List α) (T : α → α) : Nat → α → Prop
  | 0, m => ∃ z ∈ Z, m ∈ X.heard z
  | n + 1, m => ∃ c ∈ J, Dl X Z J T n (T c) ∧ m ∈ X.heard c
theorem right_cnt {X : Sc α} {J : List α} {T : α → α} (h : Right X J T) (m : α) : cntF J T m ≤ X.cap m := h.2 m
theorem cnt_set {J : List α} (nd : J.Nodup) {T : α → α} {c m : α} (hc : c ∈ J) (x : α) (hm : T c ≠ m) : cntF J (fun y => if y = c then m else T y) x = if x = m then cntF J T x + 1 else if x = T c then cntF J T x - 1 else cntF J T x := by
  obtain ⟨A, B, rfl⟩ := List.append_of_mem hc
  have h := List.nodup_append.mp nd
  have nA : ∀ y ∈ A, y ≠ c := fun y hy e => h.2.2 y hy c (by simp) e
  have nB : ∀ y ∈ B, y ≠ c := fun y hy e => (List.nodup_cons.mp h.2.1).1 (by rw [← e]; exact hy)
  have eA : cntF A (fun y => if y = c then m else T y) x = cntF A T x := cntF_congr fun a ha => if_neg (nA a ha)
  have eB : cntF B (fun y => if y = c then m else T y) x = cntF B T x := cntF_congr fun a ha => if_neg (nB a ha)
  rw [cntF_app, cntF_cons, cntF_app, cntF_cons, eA, eB, if_pos rfl]
  by_cases e1 : x = m
  · subst e1
    rw [if_pos rfl, if_pos rfl, if_neg hm]; omega
  · rw [if_neg (Ne.symm e1), if_neg e1]
    by_cases e2 : x = T c
    · rw [if_pos e2.symm, if_pos e2]; omega
    · rw [if_neg (Ne.symm e2), if_neg e2]
theorem Dl.moved {X : Sc α} {Z J : List α} {T : α → α} {c m : α} : ∀ {j : Nat} {x : α}, Dl X Z J T j x → (∀ i, i < j → ¬ Dl X Z J T i (T c)) → Dl X Z J (fun y => if y = c then m else T y) j x
  | 0, _, h, _ => h
  | j + 1, x, ⟨d, hd, h, hx⟩, k => by
    have ne : d ≠ c := fun e => by subst e; exact k j (Nat.lt_succ_self _) h
    refine ⟨d, hd, ?_, hx⟩
    show Dl X Z J _ j (if d = c then m else T d)
    rw [if_neg ne]
    exact Dl.moved h fun i hi => k i (Nat.lt_succ_of_lt hi)
theorem aug {X : Sc α} {Z J : List α} (nd : J.Nodup) : ∀ (n : Nat) (T : α → α) (m : α), Right X J T → Dl X Z J T n m → cntF J T m < X.cap m → (∀ z ∈ Z, z ∉ J) → ∃ z ∈ Z, Seatable X (J ++ [z]) := by
  intro n
  induction n using Nat.strongRecOn with
  | ind n ih =>
    intro T m hT hD hr hZ
    cases n with
    | zero =>
      obtain ⟨z, hz, hm⟩ := hD
      refine ⟨z, hz, fun y => if y = z then m else T y, fun c hc => ?_, fun x => ?_⟩
      · rcases List.mem_append.mp hc with h | h
        · show (if c = z then m else T c) ∈ _
          rw [if_neg (fun (e : c = z) => hZ z hz (e ▸ h))]
          exact hT.1 c h
        · obtain rfl := List.mem_singleton.mp h
          show (if c = c then m else T c) ∈ _
          rw [if_pos rfl]
          exact hm
      · show cntF (J ++ [z]) (fun y => if y = z then m else T y) x ≤ _
        rw [cntF_app, cntF_cons, cntF_nil, if_pos rfl, cntF_congr (g := T) fun a ha => if_neg (fun (e : a = z) => hZ z hz (e ▸ ha))]
        have := right_cnt hT x
        split
        · rename_i e; subst e; omega
        · omega
    | succ n =>
      obtain ⟨c, hc, hDc, hm⟩ := hD
      by_cases early : ∃ i, i < n + 1 ∧ ∃ m', Dl X Z J T i m' ∧ cntF J T m' < X.cap m'
      · obtain ⟨i, hi, m', h1, h2⟩ := early
        exact ih i hi T m' hT h1 h2 hZ
      · have no : ∀ i, i < n → ¬ Dl X Z J T i (T c) := fun i hi z => early ⟨i + 1, by omega, m, ⟨c, hc, z, hm⟩, hr⟩
        have full : ¬ cntF J T (T c) < X.cap (T c) := fun z => early ⟨n, Nat.lt_succ_self _, T c, hDc, z⟩
        have ne : T c ≠ m := fun e => full (by rw [e]; exact hr)
        refine ih n (Nat.lt_succ_self _) (fun y => if y = c then m else T y) (T c) ⟨fun y hy => ?_, fun x => ?_⟩ (Dl.moved hDc no) ?_ hZ
        · by_cases e : y = c
          · subst e
            show (if y = y then m else T y) ∈ _
            rw [if_pos rfl]; exact hm
          · show (if y = c then m else T y) ∈ _
            rw [if_neg e]; exact hT.1 y hy
        · show cntF J (fun y => if y = c then m else T y) x ≤ _
          rw [cnt_set nd hc x ne]
          have := right_cnt hT x
          split
          · rename_i e; subst e; omega
          · split <;> omega
        · rw [cnt_set nd hc (T c) ne, if_neg ne, if_pos rfl]
          have h1 := right_cnt hT (T c)
          have h2 : 0 < cntF J T (T c) := by
            unfold cntF
            exact List.length_pos_of_mem (List.mem_filter.mpr ⟨hc, by simp⟩)
          omega
/-- what is come to is full, where nobody of Z can be added -/
theorem full_of {X : Sc α} {Z J : List α} (nd : J.Nodup) {T : α → α} (hT : Right X J T) (hZ : ∀ z ∈ Z, z ∉ J) (no : ∀ z ∈ Z, ¬ Seatable X (J ++ [z])) {m : α} (h : ∃ n, Dl X Z J T n m) : X.cap m ≤ cntF J T m := by
  obtain ⟨n, h⟩ := h
  refine Nat.le_of_not_lt fun z => ?_
  obtain ⟨y, hy, q⟩ := aug nd n T m hT h z hZ
  exact no y hy q
open Classical in
theorem exch {X : Sc α} {A B : List α} (na : A.Nodup) (nb : B.Nodup) (hA : Seatable X A) (hB : Seatable X B) (hl : A.length < B.length) : ∃ b ∈ B, b ∉ A ∧ Seatable X (A ++ [b]) := by
  refine Classical.byContradiction fun con => ?_
  obtain ⟨T, hT⟩ := hA
  obtain ⟨U, hU⟩ := hB
  have hZ : ∀ z ∈ B.filter (fun b => decide (b ∉ A)), z ∉ A := fun z hz => of_decide_eq_true (List.mem_filter.mp hz).2
  have no : ∀ z ∈ B.filter (fun b => decide (b ∉ A)), ¬ Seatable X (A ++ [z]) := fun z hz q => con ⟨z, (List.mem_filter.mp hz).1, hZ z hz, q⟩
  let R : α → Prop := fun m => ∃ n, Dl X (B.filter (fun b => decide (b ∉ A))) A T n m
  have hfull : ∀ m, R m → X.cap m ≤ cntF A T m := fun m hm => full_of na hT hZ no hm
  have hsrc : ∀ b ∈ B, b ∉ A → R (U b) := fun b hb hn => ⟨0, b, List.mem_filter.mpr ⟨hb, decide_eq_true hn⟩, hU.1 b hb⟩
  have hclo : ∀ b ∈ B, b ∈ A → R (T b) → R (U b) := fun b hb ha ⟨n, hn⟩ => ⟨n + 1, b, ha, hn, hU.1 b hb⟩
  have l1 := cnt_len R U T (B.filter fun b => decide (R (U b))) A (fun b hb => of_decide_eq_true (List.mem_filter.mp hb).2) fun m hm => by
    refine Nat.le_trans ?_ (Nat.le_trans (hU.2 m) (hfull m hm))
    unfold cntF
    exact len_sub ((nb.filter _).filter _) fun x hx => List.mem_filter.mpr ⟨(List.mem_filter.mp (List.mem_filter.mp hx).1).1, (List.mem_filter.mp hx).2⟩
  have l2 : (B.filter fun b => !decide (R (U b))).length ≤ (A.filter fun a => !decide (R (T a))).length := len_sub (nb.filter _) fun x hx => by
    have h1 := List.mem_filter.mp hx
    have h2 : ¬ R (U x) := by simpa using h1.2
    have ha : x ∈ A := Classical.byContradiction fun z => h2 (hsrc x h1.1 z)
    exact List.mem_filter.mpr ⟨ha, by simpa using fun z => h2 (hclo x h1.1 ha z)⟩
  have sp : ∀ (L : List α) (p : α → Bool), L.length = (L.filter p).length + (L.filter fun a => !p a).length := by
    intro L p
    induction L with
    | nil => rfl
    | cons x L ih =>
      rw [List.filter_cons, List.filter_cons, List.length_cons]
      cases p x <;> simp <;> omega
  have e1 := sp B fun b => decide (R (U b))
  have e2 := sp A fun b => decide (R (T b))
  omega
theorem seat_sub {X : Sc α} {a b : List α} (nd : a.Nodup) (h : ∀ x ∈ a, x ∈ b) : Seatable X b → Seatable X a := fun ⟨T, t1, t2⟩ =>
  ⟨T, fun c hc => t1 c (h c hc), fun m => Nat.le_trans (len_sub (nd.filter _) fun x hx => List.mem_filter.mpr ⟨h x (List.mem_filter.mp hx).1, (List.mem_filter.mp hx).2⟩) (t2 m)⟩
theorem seat_nil {X : Sc α} : Seatable X [] := ⟨id, fun _ h => (nomatch h), fun _ => Nat.zero_le _⟩
theorem seat_congr {X Y : Sc α} {L : List α} (hc : ∀ m, X.cap m = Y.cap m) (hh : ∀ c ∈ L, X.heard c = Y.heard c) : Seatable X L ↔ Seatable Y L :=
  ⟨fun ⟨T, h1, h2⟩ => ⟨T, fun c h => by rw [← hh c h]; exact h1 c h, fun m => by rw [← hc m]; exact h2 m⟩, fun ⟨T, h1, h2⟩ => ⟨T, fun c h => by rw [hh c h]; exact h1 c h, fun m => by rw [hc m]; exact h2 m⟩⟩
open Classical in
noncomputable def grS (X : Sc α) (L : List α) (c : α) : List α := if Seatable X (L ++ [c]) then L ++ [c] else L
/-- the greedy row -/
noncomputable def gr (X : Sc α) (P : List α) : List α := P.foldl (grS X) []
theorem gr_nil (X : Sc α) : gr X [] = [] := rfl
theorem gr_snoc (X : Sc α) (P : List α) (c : α) : gr X (P ++ [c]) = grS X (gr X P) c := by
  unfold gr
  rw [List.foldl_append]
  rfl
theorem gr_yes {X : Sc α} {P : List α} {c : α} (h : Seatable X (gr X P ++ [c])) : gr X (P ++ [c]) = gr X P ++ [c] := by
  rw [gr_snoc]
  exact if_pos h
theorem gr_no {X : Sc α} {P : List α} {c : α} (h : ¬ Seatable X (gr X P ++ [c])) : gr X (P ++ [c]) = gr X P := by
  rw [gr_snoc]
  exact if_neg h
theorem snoc_ind {motive : List α → Prop} (h0 : motive []) (hs : ∀ P c, motive P → motive (P ++ [c])) (P : List α) : motive P := by
  have : ∀ n (P : List α), P.length = n → motive P := by
    intro n
    induction n with
    | zero => intro P h; rw [List.eq_nil_of_length_eq_zero h]; exact h0
    | succ n ih =>
      intro P h
      have hne : P ≠ [] := fun e => by rw [e] at h; simp at h
      rw [← List.dropLast_concat_getLast hne]
      exact hs _ _ (ih _ (by rw [List.length_dropLast, h]; rfl))
  exact this _ P rfl
theorem gr_sub (X : Sc α) (P : List α) : ∀ y ∈ gr X P, y ∈ P := by
  induction P using snoc_ind with
  | h0 => intro y h; cases h
  | hs P c ih =>
    intro y h
    by_cases q : Seatable X (gr X P ++ [c])
    · rw [gr_yes q] at h
      rcases List.mem_append.mp h with h | h
      · exact List.mem_append_left _ (ih y h)
      · exact List.mem_append_right _ h
    · rw [gr_no q] at h
      exact List.mem_append_left _ (ih y h)
theorem gr_seat (X : Sc α) (P : List α) : Seatable X (gr X P) := by
  induction P using snoc_ind with
  | h0 => exact seat_nil
  | hs P c ih =>
    by_cases q : Seatable X (gr X P ++ [c])
    · rw [gr_yes q]; exact q
    · rw [gr_no q]; exact ih
theorem nd_snoc {P : List α} {c : α} (h : (P ++ [c]).Nodup) : P.Nodup ∧ c ∉ P := by
  have := List.nodup_append.mp h
  exact ⟨this.1, fun z => this.2.2 c z c (by simp) rfl⟩
theorem snoc_nd {P : List α} {c : α} (h : P.Nodup) (k : c ∉ P) : (P ++ [c]).Nodup := List.nodup_append.mpr ⟨h, by simp, fun a ha b hb e => by rw [List.mem_singleton.mp hb] at e; exact k (e ▸ ha)⟩
theorem gr_nd {X : Sc α} {P : List α} : P.Nodup → (gr X P).Nodup := by
  induction P using snoc_ind with
  | h0 => intro _; exact List.nodup_nil
  | hs P c ih =>
    intro h
    obtain ⟨h1, h2⟩ := nd_snoc h
    by_cases q : Seatable X (gr X P ++ [c])
    · rw [gr_yes q]; exact snoc_nd (ih h1) fun z => h2 (gr_sub X P c z)
    · rw [gr_no q]; exact ih h1
theorem gr_keep {X : Sc α} {P : List α} {y : α} (Q : List α) (h : y ∈ gr X P) : y ∈ gr X (P ++ Q) := by
  induction Q using snoc_ind with
  | h0 => rw [List.append_nil]; exact h
  | hs Q c ih =>
    rw [← List.append_assoc]
    by_cases q : Seatable X (gr X (P ++ Q) ++ [c])
    · rw [gr_yes q]; exact List.mem_append_left _ ih
    · rw [gr_no q]; exact ih
theorem gr_none {X : Sc α} {P : List α} {y : α} {Q : List α} (hn : y ∉ Q) (h : y ∈ gr X (P ++ Q)) : y ∈ gr X P := by
  induction Q using snoc_ind with
  | h0 => rw [List.append_nil] at h; exact h
  | hs Q c ih =>
    have n1 : y ∉ Q := fun z => hn (List.mem_append_left _ z)
    have n2 : y ≠ c := fun e => hn (by simp [e])
    rw [← List.append_assoc] at h
    by_cases q : Seatable X (gr X (P ++ Q) ++ [c])
    · rw [gr_yes q] at h
      rcases List.mem_append.mp h with h | h
      · exact ih n1 h
      · exact absurd (List.mem_singleton.mp h) n2
    · rw [gr_no q] at h; exact ih n1 h
/-- who is kept: whoever can be added to the row of the earlier ones -/
theorem gr_iff {X : Sc α} {P Q : List α} {x : α} (h : (P ++ x :: Q).Nodup) : x ∈ gr X (P ++ x :: Q) ↔ Seatable X (gr X P ++ [x]) := by
  have h1 := List.nodup_append.mp h
  have h2 := List.nodup_cons.mp h1.2.1
  have hp : x ∉ P := fun z => h1.2.2 x z x (by simp) rfl
  have e : P ++ x :: Q = (P ++ [x]) ++ Q := by simp
  rw [e]
  refine ⟨fun z => ?_, fun z => gr_keep Q (by rw [gr_yes z]; simp)⟩
  have z1 := gr_none h2.1 z
  refine Classical.byContradiction fun n => ?_
  rw [gr_no n] at z1
  exact hp (gr_sub X P x z1)
theorem gr_max {X : Sc α} {P : List α} : P.Nodup → ∀ j ∈ P, j ∉ gr X P → ¬ Seatable X (gr X P ++ [j]) := by
  intro nd j hj hn hs
  obtain ⟨A, B, rfl⟩ := List.append_of_mem hj
  have nA := (List.nodup_append.mp nd).1
  refine hn ((gr_iff nd).mpr (seat_sub (snoc_nd (gr_nd nA) fun z => (List.nodup_append.mp nd).2.2 j (gr_sub X A j z) j (by simp) rfl) (fun y hy => ?_) hs))
  rcases List.mem_append.mp hy with h | h
  · exact List.mem_append_left _ (gr_keep _ h)
  · exact List.mem_append_right _ h
/-- a row as long as the greater one, and who stands in it -/
theorem fill {X : Sc α} {I : List α} (hI : Seatable X I) (nI : I.Nodup) : ∀ (n : Nat) (J : List α), Seatable X J → J.Nodup → J.length + n = I.length → ∃ L, Seatable X L ∧ L.Nodup ∧ (∀ y ∈ J, y ∈ L) ∧ (∀ y ∈ L, y ∈ J ∨ y ∈ I) ∧ L.length = I.length
  | 0, J, h, nd, e => ⟨J, h, nd, fun _ z => z, fun _ z => .inl z, e⟩
  | n + 1, J, h, nd, e => by
    obtain ⟨b, hb, hn, hs⟩ := exch nd nI h hI (by omega)
    obtain ⟨L, a1, a2, a3, a4, a5⟩ := fill hI nI n (J ++ [b]) hs (snoc_nd nd hn) (by rw [List.length_append, List.length_singleton]; omega)
    refine ⟨L, a1, a2, fun y hy => a3 y (List.mem_append_left _ hy), fun y hy => ?_, a5⟩
    rcases a4 y hy with z | z
    · rcases List.mem_append.mp z with z | z
      · exact .inl z
      · rw [List.mem_singleton.mp z]; exact .inr hb
    · exact .inr z
/-- whoever can't be added to a row of earlier calls can't be added to the greedy row -/
theorem span {X : Sc α} {P J : List α} {x : α} (nP : P.Nodup) (nJ : J.Nodup) (hJ : ∀ y ∈ J, y ∈ P) (hx : x ∉ P) (sJ : Seatable X J) (no : ¬ Seatable X (J ++ [x])) : ¬ Seatable X (gr X P ++ [x]) := by
  intro yes
  have nG : (gr X P).Nodup := gr_nd nP
  have nI : (gr X P ++ [x]).Nodup := snoc_nd nG fun z => hx (gr_sub X P x z)
  have le : J.length ≤ (gr X P ++ [x]).length := by
    refine Nat.le_of_not_lt fun z => ?_
    obtain ⟨b, hb, hn, hs⟩ := exch nG nJ (gr_seat X P) sJ (by rw [List.length_append, List.length_singleton] at z; omega)
    exact gr_max nP b (hJ b hb) hn hs
  obtain ⟨L, a1, a2, a3, a4, a5⟩ := fill yes nI ((gr X P ++ [x]).length - J.length) J sJ nJ (by omega)
  have hxL : x ∉ L := fun z => no (seat_sub (snoc_nd nJ fun w => hx (hJ x w)) (fun y hy => by
    rcases List.mem_append.mp hy with h | h
    · exact a3 y h
    · rw [List.mem_singleton.mp h]; exact z) a1)
  obtain ⟨b, hb, hn, hs⟩ := exch nG a2 (gr_seat X P) a1 (by rw [a5, List.length_append, List.length_singleton]; omega)
  have hbP : b ∈ P := by
    rcases a4 b hb with h | h
    · exact hJ b h
    · rcases List.mem_append.mp h with h | h
      · exact gr_sub X P b h
      · exact absurd (List.mem_singleton.mp h ▸ hb) hxL
  exact gr_max nP b hbP hn hs
/-- fewer earlier calls -/
theorem gr_fewer {X : Sc α} {P P' : List α} {x : α} (nP : P.Nodup) (nP' : P'.Nodup) (hs : ∀ y ∈ P', y ∈ P) (hx : x ∉ P) (h : Seatable X (gr X P ++ [x])) : Seatable X (gr X P' ++ [x]) :=
  Classical.byContradiction fun no => span nP (gr_nd nP') (fun y hy => hs y (gr_sub X P' y hy)) hx (gr_seat X P') no h
theorem gr_congr {X Y : Sc α} {P : List α} (hc : ∀ m, X.cap m = Y.cap m) : (∀ c ∈ P, X.heard c = Y.heard c) → gr X P = gr Y P := by
  induction P using snoc_ind with
  | h0 => intro _; rfl
  | hs P c ih =>
    intro hh
    have e := ih fun y hy => hh y (List.mem_append_left _ hy)
    have q : Seatable X (gr X P ++ [c]) ↔ Seatable Y (gr Y P ++ [c]) := by
      rw [e]
      refine seat_congr hc fun y hy => hh y ?_
      rcases List.mem_append.mp hy with z | z
      · exact List.mem_append_left _ (gr_sub Y P y z)
      · exact List.mem_append_right _ z
    by_cases z : Seatable X (gr X P ++ [c])
    · rw [gr_yes z, gr_yes (q.mp z), e]
    · rw [gr_no z, gr_no fun w => z (q.mpr w), e]
open Classical in
/-- one channel more -/
theorem gr_more {X Y : Sc α} {P : List α} {x m0 : α} (nP : P.Nodup) (hx : x ∉ P) (hc : ∀ m, Y.cap m = X.cap m + if m = m0 then 1 else 0) (hh : ∀ c, Y.heard c = X.heard c) (h : Seatable X (gr X P ++ [x])) : Seatable Y (gr Y P ++ [x]) := by
  refine Classical.byContradiction fun no => ?_
  have nJ : (gr Y P).Nodup := gr_nd nP
  have hJP := gr_sub Y P
  obtain ⟨T, hT⟩ := gr_seat Y P
  generalize gr Y P = J at no nJ hJP hT
  have hxJ : x ∉ J := fun z => hx (hJP x z)
  let R : α → Prop := fun m => ∃ n, Dl Y [x] J T n m
  have hfull : ∀ m, R m → Y.cap m ≤ cntF J T m := fun m hm => full_of nJ hT (fun z hz => by rw [List.mem_singleton.mp hz]; exact hxJ) (fun z hz => by rw [List.mem_singleton.mp hz]; exact no) hm
  have hsrc : ∀ m ∈ Y.heard x, R m := fun m hm => ⟨0, x, by simp, hm⟩
  have hclo : ∀ c ∈ J, R (T c) → ∀ m ∈ Y.heard c, R m := fun c hc ⟨n, hn⟩ m hm => ⟨n + 1, c, hc, hn, hm⟩
  -- the calls that sit in R, but one at m0
  obtain ⟨B, nB, hBJ, hBR, hBc⟩ : ∃ B : List α, B.Nodup ∧ (∀ b ∈ B, b ∈ J) ∧ (∀ b ∈ B, R (T b)) ∧ ∀ m, R m → X.cap m ≤ cntF B T m ∧ cntF B T m ≤ cntF J T m - if m = m0 then 1 else 0 := by
    have cR : ∀ m, R m → cntF (J.filter fun c => decide (R (T c))) T m = cntF J T m := fun m hm => by
      unfold cntF
      rw [List.filter_filter]
      refine congrArg List.length (List.filter_congr fun c _ => ?_)
      by_cases e : T c = m
      · have : R (T c) := by rw [e]; exact hm
        simp [e, hm]
      · simp [e]
    by_cases r0 : R m0
    · have p0 : 0 < cntF (J.filter fun c => decide (R (T c))) T m0 := by
        have := hfull m0 r0
        rw [hc, if_pos rfl] at this
        rw [cR m0 r0]; omega
      obtain ⟨b0, hb0, e0⟩ := cntF_pos p0
      have nF : (J.filter fun c => decide (R (T c))).Nodup := nJ.filter _
      have memF : ∀ c ∈ J.filter (fun c => decide (R (T c))), c ∈ J ∧ R (T c) := fun c hc => ⟨(List.mem_filter.mp hc).1, of_decide_eq_true (List.mem_filter.mp hc).2⟩
      generalize J.filter (fun c => decide (R (T c))) = F at cR hb0 nF memF p0
      obtain ⟨A1, A2, rfl⟩ := List.append_of_mem hb0
      refine ⟨A1 ++ A2, nF.sublist (List.Sublist.append (List.Sublist.refl _) (List.sublist_cons_self _ _)), fun b hb => (memF b ?_).1, fun b hb => (memF b ?_).2, fun m hm => ?_⟩
      · rcases List.mem_append.mp hb with z | z
        · exact List.mem_append_left _ z
        · exact List.mem_append_right _ (List.mem_cons_of_mem _ z)
      · rcases List.mem_append.mp hb with z | z
        · exact List.mem_append_left _ z
        · exact List.mem_append_right _ (List.mem_cons_of_mem _ z)
      · have h1 := cR m hm
        have h2 := hfull m hm
        rw [hc] at h2
        rw [cntF_app, cntF_cons, e0] at h1
        rw [cntF_app]
        by_cases e : m = m0
        · rw [if_pos e] at h2 ⊢
          rw [if_pos e.symm] at h1
          omega
        · rw [if_neg e] at h2 ⊢
          rw [if_neg (Ne.symm e)] at h1
          omega
    · refine ⟨J.filter fun c => decide (R (T c)), nJ.filter _, fun b hb => (List.mem_filter.mp hb).1, fun b hb => of_decide_eq_true (List.mem_filter.mp hb).2, fun m hm => ?_⟩
      have e : m ≠ m0 := fun e => r0 (e ▸ hm)
      have h2 := hfull m hm
      rw [hc, if_neg e] at h2
      rw [cR m hm, if_neg e]
      omega
  have sB : Seatable X B := ⟨T, fun c hc => by rw [← hh]; exact hT.1 c (hBJ c hc), fun m => by
    show cntF B T m ≤ _
    by_cases r : R m
    · have h1 := (hBc m r).2
      have h2 := right_cnt hT m
      rw [hc] at h2
      split at h1
      · rename_i e; rw [if_pos e] at h2; omega
      · rename_i e; rw [if_neg e] at h2; omega
    · have : cntF B T m = 0 := Classical.byContradiction fun z => by
        obtain ⟨a, ha, e⟩ := cntF_pos (Nat.pos_of_ne_zero z)
        exact r (by rw [← e]; exact hBR a ha)
      omega⟩
  have noB : ¬ Seatable X (B ++ [x]) := by
    rintro ⟨U, hU⟩
    have := cnt_len R U T (B ++ [x]) B (fun b hb => ?_) fun m hm => Nat.le_trans (hU.2 m) (hBc m hm).1
    · have h2 : (B.filter fun a => decide (R (T a))).length ≤ B.length := List.length_filter_le _ _
      rw [List.length_append, List.length_singleton] at this
      omega
    · have hu := hU.1 b hb
      rw [← hh] at hu
      rcases List.mem_append.mp hb with z | z
      · exact hclo b (hBJ b z) (hBR b z) _ hu
      · rw [List.mem_singleton.mp z] at hu ⊢
        exact hsrc _ hu
  exact span nP nB (fun y hy => hJP y (hBJ y hy)) hx sB noB h
end
end Mc.Gd
namespace Mc
open PySem L2 PySem.Spec PyProof.Rows
abbrev sRank : Stmt := inClass (top 22) 3
abbrev sOrder : Stmt := inClass (top 22) 2
structure TxO (K : PySem.W.Frag) (mg : PySem.Str → Option Value) (CS CC : Addr) : Prop where
  clS : Cls K CS
  nCa : NoAttr K CS "calls"
  clC : Cls K CC
  nW : NoAttr K CC "worth"
  sorted : mg "sorted" = none
/-- how worthy the call of that name is -/
def wOf (cls : Cls') (x : PySem.Str) : Int := ((getT cls x).map (·.2.1)).getD 0
def spRank (K : PySem.W.Frag) (CS CC : Addr) : Sp := fun vs H Q _ => ∃ (sc dx a y : Addr) (cls : Cls') (x : PySem.Str), vs = [.ref sc, .str x] ∧ H sc = some (.ins CS dx [("channels", .ref a), ("calls", .ref y)]) ∧ Rd H y (.dK (kvT vO cls)) ∧ CallsH K CC H cls ∧ x ∈ keysT cls ∧
  ∀ p, H p = none → Q (.ref p) (upd H p (.tup [.int (-wOf cls x), .str x]))
def rkO (cls : Cls') (x : PySem.Str) : Int := -wOf cls x
def spOrder (K : PySem.W.Frag) (CS CC : Addr) : Sp := fun vs H Q _ => ∃ (sc : Addr) (chs : Chs) (cls : Cls'), vs = [.ref sc] ∧ SceneH K CS CC H sc chs cls ∧ OkC chs cls ∧
  ∀ (p : Addr) (ys : List PySem.Str) (H' : Hp), ys.Perm (keysT cls) → ys.Pairwise (rkLe (rkO cls)) → Same H H' → H' p = none → Q (.ref p) (upd H' p (.lst (ys.map V.str)))
section
variable {P : Program} {w : World} {K : PySem.W.Frag} {mg : PySem.Str → Option Value} {base : Heap}
theorem scRank : FnScope ["self", "name"] ["self", "name"] (defScope sRank) := ⟨rfl, rfl, rfl, by decide +kernel, rfl, by decide +kernel, by decide +kernel⟩
theorem ok_rank {f CS CC : Addr} {fd : FuncData} (F : Fun K "rank" "Scene.rank" sRank f fd) (T : TxO K mg CS CC) : FnOk P w K mg base CX0 1 f fd ["self", "name"] (spRank K CS CC) := by
  refine F.ok scRank (fun vs H Q E h => ?_) (fun cdv A outer s H vs Q E hr h => ?_)
  · obtain ⟨sc, dx, a, y, cls, x, rfl, _⟩ := h
    rfl
  · obtain ⟨sc, dx, a, y, cls, x, rfl, h1, h2, hC, hx, q⟩ := h
    have hu := hu_of hr
    refine ⟨_, (pss_one (ps_ret (pe_tup (pa_cons (pe_un un_neg (pe_fld (pe_dget hu (pe_fld (pv 0) rfl) (pv 1) (fun _ _ => rfl)) rfl)) (pa_cons (pv 1) pa_nil))))), ?_⟩
    cases e : getT cls x with
    | none => exact absurd hx (getT_none.mp e)
    | some cd =>
      obtain ⟨dxc, hh, c1, c2⟩ := (hC _ (getT_in e)).here
      have ew : wOf cls x = cd.2.1 := by unfold wOf; rw [e]; rfl
      rw [ew] at q
      refine ⟨_, rfl, sc, CS, dx, _, _, rfl, h1, T.clS, T.nCa, rfl, _, rfl, y, _, rfl, dgetT h2 e, ?_⟩
      refine ⟨cd.1, CC, dxc, _, _, rfl, c1, T.clC, T.nW, rfl, cd.2.1, rfl, ?_⟩
      exact ⟨_, rfl, (by show 2 ≤ sizeLine; decide), q⟩
theorem scOrder : FnScope ["self"] ["self"] (defScope sOrder) := ⟨rfl, rfl, rfl, by decide +kernel, rfl, by decide +kernel, by decide +kernel⟩
theorem kvT_keys {β : Type} (f : β → V) (l : List (PySem.Str × β)) : (kvT f l).map (·.1) = (keysT l).map Sum.inr := by unfold kvT keysT; rw [List.map_map, List.map_map]; rfl
theorem ok_order {f CS CC : Addr} {fd : FuncData} (F : Fun K "order" "Scene.order" sOrder f fd) (T : TxO K mg CS CC) (c_rank : CalB P w K mg base CS 1 "rank" ["self", "name"] (spRank K CS CC)) : FnOk P w K mg base CX0 4 f fd ["self"] (spOrder K CS CC) := by
  refine F.ok scOrder (fun vs H Q E h => ?_) (fun cdv A outer s H vs Q E hr h => ?_)
  · obtain ⟨sc, chs, cls, rfl, _⟩ := h
    rfl
  · obtain ⟨sc, chs, cls, rfl, hC, ok, q⟩ := h
    refine ⟨_, (pss_one (ps_ret (pe_srtM rfl T.clS c_rank (hr.mono (by decide)) (by rfl) T.sorted (pe_fld (pv 0) rfl) (pv 0)))), ?_⟩
    obtain ⟨dx, a, b, h1, h2, h3⟩ := hC.here
    refine ⟨_, rfl, sc, CS, dx, _, _, rfl, h1, T.clS, T.nCa, rfl, _, rfl, b, sc, dx, kvT vO cls, _, keysT cls, rkO cls, rfl, rfl, h1, rfl, h3, kvT_keys _ _, by unfold keysT; rw [List.length_map]; exact ok.lenc, fun x hx H' s1 => ?_, fun ys p H' s1 pm pw hp => ?_⟩
    · exact ⟨sc, dx, a, b, cls, x, rfl, s1 _ _ h1, rd_same h3 s1, hC.calls.same s1, hx, fun p hp => ⟨p, rfl, hp, rfl⟩⟩
    · exact q p ys H' pm pw s1 hp
end
end Mc
namespace Mc
open PySem L2 PySem.Spec PyProof.Rows Gd
abbrev sPaper : Stmt := inClass (top 12) 6
theorem sok_flat {X : Sc PySem.Str} {S : SMs} {names R : List PySem.Str} (O : SOk X S names) (hR : R.Nodup) : (R.flatMap S.on).length ≤ names.length := by
  have nd : ∀ R : List PySem.Str, R.Nodup → (R.flatMap S.on).Nodup := by
    intro R hR
    induction R with
    | nil => exact List.nodup_nil
    | cons r R ih =>
      obtain ⟨n1, n2⟩ := List.nodup_cons.mp hR
      refine List.flatMap_cons ▸ List.nodup_append.mpr ⟨O.nd r, ih n2, fun y hy z hz e => ?_⟩
      obtain ⟨m, hm, hb⟩ := List.mem_flatMap.mp hz
      have e1 := (O.mem y r).mpr hy
      rw [e, (O.mem z m).mpr hb] at e1
      exact n1 (Option.some.inj e1 ▸ hm)
  refine len_sub (nd R hR) fun y hy => ?_
  obtain ⟨m, hm, hb⟩ := List.mem_flatMap.mp hy
  exact (O.dom y).mp ⟨m, (O.mem y m).mpr hb⟩
/-- a paper against c beside the calls names: more calls than all masts have channels that hear any of them -/
def Paper (X : Sc PySem.Str) (names : List PySem.Str) (c : PySem.Str) (zs : List PySem.Str) : Prop := zs.Nodup ∧ c ∈ zs ∧ (∀ y ∈ zs, y = c ∨ y ∈ names) ∧ ∀ M : List PySem.Str, M.Nodup → (∀ m ∈ M, ∃ y ∈ zs, m ∈ X.heard y) → (M.map X.cap).sum < zs.length
theorem sum_sub {f : PySem.Str → Nat} : ∀ {a b : List PySem.Str}, a.Nodup → (∀ x ∈ a, x ∈ b) → (a.map f).sum ≤ (b.map f).sum
  | [], _, _, _ => Nat.zero_le _
  | x :: a, b, h, s => by
    have hx := List.nodup_cons.mp h
    have h1 := sum_sub (f := f) (a := a) (b := b.erase x) hx.2 fun y hy => (List.mem_erase_of_ne (fun e => by subst e; exact hx.1 hy)).mpr (s y (List.mem_cons_of_mem _ hy))
    have h2 := ((List.perm_cons_erase (s x (by simp))).map f).sum_nat
    simp only [List.map_cons, List.sum_cons] at h2 ⊢
    omega
theorem paper_of {X : Sc PySem.Str} {S : SMs} {names : List PySem.Str} (O : SOk X S names) {c : PySem.Str} (hc : c ∉ names) {R : List PySem.Str} (hR : R.Nodup) (h1 : ∀ m ∈ X.heard c, m ∈ R) (h2 : ∀ m ∈ R, ¬ (S.on m).length < X.cap m)
    (h3 : ∀ m ∈ R, ∀ y ∈ S.on m, ∀ o ∈ X.heard y, o ∈ R) {zs : List PySem.Str} (hz : zs.Perm (c :: R.flatMap S.on)) : Paper X names c zs := by
  have hmem : ∀ y ∈ R.flatMap S.on, y ∈ names ∧ ∃ m ∈ R, y ∈ S.on m := fun y hy => by
    obtain ⟨m, hm, hy⟩ := List.mem_flatMap.mp hy
    exact ⟨(O.dom y).mp ⟨m, (O.mem y m).mpr hy⟩, m, hm, hy⟩
  have nd : ∀ R : List PySem.Str, R.Nodup → (R.flatMap S.on).Nodup := by
    intro R hR
    induction R with
    | nil => exact List.nodup_nil
    | cons r R ih =>
      have hr := List.nodup_cons.mp hR
      rw [List.flatMap_cons]
      refine List.nodup_append.mpr ⟨O.nd r, ih hr.2, fun a ha b hb e => ?_⟩
      subst e
      obtain ⟨m, hm, hb⟩ := List.mem_flatMap.mp hb
      have e1 := (O.mem a r).mpr ha
      have e2 := (O.mem a m).mpr hb
      rw [e1] at e2
      cases Option.some.inj e2
      exact hr.1 hm
  have ndA : (c :: R.flatMap S.on).Nodup := List.nodup_cons.mpr ⟨fun h => hc (hmem c h).1, nd R hR⟩
  refine ⟨hz.nodup_iff.mpr ndA, hz.mem_iff.mpr (.head _), fun y hy => ?_, fun M nM hM => ?_⟩
  · rcases List.mem_cons.mp (hz.mem_iff.mp hy) with e | e
    · exact .inl e
    · exact .inr (hmem y e).1
  · have sub : ∀ m ∈ M, m ∈ R := fun m hm => by
      obtain ⟨y, hy, hh⟩ := hM m hm
      rcases List.mem_cons.mp (hz.mem_iff.mp hy) with e | e
      · exact h1 m (e ▸ hh)
      · obtain ⟨_, r, hr, hyr⟩ := hmem y e
        exact h3 r hr y hyr m hh
    have a1 := sum_sub (f := X.cap) nM sub
    have a2 := sum_le (R := R) (f := X.cap) (g := fun m => (S.on m).length) fun m hm => Nat.le_of_not_lt (h2 m hm)
    have a3 : (R.flatMap S.on).length = (R.map fun m => (S.on m).length).sum := by rw [List.length_flatMap]
    rw [hz.length_eq, List.length_cons, a3]
    omega
theorem lead_end {X : Sc PySem.Str} {S : SMs} {c : PySem.Str} {L : List (PySem.Str × PySem.Str × Option PySem.Str)} {names : List PySem.Str} : ∀ (n : Nat) (S' : SMs) (m : PySem.Str), Lead X S c L S' names m n → ∃ S2, SOk X S2 (names ++ [c])
  | n, S', m, I => by
    obtain ⟨y, l, _, _, h⟩ := I.step
    rcases h with ⟨_, _, O⟩ | ⟨m', k, _, hk, I'⟩
    · exact ⟨_, O⟩
    · exact lead_end k _ m' I'
structure TxP (K : PySem.W.Frag) (mg : PySem.Str → Option Value) (CK : Addr) : Prop where
  cl : Cls K CK
  n3 : NoAttr K CK "seated"
  tuple : mg "tuple" = none
  sorted : mg "sorted" = none
def spPaper (K : PySem.W.Frag) (CK CS CC : Addr) : Sp := fun vs H Q _ => ∃ (s sc a b : Addr) (adr : PySem.Str → Addr) (chs : Chs) (cls : Cls') (S : SMs) (names : List PySem.Str) (c : PySem.Str), vs = [.ref s, .str c] ∧ SeatH CK H s sc a b adr (keysT chs) S ∧
  ScnH K CS CC H sc (fpS a adr (keysT chs)) chs cls ∧ SOk (ScM chs cls) S names ∧ OkC chs cls ∧ c ∈ keysT cls ∧ (∀ x ∈ names, x ∈ keysT cls) ∧ names.length < 63 ∧ names.Nodup ∧ c ∉ names ∧ ¬ Seatable (ScM chs cls) (names ++ [c]) ∧
  ∀ (t : Addr) (ys : List PySem.Str) (H' : Hp), Same H H' → H' t = some (.tup (ys.map V.str)) → H t = none → ys.length < 64 → sortedS ys = true → Paper (ScM chs cls) names c ys → PapD (ScM chs cls) S c ys → Q (.ref t) H'
section
variable {P : Program} {w : World} {K : PySem.W.Frag} {mg : PySem.Str → Option Value} {base : Heap}
theorem scPaper : FnScope ["self", "name", "_", "came", "mast", "call"] ["self", "name"] (defScope sPaper) := ⟨rfl, rfl, rfl, by decide +kernel, rfl, by decide +kernel, by decide +kernel⟩
theorem ok_paper {f CK CS CC : Addr} {fd : FuncData} (F : Fun K "paper" "Seats.paper" sPaper f fd) (T : TxP K mg CK) (c_Seats_way_for : CalM P w K mg base CK 2 "way_for" ["self", "name"] (spWay K CK CS CC)) : FnOk P w K mg base CX0 3 f fd ["self", "name"] (spPaper K CK CS CC) := by
  refine F.ok scPaper (fun vs H Q E h => ?_) (fun cdv A outer s H vs Q E hr h => ?_)
  · obtain ⟨s, sc, a, b, adr, chs, cls, S, names, c, rfl, _⟩ := h
    rfl
  · obtain ⟨s, sc, a, b, adr, chs, cls, S, names, c, rfl, hS, hC, O, ok, hc, hnm, hlen, nd, hcn, hns, q⟩ := h
    have hu := hu_of hr
    refine ⟨_, (pss_cons (ps_asg (pe_calM (pv 0) T.cl c_Seats_way_for (hr.mono (by decide)) (pa_cons (pv 1) pa_nil)) (pg_tup rfl (pgs_cons (pg_name (i := 2) scPaper.nd rfl (Or.inl rfl)) (pgs_cons (pg_name (i := 3) scPaper.nd rfl (Or.inl rfl)) pgs_nil))))
      (pss_one (ps_ret (pe_tupleOf (by rfl) T.tuple (pe_callB cr_sortedS (by rfl) T.sorted boot_sorted (pa_cons (pe_op op_cat (pe_lst (pa_cons (pv 1) pa_nil))
        (pe_lock (pe_lc2 (own := [("mast", 4), ("call", 5)]) (vs1 := [5]) (g := gName 4) (g1 := gName 5) (tt := tYes) (tt1 := tYes) rfl scPaper.nd (pi_keys (pv 3)) (blkOk_by (own := [("mast", 4), ("call", 5)]) (N := ["self", "name", "_", "came", "mast", "call"]) (sc := defScope sPaper) (by decide +kernel)) (by decide)
          (fun _ _ _ _ _ => pg_name (i := 4) scPaper.nd rfl (Or.inl rfl)) (fun _ _ _ _ _ => pts_nil) (fun _ _ _ _ _ => pi_listK (K := K) rfl (pe_dget hu (pe_fldK (K := K) rfl (pv 0) rfl) (pv 4) (fun _ _ => rfl))) (fun _ _ _ _ _ => pg_name (i := 5) scPaper.nd rfl (Or.inl rfl)) (fun _ _ _ _ _ => pts_nil) (fun _ _ _ _ _ => pv 5)))) pa_nil)))))), ?_⟩
    obtain ⟨dx, h1⟩ := hS.here
    refine ⟨_, rfl, s, dx, _, rfl, h1, rfl, _, rfl, s, sc, a, b, adr, chs, cls, S, names, c, rfl, hS, hC, O, ok, hc, hnm, by omega, fun t d H1 adT L i r s1 ht cm hd B hy hn hW => ?_⟩
    refine ⟨t, [vL r, .ref d], rfl, SqT.of ht, rfl, _, _, rfl, _, _, rfl, rfl, ?_⟩
    have hrn : r = none := by
      cases r with
      | none => rfl
      | some m =>
        obtain ⟨hm, hroom⟩ := hy m rfl
        have hms : ∀ c m, m ∈ (ScM chs cls).heard c → m ∈ keysT chs := fun c m hm => by
          have hm : m ∈ ((getT cls c).map (·.2.2)).getD [] := hm
          cases e : getT cls c with
          | none => rw [e] at hm; cases hm
          | some cd =>
            rw [e] at hm
            exact (ok.cl _ (getT_in e)).2.2.2.2.2 m hm
        have LD : Lead (ScM chs cls) S c L S names m (L.length + 1) := ⟨O, hcn, B.ch, hroom, hm, fun L1 y l L2 e => ⟨by rw [e]; simp; omega, fun _ _ => rfl⟩⟩
        obtain ⟨S2, O2⟩ := lead_end _ _ _ LD
        exact absurd (O2.seatable (snoc_nd nd hcn)) hns
    have PP := fun ys hz => paper_of O hcn B.ch.nodup B.hd (fun m hm => by
      obtain ⟨j, hj⟩ := List.mem_iff_getElem?.mp hm
      exact (B.done j (by rw [hn hrn]; have := (List.getElem?_eq_some_iff.mp hj).1; rwa [List.length_map] at this) m hj).1) (fun m hm => by
      obtain ⟨j, hj⟩ := List.mem_iff_getElem?.mp hm
      exact (B.done j (by rw [hn hrn]; have := (List.getElem?_eq_some_iff.mp hj).1; rwa [List.length_map] at this) m hj).2) (zs := ys) hz
    have hd1 := cm.d
    have hfl : ((L.map (·.1)).flatMap S.on).length ≤ names.length := sok_flat O B.ch.nodup
    have hS1 := hS.same s1
    have h1' := s1 _ _ h1
    refine ⟨_, rfl, (by show 1 ≤ sizeLine; decide), fun p1 hp1 => ?_⟩
    have np : d ≠ p1 := ne_of_none hd1 hp1
    have s2 : Same H1 (upd H1 p1 (.lst [.str c])) := fun u o z => by rw [upd_ne (ne_of_none z hp1)]; exact z
    refine ⟨d, _, s2 _ _ hd1, trivial, fun od => ?_⟩
    -- all but the locked dict
    have sL : Kp [d] H1 (upd (upd H1 p1 (.lst [.str c])) d (.frz od (.dK (kvT vA (L.map fun x => (x.1, adT x.1)))))) := fun u o z n => by
      rw [upd_ne fun e => n (by simp [e])]
      exact s2 u o z
    have hp2 : upd (upd H1 p1 (.lst [.str c])) d (.frz od (.dK (kvT vA (L.map fun x => (x.1, adT x.1))))) p1 = some (.lst [.str c]) := by rw [upd_ne np.symm]; exact upd_same
    have hdf : upd (upd H1 p1 (.lst [.str c])) d (.frz od (.dK (kvT vA (L.map fun x => (x.1, adT x.1))))) d = some (.frz od (.dK (kvT vA (L.map fun x => (x.1, adT x.1))))) := upd_same
    have far : ∀ u o, H u = some o → upd (upd H1 p1 (.lst [.str c])) d (.frz od (.dK (kvT vA (L.map fun x => (x.1, adT x.1))))) u = some o := fun u o z => sL u o (s1 u o z) fun e => by rw [List.mem_singleton.mp e, hd] at z; cases z
    generalize upd (upd H1 p1 (.lst [.str c])) d (.frz od (.dK (kvT vA (L.map fun x => (x.1, adT x.1))))) = Hf at sL hp2 hdf far ⊢
    refine ⟨_, rfl, d, od, rfl, .inl ⟨_, hdf, fun D hD => ?_⟩⟩
    refine lc2_out walk_keys (fun i H' => Same Hf H' ∧ H' D = some (.lst ((((L.map (·.1)).take i).flatMap S.on).map V.str))) ⟨fun u o z => by rw [upd_ne (ne_of_none z hD)]; exact z, upd_same⟩ (fun i H' _ z => z.1 _ _ hdf) ?_ ?_
    · rintro i v _ H2 hi ⟨sm, hD2⟩ ⟨rfl, kk, v', hk, rfl⟩
      obtain ⟨z, hz, rfl, rfl⟩ := kvT_get hk
      have hk1 : (L.map (·.1))[i]? = some z.1 := by
        rw [List.getElem?_map] at hz ⊢
        cases e : L[i]? with
        | none => rw [e] at hz; cases hz
        | some y => rw [e] at hz; rw [← Option.some.inj hz]; rfl
      have hm : z.1 ∈ keysT chs := B.sub _ (List.mem_of_getElem? hk1)
      have et : ((L.map (·.1)).take (i + 1)).flatMap S.on = ((L.map (·.1)).take i).flatMap S.on ++ S.on z.1 := by rw [List.take_add_one, hk1, List.flatMap_append]; simp
      have le1 : (((L.map (·.1)).take i).flatMap S.on ++ S.on z.1).length ≤ names.length := by
        rw [← et]
        exact sok_flat O (B.ch.nodup.sublist (List.take_sublist _ _))
      have hlen2 : ∀ j, ((((L.map (·.1)).take i).flatMap S.on ++ (S.on z.1).take j).map V.str).length < sizeLine := fun j => by
        rw [List.length_append] at le1
        rw [List.length_map, List.length_append, List.length_take, sizeLine_eq]
        omega
      refine ⟨rfl, yes_ite ?_⟩
      have f1 := sm _ _ (far _ _ h1)
      refine ⟨_, rfl, s, CK, dx, _, _, rfl, f1, T.cl, T.n3, rfl, _, rfl, b, _, rfl, dgetT (f := vA) (l := (keysT chs).map fun m => (m, adr m)) (.inl (sm _ _ (far _ _ hS.seated))) (v := adr z.1) (getT_mem (by rw [keysT_mk]; exact hS.nd) (List.mem_map.mpr ⟨z.1, hm, rfl⟩)), adr z.1, rfl, ⟨_, SqL.of (sm _ _ (far _ _ (hS.on _ hm)))⟩, ?_⟩
      refine lc2_in (walk_list (xs := (S.on z.1).map V.str)) (fun j H' => Same Hf H' ∧ H' D = some (.lst ((((L.map (·.1)).take i).flatMap S.on ++ (S.on z.1).take j).map V.str))) ⟨sm, by rw [List.take_zero, List.append_nil]; exact hD2⟩ (fun j H' _ q => SqL.of (q.1 _ _ (far _ _ (hS.on _ hm)))) ?_ ?_
      · rintro j v _ H3 hj ⟨sm3, hD3⟩ ⟨rfl, hv⟩
        rw [List.getElem?_map] at hv
        cases e : (S.on z.1)[j]? with
        | none => rw [e] at hv; cases hv
        | some y =>
          rw [e] at hv
          obtain rfl : V.str y = v := Option.some.inj hv
          refine ⟨rfl, yes_ite ?_⟩
          refine ⟨_, rfl, _, hD3, hlen2 j, fun u o q => ?_, ?_⟩
          · rw [upd_ne (ne_of_none q hD)]
            exact sm3 u o q
          · rw [upd_same, List.take_add_one, e, ← List.append_assoc, List.map_append (l₁ := _ ++ _)]
            rfl
      · rintro H3 ⟨sm3, hD3⟩
        rw [List.length_map, List.take_length] at hD3
        exact ⟨sm3, by rw [et]; exact hD3⟩
    · rintro H2 ⟨sm, hD2⟩
      rw [show (kvT vA (L.map fun x => (x.1, adT x.1))).length = (L.map (·.1)).length by unfold kvT; simp, List.take_length] at hD2
      have nDd : D ≠ d := fun e => by rw [e, hdf] at hD; cases hD
      have far3 : Same H (upd H2 d (.dK (kvT vA (L.map fun x => (x.1, adT x.1))))) := fun u o z => by
        rw [upd_ne fun e => by rw [e, hd] at z; cases z]
        exact sm _ _ (far u o z)
      have p13 : upd H2 d (.dK (kvT vA (L.map fun x => (x.1, adT x.1)))) p1 = some (.lst [.str c]) := by rw [upd_ne np.symm]; exact sm _ _ hp2
      have D3 : upd H2 d (.dK (kvT vA (L.map fun x => (x.1, adT x.1)))) D = some (.lst (((L.map (·.1)).flatMap S.on).map V.str)) := by rw [upd_ne nDd]; exact hD2
      generalize upd H2 d (.dK (kvT vA (L.map fun x => (x.1, adT x.1)))) = H3 at far3 p13 D3 ⊢
      refine ⟨sm _ _ hdf, p1, D, _, _, rfl, rfl, p13, D3, by rw [List.length_map, List.length_singleton, sizeLine_eq]; omega, fun p2 hp2n => ?_⟩
      refine ⟨p2, c :: ((L.map (·.1)).flatMap S.on), rfl, SqL.of upd_same, by rw [List.length_cons]; omega, fun ys p3 pm srt hp3 => ?_⟩
      refine .inl ⟨p3, ys.map V.str, rfl, SqL.of upd_same, fun t2 ht2 => ?_⟩
      refine q t2 ys _ (fun u o z => ?_) upd_same ?_ (by rw [pm.length_eq, List.length_cons]; omega) srt (PP ys pm) ⟨L, i, by rw [hrn] at hW; exact hW, pm⟩
      rotate_left 1
      · cases e : H t2 with
        | none => rfl
        | some o =>
          have z3 := far3 t2 o e
          have z4 : (upd H3 p2 (.lst ([V.str c] ++ ((L.map (·.1)).flatMap S.on).map V.str))) t2 = some o := by rw [upd_ne (ne_of_none z3 hp2n)]; exact z3
          have z5 : (upd (upd H3 p2 (.lst ([V.str c] ++ ((L.map (·.1)).flatMap S.on).map V.str))) p3 (.lst (ys.map V.str))) t2 = some o := by rw [upd_ne (ne_of_none z4 hp3)]; exact z4
          rw [z5] at ht2; cases ht2
      have z3 := far3 u o z
      have z4 : (upd H3 p2 (.lst ([V.str c] ++ ((L.map (·.1)).flatMap S.on).map V.str))) u = some o := by rw [upd_ne (ne_of_none z3 hp2n)]; exact z3
      have z5 : (upd (upd H3 p2 (.lst ([V.str c] ++ ((L.map (·.1)).flatMap S.on).map V.str))) p3 (.lst (ys.map V.str))) u = some o := by rw [upd_ne (ne_of_none z4 hp3)]; exact z4
      rw [upd_ne (ne_of_none z5 ht2)]
      exact z5
end
end Mc
namespace Mc
open PySem L2 PySem.Spec PyProof.Rows
/-! tuple(d): the keys of a dict -/
section
variable {prog : Program} {w : World} {A : Around} {E : Value → Shared → Prop} {s : Shared} {r : Addr} {P : Array Value → Prop}
theorem code_tupD {Q₁ : Value → Shared → Prop} (hTI : s.TypeIs (.ref r) "dict") (hz : ∀ acc, P acc → acc.size ≤ sizeLine)
    (col : ∀ (R : List Value → Shared → Prop) (E' : Value → Shared → Prop), (∀ h' tk acc, (∀ b o, s.heap.get? b = some o → h'.get? b = some o) → P acc → R acc.toList { s with heap := h', toks := tk }) → wpAny (model prog w) A.in1 (collect (.ref r)) R E' s)
    (h : ∀ (h' : Heap) (tk : Nat) (acc : Array Value), (∀ b o, s.heap.get? b = some o → h'.get? b = some o) → P acc → Q₁ (.ref h'.objs.size) { s with heap := h'.push { cls := .type "tuple", data := .seq acc }, toks := tk }) :
    codeAny (model prog w) A (.call (.builtin "tuple.__new__") ⟨[.type "tuple", .ref r], []⟩) (wants Q₁ E) s := by
  refine codeAny_of_tree ?_
  show wpAny _ A.in1 (checkBuiltinCall "tuple.__new__" ⟨[.type "tuple", .ref r], []⟩ >>= fun _ => again (.builtin "tuple.__new__" ⟨[.type "tuple", .ref r], []⟩)) _ _ s
  refine wpAny_bind (wpAny_of_eq (PySem.F.newCall_tuple_1 _) (wpAny_pure ⟨plainId_quiet PySem.F.plain_tuple_new _, codeAny_builtin PySem.F.entry_tuple_new ?_⟩))
  rw [Around.under_plainId PySem.F.plain_tuple_new _]
  have hsub := sub_tuple_self
  have hinit := init_tuple_lookup
  have hmh := madeHere_tuple
  wp_walk using wpAny_typeOf hTI, col
  intro h' tk acc hk ha
  show wpAny _ _ (Builtin.Tuple.tupleExact acc.toList.toArray >>= fun v => ret v) _ _ _
  unfold Builtin.Tuple.tupleExact
  rw [Array.toArray_toList]
  refine wpAny_bind (wpAny_newObj_type ?_ (hz acc ha))
  exact wpAny_pure (h h' tk acc hk ha)
theorem call_tupD {Q : Value → Shared → Prop} (hTI : s.TypeIs (.ref r) "dict") (hz : ∀ acc, P acc → acc.size ≤ sizeLine)
    (col : ∀ (R : List Value → Shared → Prop) (E' : Value → Shared → Prop), (∀ h' tk acc, (∀ b o, s.heap.get? b = some o → h'.get? b = some o) → P acc → R acc.toList { s with heap := h', toks := tk }) → wpAny (model prog w) A.in1.in1 (collect (.ref r)) R E' s)
    (h : ∀ (h' : Heap) (tk : Nat) (acc : Array Value), (∀ b o, s.heap.get? b = some o → h'.get? b = some o) → P acc → Q (.ref h'.objs.size) { s with heap := h'.push { cls := .type "tuple", data := .seq acc }, toks := tk }) :
    wpAny (model prog w) A (call (.type "tuple") [.ref r]) Q E s := by
  refine callType_codes (Q₁ := fun obj s₁ => s₁.TypeIs obj "tuple" ∧ Q obj s₁) PySem.F.called_tuple (PySem.F.typeCall_tuple_1 _) PySem.F.entry_object_init (code_tupD (A := A.in1) hTI hz col fun h' tk acc hk ha => ⟨⟨_, Heap.get?_push_size _ rfl, rfl⟩, h h' tk acc hk ha⟩) fun ob s₁ h₁ => ?_
  exact ⟨h₁.1, PySem.F.args_object_init_2 ob _, object_init_meets PySem.F.called_tuple.init.lookup PySem.F.called_tuple.made (by decide) prog w A.in1 _ s₁ ⟨h₁.1, rfl, h₁.2⟩⟩
end
section
variable {X : Cx} {a : Expr} {ta : TE}
/-- tuple(d), the keys texts -/
def kTupD (x : V) (H : Hp) (Q : VK) : Prop := ∃ (d : Addr) (kvs : List (Key × V)), x = .ref d ∧ Rd H d (.dK kvs) ∧ ∀ q, H q = none → Q (.ref q) (upd H q (.tup (kvs.map fun kv => kV kv.1)))
theorem rl_tupD (hcalm : X.calm = true) (pins : List (Addr × Obj)) (s : Shared) (σ : L2.St) (H : Hp) (x : V) (v : Value) (Q : VK) (I : Inv X pins σ H s) (r : RelV x v) (h : kTupD x H Q) : wpAny (model X.prog X.w) X.A (call (.type "tuple") [v]) (EP X pins σ Q) X.xe s := by
  obtain ⟨d, kvs, rfl, hd, q⟩ := h
  cases r
  obtain ⟨z, lo, vs, rel, dd⟩ := dk_rd I.hok hd
  obtain ⟨ep, hat⟩ := dd.dictAt
  have ek : (kvs.map fun kv => kV kv.1) = vs.map fun p => kV p.1 := by
    have e := congrArg (List.map kV) rel.keys
    rwa [List.map_map, List.map_map] at e
  have hz : vs.length ≤ sizeLine := by rw [← rel.length]; exact z
  refine call_tupD (P := fun acc => acc.size = vs.length ∧ Vals (vs.map fun p => kV p.1) acc.toList) ?_ (fun acc ha => by rw [ha.1]; exact hz) (fun R E' k => PySem.W.kdu_collect (A := X.A.in1.in1) (PySem.W.kdl_dict (knd := mixKind X.prog X.w) (kvs := vs) (ep := ep) lo) (I.ok.hd hcalm) hat hz fun h' tk acc hk hacc => k h' tk acc hk ⟨hacc.1, keys_at (by rw [Array.length_toList]; exact hacc.1) fun j v e => hacc.2 j v (by rw [← Array.getElem?_toList]; exact e)⟩) fun h' tk acc hk ha => ?_
  · exact dd.typeIs
  have I1 : Inv X pins σ H { s with heap := h', toks := tk } := I.kept hk
  refine ⟨.ref h'.objs.size, upd H h'.objs.size (.tup (kvs.map fun kv => kV kv.1)), I1.laid (t' := tk) (fun b o e => Heap.get?_push_of_some _ e) (Nat.le_refl _) ⟨by rw [List.length_map]; exact z, acc.toList, by rw [ek]; exact ha.2, by rw [Array.toArray_toList]; exact IsTup.new _ _⟩, rfl, q _ (I1.hok.fresh (Nat.le_refl _))⟩
theorem pe_tupD {p pos : Pos} (hcalm : X.calm = true) (hg : Gl X "tuple") (hm : X.mg "tuple" = none) (ha : PE X a ta) (na : starEach [a] X.env = (false, eval a X.env) :: starEach [] X.env := by rfl) :
    PE X (.Call (.Name "tuple" p) [a] [] pos) (tThen ta kTupD) := by
  refine ⟨fun pins s σ H Q I h => ?_⟩
  exact Call_ (ld_blt I hg hm boot_tuple (PyProof.Rows.callWith_type1 (one_arg ha I h (fun v s2 x H2 I2 r q => rl_tupD hcalm pins s2 σ H2 x v Q I2 r q) na) na))
end
end Mc
namespace Mc
open PySem L2 PySem.Spec PyProof.Rows Gd
abbrev sTInit : Stmt := inClass (top 13) 0
abbrev sKept : Stmt := top 14
structure TxT (K : PySem.W.Frag) (mg : PySem.Str → Option Value) (CT CK CS : Addr) : Prop where
  cl : Cls K CT
  nLot : NoAttr K CT "lot"
  nSea : NoAttr K CT "seating"
  nPap : NoAttr K CT "papers"
  clK : Cls K CK
  n2 : NoAttr K CK "seating"
  clS : Cls K CS
  tuple : mg "tuple" = none
  sorted : mg "sorted" = none
theorem ScnH.more {K : PySem.W.Frag} {CS CC : Addr} {H : Hp} {sc d : Addr} {F : List Addr} {chs : Chs} {cls : Cls'} (h : ScnH K CS CC H sc F chs cls) (hd : H d = none) : ScnH K CS CC H sc (d :: F) chs cls := by
  have ne : ∀ {b o}, H b = some o → b ∉ F → b ∉ d :: F := fun {b o} z n e => by
    rcases List.mem_cons.mp e with e | e
    · rw [e, hd] at z; cases z
    · exact n e
  obtain ⟨dx, x, y, h1, h2, h3, n1, n2, n3⟩ := h.sc
  refine ⟨⟨dx, x, y, h1, h2, h3, ne h1 n1, h2.elim (fun z => ne z n2) fun ⟨o, z⟩ => ne z n2, h3.elim (fun z => ne z n3) fun ⟨o, z⟩ => ne z n3⟩, fun z hz => ?_⟩
  obtain ⟨dx, h', c1, c2, m1, m2⟩ := h.calls z hz
  exact ⟨dx, h', c1, c2, ne c1 m1, ne c2 m2⟩
theorem ScnH.sub {K : PySem.W.Frag} {CS CC : Addr} {H : Hp} {sc : Addr} {F F' : List Addr} {chs : Chs} {cls : Cls'} (h : ScnH K CS CC H sc F chs cls) (s : ∀ b ∈ F', b ∈ F) : ScnH K CS CC H sc F' chs cls := by
  obtain ⟨dx, x, y, h1, h2, h3, n1, n2, n3⟩ := h.sc
  refine ⟨⟨dx, x, y, h1, h2, h3, fun z => n1 (s _ z), fun z => n2 (s _ z), fun z => n3 (s _ z)⟩, fun z hz => ?_⟩
  obtain ⟨dx, h', c1, c2, m1, m2⟩ := h.calls z hz
  exact ⟨dx, h', c1, c2, fun z => m1 (s _ z), fun z => m2 (s _ z)⟩
theorem ScnH.scene {K : PySem.W.Frag} {CS CC : Addr} {H : Hp} {sc : Addr} {F : List Addr} {chs : Chs} {cls : Cls'} (h : ScnH K CS CC H sc F chs cls) : SceneH K CS CC H sc chs cls := by
  obtain ⟨dx, x, y, h1, h2, h3, _⟩ := h.sc
  refine ⟨⟨dx, x, y, h1, h2, h3⟩, fun z hz => ?_⟩
  obtain ⟨dx, h', c1, c2, _⟩ := h.calls z hz
  exact ⟨dx, h', c1, c2⟩
theorem SeatH.offd {CK : Addr} {H H' : Hp} {s sc a b d : Addr} {adr : PySem.Str → Addr} {ms : List PySem.Str} {S : SMs} (h : SeatH CK H s sc a b adr ms S) (hd : ∀ u o, H u = some o → u ∈ s :: a :: b :: ms.map adr → u ≠ d) (k : ∀ u o, u ≠ d → H u = some o → H' u = some o) : SeatH CK H' s sc a b adr ms S := by
  obtain ⟨dx, h1⟩ := h.here
  obtain ⟨st, h2, h3⟩ := h.seating
  exact ⟨⟨dx, k _ _ (hd _ _ h1 (by simp)) h1⟩, ⟨st, k _ _ (hd _ _ h2 (by simp)) h2, h3⟩, k _ _ (hd _ _ h.seated (by simp)) h.seated, fun m hm => k _ _ (hd _ _ (h.on m hm) (by simp; exact .inr (.inr (.inr ⟨m, hm, rfl⟩)))) (h.on m hm), h.inj, h.dom, h.nd, h.ab⟩
/-- what is kept: by the greedy row over the calls in their order -/
def KeptOf (chs : Chs) (cls : Cls') (lot : List PySem.Str) : Prop := ∃ ys : List PySem.Str, ys.Perm (keysT cls) ∧ ys.Pairwise (rkLe (rkO cls)) ∧ lot.Nodup ∧ ∀ x, x ∈ lot ↔ x ∈ gr (ScM chs cls) ys
/-- a paper beside what comes ahead in the order -/
def PapOf (chs : Chs) (cls : Cls') (ys : List PySem.Str) (x : PySem.Str) (zs : List PySem.Str) : Prop := ∃ P Q, ys = P ++ x :: Q ∧ Paper (ScM chs cls) (gr (ScM chs cls) P) x zs
/-- what Kept tells of a scene -/
structure KeptM (chs : Chs) (cls : Cls') (lot : List PySem.Str) (st : List (PySem.Str × PySem.Str)) (pp : List (PySem.Str × Addr)) (zz : PySem.Str → List PySem.Str) : Prop where
  ex : ∃ (ys : List PySem.Str) (S : SMs), ys.Perm (keysT cls) ∧ ys.Pairwise (rkLe (rkO cls)) ∧ (∀ x, x ∈ lot ↔ x ∈ gr (ScM chs cls) ys) ∧ SOk (ScM chs cls) S lot ∧ (∀ c, getT st c = S.pos c) ∧ ∀ x ∈ keysT pp, PapOf chs cls ys x (zz x)
  nd : lot.Nodup
  keys : keysT st = lot
  asc : AscT st
  pnd : (keysT pp).Nodup
  psrt : sortedS (keysT pp) = true
  pmem : ∀ x, x ∈ keysT pp ↔ x ∈ keysT cls ∧ x ∉ lot
  plen : ∀ x ∈ keysT pp, (zz x).length < 64 ∧ sortedS (zz x) = true
  det : ∃ (ys : List PySem.Str) (S : SMs) (PP : List (PySem.Str × List PySem.Str)), ys.Perm (keysT cls) ∧ ys.Pairwise (rkLe (rkO cls)) ∧ KeptR (ScM chs cls) ys S PP ∧ (∀ c, getT st c = S.pos c) ∧ ∀ x ∈ keysT pp, getT PP x = some (zz x)
theorem KeptM.of {chs : Chs} {cls : Cls'} {lot : List PySem.Str} {st : List (PySem.Str × PySem.Str)} {pp : List (PySem.Str × Addr)} {zz : PySem.Str → List PySem.Str} (h : KeptM chs cls lot st pp zz) : KeptOf chs cls lot := by
  obtain ⟨ys, S, pm, pw, hm, _⟩ := h.ex
  exact ⟨ys, pm, pw, h.nd, hm⟩
/-- the object of Kept -/
structure KeptH (CT : Addr) (H : Hp) (p t a e : Addr) (lot : List PySem.Str) (st : List (PySem.Str × PySem.Str)) (pp : List (PySem.Str × Addr)) (zz : PySem.Str → List PySem.Str) : Prop where
  here : ∃ dx, H p = some (.ins CT dx [("lot", .ref t), ("seating", .ref a), ("papers", .ref e)])
  lt : H t = some (.tup (lot.map V.str))
  sea : H a = some (.dK (kvT vS st))
  pap : H e = some (.dK (kvT vA pp))
  at_ : ∀ x ∈ pp, H x.2 = some (.tup ((zz x.1).map V.str))
theorem KeptH.same {CT : Addr} {H H' : Hp} {p t a e : Addr} {lot : List PySem.Str} {st : List (PySem.Str × PySem.Str)} {pp : List (PySem.Str × Addr)} {zz : PySem.Str → List PySem.Str} (h : KeptH CT H p t a e lot st pp zz) (s : Same H H') : KeptH CT H' p t a e lot st pp zz := by
  obtain ⟨dx, h1⟩ := h.here
  exact ⟨⟨dx, s _ _ h1⟩, s _ _ h.lt, s _ _ h.sea, s _ _ h.pap, fun x hx => s _ _ (h.at_ x hx)⟩
structure PPs (chs : Chs) (cls : Cls') (ys : List PySem.Str) (H' : Hp) (j : Nat) (pp : List (PySem.Str × Addr)) (zz : PySem.Str → List PySem.Str) : Prop where
  at_ : ∀ x ∈ pp, H' x.2 = some (.tup ((zz x.1).map V.str))
  pap : ∀ x ∈ keysT pp, PapOf chs cls ys x (zz x) ∧ (zz x).length < 64 ∧ sortedS (zz x) = true
  no : ∀ x ∈ keysT pp, x ∉ gr (ScM chs cls) (ys.take j)
  all : ∀ x ∈ ys.take j, x ∈ gr (ScM chs cls) (ys.take j) ∨ x ∈ keysT pp
theorem split_at {ys : List PySem.Str} {j : Nat} {c : PySem.Str} (h : ys[j]? = some c) : ys = ys.take j ++ c :: ys.drop (j + 1) := by
  obtain ⟨hj, e⟩ := List.getElem?_eq_some_iff.mp h
  rw [← e, ← List.drop_eq_getElem_cons hj, List.take_append_drop]
def spTInit (K : PySem.W.Frag) (CT CS CC : Addr) : Sp := fun vs H Q _ => ∃ (p dx sc : Addr) (chs : Chs) (cls : Cls'), vs = [.ref p, .ref sc] ∧ H p = some (.ins CT dx []) ∧ SceneH K CS CC H sc chs cls ∧ OkC chs cls ∧
  ∀ (t a e : Addr) (lot : List PySem.Str) (st : List (PySem.Str × PySem.Str)) (pp : List (PySem.Str × Addr)) (zz : PySem.Str → List PySem.Str) (H' : Hp), KeptM chs cls lot st pp zz → KeptH CT H' p t a e lot st pp zz → H a = none → H e = none → Kp [p] H H' → Q .non H'
section
variable {P : Program} {w : World} {K : PySem.W.Frag} {mg : PySem.Str → Option Value} {base : Heap}
theorem scTI : FnScope ["self", "scene", "seats", "papers", "name"] ["self", "scene"] (defScope sTInit) := ⟨rfl, rfl, rfl, by decide +kernel, rfl, by decide +kernel, by decide +kernel⟩
theorem ok_tinit {f CT CK CS CC : Addr} {fd : FuncData} (F : Fun K "__init__" "Kept.__init__" sTInit f fd) (T : TxT K mg CT CK CS) (c_Seats : CalI P w K mg base CK 1 "Seats" ["self", "scene"] (spKInit K CK CS CC)) (c_order : CalM P w K mg base CS 4 "order" ["self"] (spOrder K CS CC))
    (c_add : CalM P w K mg base CK 4 "add" ["self", "name"] (spAdd K CK CS CC)) (c_paper : CalM P w K mg base CK 3 "paper" ["self", "name"] (spPaper K CK CS CC)) : FnOk P w K mg base CX0 5 f fd ["self", "scene"] (spTInit K CT CS CC) := by
  refine F.ok scTI (fun vs H Q E h => ?_) (fun cdv A outer s H vs Q E hr h => ?_)
  · obtain ⟨p, dx, sc, chs, cls, rfl, _⟩ := h
    rfl
  · obtain ⟨p, dx, sc, chs, cls, rfl, hp, hC, ok, q⟩ := h
    have hu := hu_of hr
    refine ⟨_, (pss_cons (ps_set (i := 2) scTI.nd rfl (Or.inl rfl) (pe_calI c_Seats (hr.mono (by decide)) rfl (pa_cons (pv 1) pa_nil)))
      (pss_cons (ps_set (i := 3) scTI.nd rfl (Or.inr rfl) pe_dnewK)
      (pss_cons (ps_for PassesOwn.never rfl (pi_list (pe_calM0 (pv 1) T.clS c_order (hr.mono (by decide)))) (pg_name (i := 4) scTI.nd rfl (Or.inl rfl))
        (pss_one (ps_if (pt_not (pt_val (pe_calM (pv 2) T.clK c_add (hr.mono (by decide)) (pa_cons (pv 4) pa_nil))))
          (pss_one (ps_dput hu (pv 3) (pv 4) (pe_calM (pv 2) T.clK c_paper (hr.mono (by decide)) (pa_cons (pv 4) pa_nil)) rfl))
          pss_nil)))
      (pss_cons (ps_fld (pv 0) (pe_tupD rfl (by rfl) T.tuple (pe_fld (pv 2) rfl)) rfl)
      (pss_cons (ps_fld (pv 0) (pe_fld (pv 2) rfl) rfl)
      (pss_one (ps_fld (pv 0) (pe_dc (own := [("name", 4)]) (g := gName 4) (tt := tYes) rfl scTI.nd (pi_list (pe_callB (call_sortedD rfl) (by rfl) T.sorted boot_sorted (pa_cons (pv 3) pa_nil))) (blkOk_by (own := [("name", 4)]) (N := ["self", "scene", "seats", "papers", "name"]) (sc := defScope sTInit) (by decide +kernel)) (fun _ _ _ _ _ => pg_name (i := 4) scTI.nd rfl (Or.inl rfl)) (fun _ _ _ _ _ => pts_nil) (fun _ _ _ _ _ => (pv 4)) (fun _ _ _ _ _ => (pe_dget hu (pv 3) (pv 4) (fun _ _ => rfl)))) rfl))))))), ?_⟩
    refine ⟨_, rfl, fun p1 dx1 hp1 hdx1 npd => ?_⟩
    have s1 : Same H (upd (upd H dx1 (.own p1)) p1 (.ins CK dx1 [])) := fun b o z => by rw [upd_ne (ne_of_none z hp1), upd_ne (ne_of_none z hdx1)]; exact z
    have hp1' : (upd (upd H dx1 (.own p1)) p1 (.ins CK dx1 [])) p1 = some (.ins CK dx1 []) := upd_same
    generalize upd (upd H dx1 (.own p1)) p1 (.ins CK dx1 []) = H1 at s1 hp1' ⊢
    refine ⟨p1, dx1, sc, chs, cls, rfl, hp1', hC.same s1, ok, fun a b adr H2 hS hN ha hadr k2 => ⟨rfl, ?_⟩⟩
    have H0F : ∀ u ∈ fpS a adr (keysT chs), H u = none := fun u hu => by
      have : H1 u = none := by
        rcases List.mem_cons.mp hu with e | e
        · rw [e]; exact ha
        · obtain ⟨m, hm, e⟩ := List.mem_map.mp e
          rw [← e]; exact hadr m hm
      exact Classical.byContradiction fun z => by
        cases e : H u with
        | none => exact z e
        | some o => rw [s1 _ _ e] at this; cases this
    have s2 : Same H H2 := fun u o z => k2 u o (s1 u o z) fun hu => by rw [List.mem_singleton.mp hu, hp1] at z; cases z
    clear s1 hp1' k2 ha hadr
    refine fun d hd => ?_
    have hdF : d ∉ fpS a adr (keysT chs) := fun z => by
      rcases List.mem_cons.mp z with e | e
      · obtain ⟨st, g, _⟩ := hS.seating
        rw [← e, hd] at g; cases g
      · obtain ⟨m, hm, e⟩ := List.mem_map.mp e
        have g := hS.on m hm
        rw [e, hd] at g; cases g
    have hbd : b ≠ d := fun e => by have g := hS.seated; rw [e, hd] at g; cases g
    have hpd : p1 ≠ d := fun e => by obtain ⟨dx, g⟩ := hS.here; rw [e, hd] at g; cases g
    have hH0d : H d = none := by
      cases e : H d with
      | none => rfl
      | some o => rw [s2 _ _ e] at hd; cases hd
    have s3 : Same H2 (upd H2 d (.dK [])) := fun b o z => by rw [upd_ne (ne_of_none z hd)]; exact z
    have hd3 : upd H2 d (.dK []) d = some (.dK (kvT vA ([] : List (PySem.Str × Addr)))) := upd_same
    have hN3 := (hN.more hd).keep (Kp.same s3)
    have hS3 := hS.same s3
    generalize upd H2 d (.dK []) = H3 at s3 hd3 hN3 hS3 ⊢
    obtain ⟨dxs, xs1, xs2, hsc, _⟩ := hN3.sc
    refine ⟨_, rfl, sc, dxs, _, rfl, hsc, rfl, sc, chs, cls, rfl, hN3.scene, ok, fun lo ys H4 pm pw s4 hlo => ?_⟩
    have ndy : ys.Nodup := pm.nodup_iff.mpr ok.ndc
    have leny : ys.length < 64 := by rw [pm.length_eq]; unfold keysT; rw [List.length_map]; exact ok.lenc
    have memy : ∀ x ∈ ys, x ∈ keysT cls := fun x hx => pm.mem_iff.mp hx
    have s5 : Same H3 (upd H4 lo (.lst (ys.map V.str))) := fun b o z => by rw [upd_ne (ne_of_none (s4 _ _ z) hlo)]; exact s4 _ _ z
    have hlo5 : upd H4 lo (.lst (ys.map V.str)) lo = some (.lst (ys.map V.str)) := upd_same
    have loF : lo ∉ d :: fpS a adr (keysT chs) := fun z => by
      rcases List.mem_cons.mp z with e | e
      · have := s4 _ _ hd3; rw [← e, hlo] at this; cases this
      · rcases List.mem_cons.mp e with e | e
        · obtain ⟨st, g, _⟩ := hS3.seating
          have := s4 _ _ g; rw [← e, hlo] at this; cases this
        · obtain ⟨m, hm, e⟩ := List.mem_map.mp e
          have := s4 _ _ (hS3.on m hm); rw [e, hlo] at this; cases this
    have hd5 := s5 _ _ hd3
    have hN5 := hN3.keep (Kp.same s5)
    have hS5 := hS3.same s5
    have s25 : Same H (upd H4 lo (.lst (ys.map V.str))) := (s2.trans s3).trans s5
    generalize upd H4 lo (.lst (ys.map V.str)) = H5 at s5 hlo5 hd5 hN5 hS5 s25 ⊢
    clear s4 hlo hN3 hS3 hd3 hN hS hsc
    refine ⟨lo, rfl, ⟨_, SqL.of hlo5⟩, for_list (K := K) (xs := ys.map V.str) (fun j σ H' => ∃ S pp zz v4, σ = [some (.ref p), some (.ref sc), some (.ref p1), some (.ref d), v4] ∧ SeatH CK H' p1 sc a b adr (keysT chs) S ∧ SOk (ScM chs cls) S (gr (ScM chs cls) (ys.take j)) ∧
      H' d = some (.dK (kvT vA pp)) ∧ (∀ x ∈ keysT pp, x ∈ ys.take j) ∧ (keysT pp).Nodup ∧ Kp (d :: fpS a adr (keysT chs)) H5 H' ∧ PPs chs cls ys H' j pp zz ∧ KeptR (ScM chs cls) (ys.take j) S (pp.map fun x => (x.1, zz x.1))) ⟨S0, [], fun _ => [], none, rfl, hS5, sok0 _, hd5, fun x hx => (nomatch hx), List.nodup_nil, Kp.refl _ _, ⟨fun x hx => (nomatch hx), fun x hx => (nomatch hx), fun x hx => (nomatch hx), fun x hx => (nomatch hx)⟩, KeptR.nil⟩ (fun j σ H' _ ⟨S, pp, zz, v4, _, _, _, _, _, _, k, _⟩ => SqL.of (k _ _ hlo5 loF)) ?_ ?_⟩
    · rintro j x σ H6 hx ⟨S, pp, zz, v4, rfl, hS6, O6, hd6, hpk, hnd, k6, PA, hKR⟩
      rw [List.getElem?_map] at hx
      cases hc : ys[j]? with
      | none => rw [hc] at hx; cases hx
      | some c =>
        rw [hc] at hx
        cases Option.some.inj hx
        have et : ys.take (j + 1) = ys.take j ++ [c] := by rw [List.take_add_one, hc]; rfl
        have ndj : (ys.take j).Nodup := ndy.sublist (List.take_sublist _ _)
        have cnj : c ∉ ys.take j := nd_take ndy hc
        have lenj : (ys.take j).length < 63 := by
          have := (List.getElem?_eq_some_iff.mp hc).1
          rw [List.length_take]; omega
        have gnm : ∀ x ∈ gr (ScM chs cls) (ys.take j), x ∈ keysT cls := fun x hx => memy x (List.mem_of_mem_take (gr_sub _ _ x hx))
        have gnd := gr_nd (X := ScM chs cls) ndj
        have glen : (gr (ScM chs cls) (ys.take j)).length < 63 := Nat.lt_of_le_of_lt (len_sub gnd (gr_sub _ _)) lenj
        have gcn : c ∉ gr (ScM chs cls) (ys.take j) := fun z => cnj (gr_sub _ _ c z)
        have hcm := memy c (List.mem_of_getElem? hc)
        have hN6 := hN5.keep k6
        obtain ⟨dx6, h6⟩ := hS6.here
        refine ⟨_, rfl, p1, dx6, _, rfl, h6, rfl, _, rfl, p1, sc, a, b, adr, chs, cls, S, _, c, rfl, hS6, hN6.sub (fun u hu => .tail _ hu), O6, ok, hcm, gnm, by omega, gnd, gcn, fun yes H7 S7 hS7 O7 hA7 k7 => ?_, fun no H7 s7 => ?_⟩
        · refine ⟨true, rfl, ?_⟩
          have PA7 : PPs chs cls ys H7 (j + 1) pp zz := by
            refine ⟨fun x hx => k7 _ _ (PA.at_ x hx) (hS6.not_s (PA.at_ x hx) (fun l e => (nomatch e)) fun e => ?_), PA.pap, fun x hx z => ?_, fun x hx => ?_⟩
            · obtain ⟨st, g, _⟩ := hS6.seating
              have := PA.at_ x hx
              rw [e, g] at this; cases this
            · rw [et, gr_yes yes] at z
              rcases List.mem_append.mp z with z | z
              · exact PA.no x hx z
              · exact cnj (List.mem_singleton.mp z ▸ hpk x hx)
            · rw [et] at hx ⊢
              rw [gr_yes yes]
              rcases List.mem_append.mp hx with z | z
              · exact (PA.all x z).imp (fun q => List.mem_append_left _ q) id
              · exact .inl (List.mem_append_right _ z)
          refine ⟨S7, pp, zz, _, rfl, hS7, by rw [et, gr_yes yes]; exact O7, k7 _ _ hd6 hdF, fun x hx => by rw [et]; exact List.mem_append_left _ (hpk x hx), hnd, k6.trans (k7.mono fun u hu => .tail _ hu), PA7, by rw [et]; exact .yes hKR hA7⟩
        · refine ⟨false, rfl, ?_⟩
          have hS7 := hS6.same s7
          have h7 := s7 _ _ h6
          refine ⟨_, rfl, p1, dx6, _, rfl, h7, rfl, _, rfl, p1, sc, a, b, adr, chs, cls, S, _, c, rfl, hS7, (hN6.keep (Kp.same s7)).sub (fun u hu => .tail _ hu), O6, ok, hcm, gnm, glen, gnd, gcn, no, fun t zs H8 s8 ht8 ht0 hz8 srt8 pap8 hPD8 => ?_⟩
          have hd8 := s8 _ _ (s7 _ _ hd6)
          have cpp : c ∉ keysT pp := fun z => cnj (hpk c z)
          have lpp : pp.length ≤ (ys.take j).length := by
            have := len_sub hnd hpk
            unfold keysT at this
            rwa [List.length_map] at this
          refine ⟨_, rfl, _, rfl, d, _, rfl, DPut.k (k := Sum.inr c) hd8 (by unfold kvT; rw [List.length_map, sizeLine_eq]; omega), ?_⟩
          rw [show (V.ref t : V) = vA t from rfl, put_new cpp]
          have hS8 : SeatH CK (upd H8 d (.dK (kvT vA (pp ++ [(c, t)])))) p1 sc a b adr (keysT chs) S := (hS7.same s8).offd (d := d) (fun u o z hu e => ?_) fun u o n z => by rw [upd_ne n]; exact z
          · have tne : ∀ x ∈ pp, x.2 ≠ d := fun x hx e => by
              have := PA.at_ x hx
              rw [e, hd6] at this; cases this
            have ntd : t ≠ d := fun e => by rw [e, hd8] at ht8; cases ht8
            have ek : keysT (pp ++ [(c, t)]) = keysT pp ++ [c] := by unfold keysT; rw [List.map_append]; rfl
            have PA8 : PPs chs cls ys (upd H8 d (.dK (kvT vA (pp ++ [(c, t)])))) (j + 1) (pp ++ [(c, t)]) (fun y => if y = c then zs else zz y) := by
              refine ⟨fun x hx => ?_, fun x hx => ?_, fun x hx z => ?_, fun x hx => ?_⟩
              · rcases List.mem_append.mp hx with z | z
                · have nx : x.1 ≠ c := fun e => cpp (by rw [← e]; exact List.mem_map.mpr ⟨x, z, rfl⟩)
                  rw [upd_ne (tne x z), if_neg nx]
                  exact s8 _ _ (s7 _ _ (PA.at_ x z))
                · cases List.mem_singleton.mp z
                  rw [upd_ne ntd]
                  rw [if_pos rfl]
                  exact ht8
              · rw [ek] at hx
                rcases List.mem_append.mp hx with z | z
                · have nx : x ≠ c := fun e => cpp (by rw [← e]; exact z)
                  rw [if_neg nx]
                  exact PA.pap x z
                · cases List.mem_singleton.mp z
                  rw [if_pos rfl]
                  exact ⟨⟨ys.take j, ys.drop (j + 1), split_at hc, pap8⟩, hz8, srt8⟩
              · rw [ek] at hx
                rw [et, gr_no no] at z
                rcases List.mem_append.mp hx with y | y
                · exact PA.no x y z
                · exact gcn (List.mem_singleton.mp y ▸ z)
              · rw [et] at hx ⊢
                rw [gr_no no, ek]
                rcases List.mem_append.mp hx with y | y
                · exact (PA.all x y).imp id fun q => List.mem_append_left _ q
                · exact .inr (List.mem_append_right _ y)
            refine ⟨S, pp ++ [(c, t)], _, _, rfl, hS8, by rw [et, gr_no no]; exact O6, upd_same, fun x hx => ?_, ?_, (k6.trans (Kp.same (s7.trans s8))).trans (Kp.at (by simp)), PA8, ?_⟩
            rotate_left 2
            · have em : (pp ++ [(c, t)]).map (fun x => (x.1, if x.1 = c then zs else zz x.1)) = (pp.map fun x => (x.1, zz x.1)) ++ [(c, zs)] := by
                rw [List.map_append]
                congr 1
                · refine List.map_congr_left fun x hx => ?_
                  rw [if_neg fun e => cpp (by rw [← e]; exact List.mem_map.mpr ⟨x, hx, rfl⟩)]
                · show [(c, if c = c then zs else zz c)] = _
                  rw [if_pos rfl]
              rw [et]
              show KeptR _ _ _ ((pp ++ [(c, t)]).map fun x => (x.1, if x.1 = c then zs else zz x.1))
              rw [em]
              exact .no hKR hPD8
            · rw [et]
              unfold keysT at hx
              rw [List.map_append] at hx
              rcases List.mem_append.mp hx with h | h
              · exact List.mem_append_left _ (hpk x h)
              · exact List.mem_append_right _ h
            · unfold keysT
              rw [List.map_append]
              exact snoc_nd hnd cpp
          · rcases List.mem_cons.mp hu with g | hu
            · exact hpd (g.symm.trans e)
            · rcases List.mem_cons.mp hu with g | hu
              · exact hdF (by rw [← e, g]; exact .head _)
              · rcases List.mem_cons.mp hu with g | hu
                · exact hbd (g.symm.trans e)
                · exact hdF (by rw [← e]; exact .tail _ hu)
    · rintro σ H6 ⟨S, pp, zz, v4, rfl, hS6, O6, hd6, hpk, hnd, k6, PA, hKR⟩
      rw [List.length_map, List.take_length] at hKR
      rw [List.length_map] at PA
      rw [List.length_map, List.take_length] at O6 hpk
      have PAno := PA.no
      have PAall := PA.all
      rw [List.take_length] at PAno PAall
      obtain ⟨dx6, h6⟩ := hS6.here
      obtain ⟨st, hst, asc, lst, hget⟩ := hS6.seating
      have pF : p ∉ d :: fpS a adr (keysT chs) := fun z => by
        rcases List.mem_cons.mp z with e | e
        · rw [e, hH0d] at hp; cases hp
        · rw [H0F p e] at hp; cases hp
      have hp6 := k6 _ _ (s25 _ _ hp) pF
      have far6 : ∀ u o, H u = some o → H6 u = some o := fun u o z => k6 _ _ (s25 _ _ z) fun e => by
        rcases List.mem_cons.mp e with e | e
        · rw [e, hH0d] at z; cases z
        · rw [H0F u e] at z; cases z
      have lpp : pp.length ≤ ys.length := by
        have := len_sub hnd hpk
        unfold keysT at this
        rwa [List.length_map] at this
      refine ⟨_, rfl, p1, CK, dx6, _, _, rfl, h6, T.clK, T.n2, rfl, a, kvT vS st, rfl, .inl hst, fun t ht => ?_⟩
      rw [show ((kvT vS st).map fun kv => kV kv.1) = (keysT st).map V.str by unfold kvT keysT; rw [List.map_map, List.map_map]; rfl]
      have s7 : Same H6 (upd H6 t (.tup ((keysT st).map V.str))) := fun b o z => by rw [upd_ne (ne_of_none z ht)]; exact z
      have ht7 : upd H6 t (.tup ((keysT st).map V.str)) t = some (.tup ((keysT st).map V.str)) := upd_same
      have n_p1 : p1 ≠ p := fun e => by rw [e, hp6] at h6; injection h6 with g; injection g with g1 g2 g3; cases g3
      generalize upd H6 t (.tup ((keysT st).map V.str)) = H7 at s7 ht7 ⊢
      have hp7 := s7 _ _ hp6
      refine ⟨_, rfl, p, CT, dx, [], rfl, hp7, T.cl, T.nLot, (by show 0 < 1000; decide), ?_⟩
      rw [show putF "lot" (V.ref t) [] = ([("lot", V.ref t)] : List (PySem.Str × V)) from rfl]
      have f8 : ∀ u o, u ≠ p → H7 u = some o → upd H7 p (.ins CT dx [("lot", V.ref t)]) u = some o := fun u o n z => by rw [upd_ne n]; exact z
      have hp8 : upd H7 p (.ins CT dx [("lot", V.ref t)]) p = some (.ins CT dx [("lot", V.ref t)]) := upd_same
      generalize upd H7 p (.ins CT dx [("lot", V.ref t)]) = H8 at f8 hp8 ⊢
      refine ⟨_, rfl, p1, CK, dx6, _, _, rfl, f8 _ _ n_p1 (s7 _ _ h6), T.clK, T.n2, rfl, _, rfl, p, CT, dx, _, rfl, hp8, T.cl, T.nSea, (by show 1 < 1000; decide), ?_⟩
      rw [show putF "seating" (V.ref a) [("lot", V.ref t)] = ([("lot", V.ref t), ("seating", V.ref a)] : List (PySem.Str × V)) from rfl]
      have f9 : ∀ u o, u ≠ p → H7 u = some o → upd H8 p (.ins CT dx [("lot", V.ref t), ("seating", V.ref a)]) u = some o := fun u o n z => by rw [upd_ne n]; exact f8 _ _ n z
      have hp9 : upd H8 p (.ins CT dx [("lot", V.ref t), ("seating", V.ref a)]) p = some (.ins CT dx [("lot", V.ref t), ("seating", V.ref a)]) := upd_same
      generalize upd H8 p (.ins CT dx [("lot", V.ref t), ("seating", V.ref a)]) = H9 at f9 hp9 ⊢
      have ndp : d ≠ p := fun e => pF (by rw [e]; exact .head _)
      have hd9 := f9 _ _ ndp (s7 _ _ hd6)
      have lkp : (keysT pp).length < 64 := by unfold keysT; rw [List.length_map]; omega
      refine ⟨_, rfl, d, kvT vA pp, keysT pp, rfl, .inl hd9, keysT_kv pp, lkp, fun zs q1 hz hzs hq1 => ?_⟩
      have ndz : zs.Nodup := hz.nodup_iff.mpr hnd
      have lenz : zs.length < 64 := by rw [hz.length_eq]; exact lkp
      have s10 : Same H9 (upd H9 q1 (.lst (zs.map V.str))) := fun b o z => by rw [upd_ne (ne_of_none z hq1)]; exact z
      have hq10 : upd H9 q1 (.lst (zs.map V.str)) q1 = some (.lst (zs.map V.str)) := upd_same
      generalize upd H9 q1 (.lst (zs.map V.str)) = H10 at s10 hq10 ⊢
      refine ⟨q1, rfl, ⟨_, SqL.of hq10⟩, fun D hD => dc_list (K := K) (xs := zs.map V.str) (fun i H' => H' = upd H10 D (.dK (kvT vA ((zs.take i).map fun y => (y, (getT pp y).getD default))))) rfl (fun i H' _ e => by subst e; exact SqL.of (by rw [upd_ne (ne_of_none hq10 hD)]; exact hq10)) ?_ ?_⟩
      · rintro i x H' hx rfl
        rw [List.getElem?_map] at hx
        cases hi : zs[i]? with
        | none => rw [hi] at hx; cases hx
        | some m =>
          rw [hi] at hx
          cases Option.some.inj hx
          obtain ⟨v, hv⟩ := getT_key (hz.mem_iff.mp (List.mem_of_getElem? hi))
          refine ⟨rfl, _, rfl, _, rfl, _, rfl, d, _, rfl, dgetT (.inl (by rw [upd_ne (ne_of_none (s10 _ _ hd9) hD)]; exact s10 _ _ hd9)) hv, _, Sum.inr m, rfl, upd_same, ?_, ?_⟩
          · exact len_mk lenz
          · rw [upd_upd]
            have e : vA v = vA ((getT pp m).getD default) := by rw [hv]; rfl
            rw [e, put_mk ndz hi]
      · rintro H' rfl
        rw [List.length_map, List.take_length]
        have kz : keysT (zs.map fun y => (y, (getT pp y).getD default)) = zs := by unfold keysT; rw [List.map_map]; exact List.map_id _
        have inz : ∀ x ∈ (zs.map fun y => (y, (getT pp y).getD default)), x ∈ pp := fun x hx => by
          obtain ⟨y, hy, rfl⟩ := List.mem_map.mp hx
          obtain ⟨v, hv⟩ := getT_key (hz.mem_iff.mp hy)
          rw [hv]
          exact getT_in hv
        have kzz : ∀ x, x ∈ keysT (zs.map fun y => (y, (getT pp y).getD default)) ↔ x ∈ keysT pp := fun x => by rw [kz]; exact hz.mem_iff
        generalize (zs.map fun y => (y, (getT pp y).getD default)) = pz at kz inz kzz ⊢
        have s11 : Same H9 (upd H10 D (.dK (kvT vA pz))) := fun b o z => by rw [upd_ne (ne_of_none (s10 _ _ z) hD)]; exact s10 _ _ z
        have hD11 : upd H10 D (.dK (kvT vA pz)) D = some (.dK (kvT vA pz)) := upd_same
        have hD0 : H D = none := by
          cases e : H D with
          | none => rfl
          | some o =>
            by_cases e2 : D = p
            · rw [e2] at hD; rw [s10 _ _ hp9] at hD; cases hD
            · have z := s10 _ _ (f9 _ _ e2 (s7 _ _ (far6 D o e)))
              rw [hD] at z; cases z
        generalize upd H10 D (.dK (kvT vA pz)) = H11 at s11 hD11
        refine ⟨_, rfl, p, CT, dx, _, rfl, s11 _ _ hp9, T.cl, T.nPap, (by show 2 < 1000; decide), ?_⟩
        rw [show putF "papers" (V.ref D) [("lot", V.ref t), ("seating", V.ref a)] = ([("lot", V.ref t), ("seating", V.ref a), ("papers", V.ref D)] : List (PySem.Str × V)) from rfl]
        have ntp : t ≠ p := fun e => by rw [e, hp7] at ht7; cases ht7
        have nap : a ≠ p := fun e => by rw [e] at hst; rw [hst] at hp6; cases hp6
        have nDp : D ≠ p := fun e => by rw [e, s10 _ _ hp9] at hD; cases hD
        have domk : ∀ x, x ∈ keysT st ↔ x ∈ gr (ScM chs cls) ys := fun x => by
          rw [← O6.dom x]
          refine ⟨fun h => ?_, fun ⟨m, h⟩ => ?_⟩
          · obtain ⟨v, hv⟩ := getT_key h
            exact ⟨v, by rw [← hget]; exact hv⟩
          · rw [← hget] at h
            exact List.mem_map.mpr ⟨_, getT_in h, rfl⟩
        refine q t a D (keysT st) st pz zz _ ⟨⟨ys, S, pm, pw, domk, ⟨O6.mem, O6.nd, O6.cap, O6.hd, fun c => (O6.dom c).trans (domk c).symm⟩, hget, fun x hx => (PA.pap x ((kzz x).mp hx)).1⟩, asc.nodup, rfl, asc, by rw [kz]; exact ndz, by rw [kz]; exact hzs, fun x => ?_, fun x hx => (PA.pap x ((kzz x).mp hx)).2, ⟨ys, S, _, pm, pw, hKR, hget, fun x hx => ?_⟩⟩
          ⟨⟨dx, upd_same⟩, by rw [upd_ne ntp]; exact s11 _ _ (f9 _ _ ntp ht7), by rw [upd_ne nap]; exact s11 _ _ (f9 _ _ nap (s7 _ _ hst)), by rw [upd_ne nDp]; exact hD11, fun x hx => ?_⟩ (H0F a (.head _)) hD0 fun u o z n => ?_
        · rw [kzz x, domk x]
          refine ⟨fun h => ⟨memy x (hpk x h), PAno x h⟩, fun h => (PAall x (pm.mem_iff.mpr h.1)).resolve_left h.2⟩
        · obtain ⟨v, hv⟩ := getT_key ((kzz x).mp hx)
          refine getT_mem ?_ (List.mem_map.mpr ⟨(x, v), getT_in hv, rfl⟩)
          have : keysT (pp.map fun x => (x.1, zz x.1)) = keysT pp := by unfold keysT; rw [List.map_map]; rfl
          rw [this]; exact hnd
        · have z := PA.at_ x (inz x hx)
          have n1 : x.2 ≠ p := fun e => by rw [e, hp6] at z; cases z
          rw [upd_ne n1]
          exact s11 _ _ (f9 _ _ n1 (s7 _ _ z))
        · have nu : u ≠ p := fun e => n (List.mem_singleton.mpr e)
          rw [upd_ne nu]
          exact s11 _ _ (f9 _ _ nu (s7 _ _ (far6 u o z)))
theorem scKept : FnScope ["scene"] ["scene"] (defScope sKept) := ⟨rfl, rfl, rfl, by decide +kernel, rfl, by decide +kernel, by decide +kernel⟩
def spKept (K : PySem.W.Frag) (CS CC : Addr) : Sp := fun vs H Q _ => ∃ (sc : Addr) (chs : Chs) (cls : Cls'), vs = [.ref sc] ∧ SceneH K CS CC H sc chs cls ∧ OkC chs cls ∧
  ∀ (t : Addr) (lot : List PySem.Str) (H' : Hp), KeptOf chs cls lot → H' t = some (.tup (lot.map V.str)) → Same H H' → Q (.ref t) H'
theorem ok_kept {f CT CK CS CC : Addr} {fd : FuncData} (F : Fun K "kept" "kept" sKept f fd) (T : TxT K mg CT CK CS) (c_Kept : CalI P w K mg base CT 5 "Kept" ["self", "scene"] (spTInit K CT CS CC)) : FnOk P w K mg base CX0 7 f fd ["scene"] (spKept K CS CC) := by
  refine F.ok scKept (fun vs H Q E h => ?_) (fun cdv A outer s H vs Q E hr h => ?_)
  · obtain ⟨sc, chs, cls, rfl, _⟩ := h
    rfl
  · obtain ⟨sc, chs, cls, rfl, hC, ok, q⟩ := h
    refine ⟨_, (pss_one (ps_ret (pe_fld (pe_calI c_Kept (hr.mono (by decide)) rfl (pa_cons (pv 0) pa_nil)) rfl))), ?_⟩
    refine ⟨_, rfl, fun p dx hp hdx npd => ?_⟩
    have s1 : Same H (upd (upd H dx (.own p)) p (.ins CT dx [])) := fun b o z => by rw [upd_ne (ne_of_none z hp), upd_ne (ne_of_none z hdx)]; exact z
    have hp1 : (upd (upd H dx (.own p)) p (.ins CT dx [])) p = some (.ins CT dx []) := upd_same
    generalize upd (upd H dx (.own p)) p (.ins CT dx []) = H1 at s1 hp1 ⊢
    refine ⟨p, dx, sc, chs, cls, rfl, hp1, hC.same s1, ok, fun t a e lot st pp zz H2 hM hK _ _ k2 => ⟨rfl, ?_⟩⟩
    obtain ⟨dx2, hp2⟩ := hK.here
    refine ⟨p, CT, dx2, _, _, rfl, hp2, T.cl, T.nLot, rfl, ?_⟩
    exact q t lot H2 hM.of hK.lt fun u o z => k2 u o (s1 u o z) fun hu => by rw [List.mem_singleton.mp hu, hp] at z; cases z
end
end Mc
namespace Mc
open PySem L2 PySem.Spec PyProof.Rows
/-! ### sets of texts whose table can be walked: set(xs), sorted(s) -/
def txtOf (e : Int × Value) : PySem.Str := match e.2 with
  | .str x _ => x
  | _ => ""
def TxtE (P : Program) (w : World) (e : Int × Value) : Prop := ∃ x tk, e.2 = Value.str x tk ∧ e.1 = (mixKind P w).hash (Sum.inr x)
/-- the set of texts at a: its members are those of ys -/
structure SetX (P : Program) (w : World) (h : Heap) (a : Addr) (ys : List PySem.Str) (n : Nat) (o : Obj) (es : Array (Int × Value)) (ep : Nat) (t : SetTable) : Prop where
  at_ : h.get? a = some o
  ex : o.ExactSet
  dat : o.data = .set es ep t
  good : ∀ e ∈ es.toList, TxtE P w e
  nd : (es.toList.map txtOf).Nodup
  mem : ∀ k, k ∈ ys ↔ k ∈ es.toList.map txtOf
  room : es.size < scanBound
  fits : t.fits es.size = true
  num : es.size = n
  ris : Ris t.place.toList
  led : w.params.followText "set-order" = true ∨ t.led = true
def SetXs (P : Program) (w : World) (h : Heap) (a : Addr) (ys : List PySem.Str) (n : Nat) : Prop := ∃ o es ep t, SetX P w h a ys n o es ep t
section
variable {P : Program} {w : World} {A : Around} {E : Value → Shared → Prop} {s : Shared} {a : Addr} {ys : List PySem.Str} {n : Nat} {h h' : Heap}
theorem SetXs.at (R : SetXs P w h a ys n) (k : ∀ o, h.get? a = some o → h'.get? a = some o) : SetXs P w h' a ys n := by
  obtain ⟨o, es, ep, t, r⟩ := R
  exact ⟨o, es, ep, t, k o r.at_, r.ex, r.dat, r.good, r.nd, r.mem, r.room, r.fits, r.num, r.ris, r.led⟩
theorem txt_elems {l : List (Int × Value)} (g : ∀ e ∈ l, TxtE P w e) : ElemsOf (mixKind P w) l := fun e he => by
  obtain ⟨x, tk, h1, h2⟩ := g e he
  exact ⟨⟨Sum.inr x, by rw [h1]; exact beq_self_eq_true x, h2⟩, by rw [h1]; rfl⟩
theorem txt_is {e : Int × Value} (g : TxtE P w e) (k : PySem.Str) : (mixKind P w).is (Sum.inr k) e.2 = true ↔ txtOf e = k := by
  obtain ⟨x, tk, h1, _⟩ := g
  unfold txtOf
  rw [h1]
  show ((x == k) = true) ↔ x = k
  exact beq_iff_eq
theorem txt_mem {l : List (Int × Value)} (g : ∀ e ∈ l, TxtE P w e) (k : PySem.Str) : k ∈ l.map txtOf ↔ ∃ e ∈ l, (mixKind P w).is (Sum.inr k) e.2 = true := by
  rw [List.mem_map]
  exact ⟨fun ⟨e, he, q⟩ => ⟨e, he, (txt_is (g e he) k).2 q⟩, fun ⟨e, he, q⟩ => ⟨e, he, (txt_is (g e he) k).1 q⟩⟩
/-- behind the laying: the table may grow -/
theorem setX_tail {g : Bool → Sem Unit} (hg : ∀ (b : Bool) (s₁ : Shared) (Q' : Unit → Shared → Prop), Q' () s₁ → wpAny (model P w) A (g b) Q' E s₁) {o : Obj} {es : Array (Int × Value)} {ep : Nat} {t : SetTable} (ho : s.heap.get? a = some o) (hex : o.ExactSet)
    (hd : o.data = .set es ep t) {e1 : Array (Int × Value)} {t2 : SetTable} {zs : List PySem.Str} (g1 : ∀ e ∈ e1.toList, TxtE P w e) (nd1 : (e1.toList.map txtOf).Nodup) (m1 : ∀ k, k ∈ zs ↔ k ∈ e1.toList.map txtOf) (hb1 : e1.size < scanBound) (hf2 : t2.fits e1.size = true)
    (hr : Ris t2.place.toList) (hl : w.params.followText "set-order" = true ∨ t2.led = true) {dum : Bool} {R : Option Bool → Shared → Prop} (hR : ∀ h', Heap.SameBut a s.heap h' → SetXs P w h' a zs e1.size → R (some true) { s with heap := h' }) :
    wpAny (model P w) A (do
        storeSet a e1 t2
        if (!dum && t2.tooFull) = true then do
            g (relayAll t2 e1 (SetTable.grown e1.size)).2.2
            storeSet a (relayAll t2 e1 (SetTable.grown e1.size)).1 (relayAll t2 e1 (SetTable.grown e1.size)).2.1
            pure (some true)
          else pure (some true)) R E s := by
  refine wpAny_bind (wpAny_storeSet_of ho hd ?_ (fits_of_scanBound hb1))
  have at1 := store_at (es' := e1) (t' := t2) ho hd
  have sb1 := Heap.SameBut.update s.heap a (Obj.putSet e1 t2)
  split
  · have pm := relayAll_perm t2 e1 (SetTable.grown e1.size)
    have f3 := relayAll_fits t2 e1 (SetTable.grown e1.size)
    have r3 := relayAll_ris t2 e1 (SetTable.grown e1.size)
    have l3 := relayAll_led t2 e1 (SetTable.grown e1.size)
    generalize relayAll t2 e1 (SetTable.grown e1.size) = Z at pm f3 r3 l3 ⊢
    obtain ⟨e2, t3, gave⟩ := Z
    dsimp only at pm f3 r3 l3 ⊢
    have hsz : e2.size = e1.size := by rw [← Array.length_toList, pm.length_eq, Array.length_toList]
    refine wpAny_bind (hg _ _ _ (wpAny_bind (wpAny_storeSet_of at1 rfl ?_ (fits_of_scanBound (by rw [hsz]; exact hb1)))))
    refine wpAny_pure (hR _ (sb1.trans (Heap.SameBut.update _ a _)) ⟨_, e2, _, t3, store_at (es' := e2) (t' := t3) at1 rfl, hex, rfl, fun e he => g1 e (pm.mem_iff.mp he), (pm.map txtOf).nodup_iff.mpr nd1, fun k => (m1 k).trans (pm.map txtOf).mem_iff.symm, by rw [hsz]; exact hb1, f3, hsz, r3, hl.imp id fun z => by rw [l3]; exact z⟩)
  · exact wpAny_pure (hR _ sb1 ⟨_, e1, _, t2, at1, hex, rfl, g1, nd1, m1, hb1, hf2, rfl, hr, hl⟩)
theorem setX_add {k : PySem.Str} {tk : Tok} {Q : Bool → Shared → Prop} (R : SetXs P w s.heap a ys n) (room : n + 1 < scanBound)
    (hQ : ∀ b h' n', Heap.SameBut a s.heap h' → SetXs P w h' a (ys ++ [k]) n' → n' ≤ n + 1 → Q b { s with heap := h' }) : wpAny (model P w) A (setAddHashed a (.str k tk) ((mixKind P w).hash (Sum.inr k))) Q E s := by
  obtain ⟨o, es, ep, t, R⟩ := R
  have ho := R.at_
  have hd := R.dat
  have hkey : (mixKind P w).is (Sum.inr k) (.str k tk) = true := beq_self_eq_true k
  have hsc : (Value.str k tk).scannable = true := rfl
  have hel : ElemsOf (mixKind P w) es.toList := txt_elems R.good
  unfold setAddHashed setAddHashedIn
  refine wpAny_holding (wpAny_bind (wpAny_setState_of ho hd R.fits ?_))
  dsimp only
  rw [byScan_of hsc R.room hel]
  simp only [↓reduceIte]
  unfold setAddByScan
  refine wpAny_bind (wpAny_bind (wpAny_rule (wpAny_bind (wpAny_setScan_of hkey ho hd R.fits hel ?_))))
  cases hfi : List.findIdx? (fun e => (mixKind P w).is (Sum.inr k) e.2) es.toList with
  | some j =>
    dsimp only
    obtain ⟨hj, pj, _⟩ := List.findIdx?_eq_some_iff_getElem.mp hfi
    have hk : k ∈ ys := (R.mem k).2 ((txt_mem (P := P) (w := w) R.good k).2 ⟨es.toList[j], List.getElem_mem hj, pj⟩)
    refine wpAny_pure (wpAny_pure ?_)
    exact hQ _ s.heap n (Heap.SameBut.refl a s.heap) ⟨o, es, ep, t, ho, R.ex, hd, R.good, R.nd, fun i => by
      rw [List.mem_append, List.mem_singleton, ← R.mem i]
      exact ⟨fun z => z.elim id (fun e => e ▸ hk), .inl⟩, R.room, R.fits, R.num, R.ris, R.led⟩ (Nat.le_succ _)
  | none =>
    dsimp only
    have hnk : k ∉ es.toList.map txtOf := fun z => by
      obtain ⟨e, he, q⟩ := (txt_mem (P := P) (w := w) R.good k).1 z
      have c := List.findIdx?_eq_none_iff.mp hfi e he
      rw [q] at c
      cases c
    have hgw : ∀ (b : Bool) {s₁ : Shared} {Q' : Unit → Shared → Prop}, Q' () s₁ → wpAny (model P w) A (match b with | true => rule "set.scan.the-table-gave-way" | false => pure ()) Q' E s₁ :=
      fun b s₁ Q' q => by cases b <;> first | exact wpAny_pure q | exact wpAny_rule q
    have pm := layNew_perm t es ((mixKind P w).hash (Sum.inr k)) (.str k tk)
    have f1 := layNew_fits t es ((mixKind P w).hash (Sum.inr k)) (.str k tk)
    have r1 := layNew_ris t es ((mixKind P w).hash (Sum.inr k)) (.str k tk) R.ris
    have l1 := layNew_led t es ((mixKind P w).hash (Sum.inr k)) (.str k tk)
    generalize layNew t es ((mixKind P w).hash (Sum.inr k)) (.str k tk) = Z at pm f1 r1 l1 ⊢
    obtain ⟨e1, t1, dum, gave⟩ := Z
    dsimp only at pm f1 r1 l1 ⊢
    rw [Array.toList_push] at pm
    have pc : e1.toList.Perm (((mixKind P w).hash (Sum.inr k), Value.str k tk) :: es.toList) := pm.trans (List.perm_append_singleton _ _)
    have pk : (e1.toList.map txtOf).Perm (k :: es.toList.map txtOf) := pc.map txtOf
    have g1 : ∀ e ∈ e1.toList, TxtE P w e := fun e he => by
      rcases List.mem_cons.mp (pc.mem_iff.mp he) with z | z
      · rw [z]; exact ⟨k, tk, rfl, rfl⟩
      · exact R.good e z
    have nd1 : (e1.toList.map txtOf).Nodup := pk.nodup_iff.mpr (List.nodup_cons.mpr ⟨hnk, R.nd⟩)
    have m1 : ∀ i, i ∈ ys ++ [k] ↔ i ∈ e1.toList.map txtOf := fun i => by
      rw [List.mem_append, List.mem_singleton, R.mem i, pk.mem_iff, List.mem_cons]
      exact Or.comm
    have hsz : e1.size = n + 1 := by rw [← Array.length_toList, pc.length_eq, List.length_cons, Array.length_toList, R.num]
    have hb1 : e1.size < scanBound := by rw [hsz]; exact room
    have hled : w.params.followText "set-order" = true ∨ t1.led = true := R.led.imp id fun z => by rw [l1]; exact z
    have fin : ∀ b h', Heap.SameBut a s.heap h' → SetXs P w h' a (ys ++ [k]) e1.size → Q b { s with heap := h' } := fun b h' sb r => hQ b h' _ sb r (Nat.le_of_eq hsz)
    refine wpAny_bind (hgw _ ?_)
    split
    · refine wpAny_bind ?_
      rw [hashByValue_scannable 8 hsc]
      refine wpAny_pure ?_
      refine setX_tail ?_ ho R.ex hd g1 nd1 m1 hb1 ?_ ?_ ?_ ?_
      · intro b s₁ Q' q; cases b <;> first | exact wpAny_pure q | exact wpAny_rule q
      · first | (split <;> first | exact f1 | exact SetTable.fits_plain_off f1) | exact f1
      · first | (split <;> exact r1) | exact r1
      · first | (split <;> exact hled) | exact hled
      · intro h' sb r; dsimp only; exact wpAny_pure (fin _ h' sb r)
    · refine wpAny_bind (wpAny_pure ?_)
      simp only [↓reduceIte]
      refine setX_tail ?_ ho R.ex hd g1 nd1 m1 hb1 f1 r1 hled ?_
      · intro b s₁ Q' q; cases b <;> first | exact wpAny_pure q | exact wpAny_rule q
      · intro h' sb r; dsimp only; exact wpAny_pure (fin _ h' sb r)
end

/-- a set under way: it holds the first i of ys -/
def PartX (P : Program) (w : World) (ys : List PySem.Str) (a : Addr) (h : Heap) (i : Nat) (c : Nat) : Prop := SetXs P w h a (ys.take i) c ∧ c ≤ i
section
variable {P : Program} {w : World} {A : Around} {E : Value → Shared → Prop} {s : Shared} {ys : List PySem.Str}
theorem PartX.at {a : Addr} {h h' : Heap} {i c : Nat} (p : PartX P w ys a h i c) (k : ∀ o, h.get? a = some o → h'.get? a = some o) : PartX P w ys a h' i c := ⟨p.1.at k, p.2⟩
theorem PartX.start {h : Heap} {a : Addr} (ho : h.get? a = some (so (!w.params.followText "set-order"))) : PartX P w ys a h 0 0 :=
  ⟨⟨_, #[], 0, _, ho, ⟨rfl, rfl, rfl⟩, rfl, (fun e he => by simp at he), (by simp), (fun k => by simp), (by decide), (by rfl), rfl, List.Pairwise.nil, by
    show _ ∨ (!w.params.followText "set-order") = true
    cases w.params.followText "set-order"
    · exact .inr rfl
    · exact .inl rfl⟩, Nat.le_refl _⟩
theorem code_setX1 (x : Value) {Q₁ : Value → Shared → Prop} (h : Q₁ (.ref s.heap.objs.size) { s with heap := s.heap.push (so (!w.params.followText "set-order")) }) :
    codeAny (model P w) A (.call (.builtin "set.__new__") ⟨[.type "set", x], []⟩) (wants Q₁ E) s := by
  refine codeAny_of_tree ?_
  show wpAny _ A.in1 (checkBuiltinCall "set.__new__" ⟨[.type "set", x], []⟩ >>= fun _ => again (.builtin "set.__new__" ⟨[.type "set", x], []⟩)) _ _ s
  refine wpAny_bind (wpAny_of_eq (PySem.F.newCall_set_1 x) (wpAny_pure ⟨plainId_quiet PySem.F.plain_set_new _, codeAny_builtin PySem.F.entry_set_new ?_⟩))
  rw [Around.under_plainId PySem.F.plain_set_new _]
  unfold Builtin.«set.__new__» Builtin.Frozenset.newClass
  have hsub := sub_set_self
  obtain ⟨hp, g, d, tk, os⟩ := s
  dsimp only
  wp_walk
  refine wpAny_askSetting (wpAny_pure ?_)
  dsimp only
  simp only [newObj]
  exact wpAny_bind (wpAny_alloc (wpAny_pure (wpAny_pure h)))
theorem fillX {I : Addr} {fp wr : List Addr} {G : Array GenState → Array GenState → Prop} {n : Nat} {Pv : Nat → Value → Prop} {St : Nat → Shared → Prop} {R : Result → Shared → Prop} (W : WalksS P w A.in1 I fp wr G n Pv St)
    {a : Addr} (ha : a ∉ fp) (hn : n = ys.length) (hb : n + 1 < scanBound) (hv : ∀ i v, Pv i v → ∃ y t, ys[i]? = some y ∧ v = .str y t) (fin : ∀ s' c, Moved (a :: wr) G s s' → PartX P w ys a s'.heap n c → R (.ok (.ret .none)) s') :
    ∀ (k i c : Nat) (s1 : Shared), i + k = n → St i s1 → PartX P w ys a s1.heap i c → Moved (a :: wr) G s s1 → codeAny (model P w) A (.builtin "set.update.loop" ⟨[.ref a, .ref I], []⟩) R s1
  | 0, i, c, s1, e, st, p, mv => codeAny_builtin F.entry_set_update_loop <| by
    cases (Nat.add_zero i).symm.trans e
    rw [Around.under_plainId F.plain_set_update_loop _]
    refine wpAny_bind (m := pyNext (.ref I)) (W.done s1 _ _ st fun s2 hm => wpAny_pure ?_)
    exact fin s2 c (mv.trans W.gtrans (hm.mono fun b z => .tail _ z)) (p.at fun o => hm.heap a o fun z => ha (W.sub _ z))
  | k + 1, i, c, s1, e, st, p, mv => codeAny_builtin F.entry_set_update_loop <| by
    rw [Around.under_plainId F.plain_set_update_loop _]
    refine wpAny_bind (m := pyNext (.ref I)) (W.item i s1 _ _ (by omega) st fun v s2 pv st2 hm => ?_)
    obtain ⟨y, t, hy, ev⟩ := hv i v pv
    subst ev
    have p2 := p.at fun o => hm.heap a o fun z => ha (W.sub _ z)
    refine wpAny_bind (m := holding [Value.str y t] (setAdd a (.str y t))) (wpAny_holding (wpAny_holding ?_))
    refine wpAny_bind ((mixKind P w).pyHash (k := Sum.inr y) (beq_self_eq_true y) ?_)
    refine setX_add (s := { s2 with toks := s2.toks + 1 }) p2.1 (by have := p2.2; omega) fun bb h' c' but so' le' => wpAny_pure ?_
    have p3 : PartX P w ys a h' (i + 1) c' := ⟨by rw [List.take_add_one, hy]; exact so', by have := p2.2; omega⟩
    have far : ∀ b, b ≠ a → ∀ o, s2.heap.get? b = some o → h'.get? b = some o := fun b ne o z => (but.2 b ne).trans z
    refine ⟨plainId_quiet F.plain_set_update_loop _, fillX W ha hn hb hv fin k (i + 1) c' _ (by omega) ?_ p3 ?_⟩
    · exact W.frame _ s2 _ _ st2 (Nat.le_succ _) fun b hb o z => far b (fun q => ha (by rw [← q]; exact hb)) o z
    · exact mv.trans W.gtrans (((hm.mono fun b z => .tail _ z)).then_heap (Nat.le_succ _) fun b o hb z => far b (fun q => hb (by rw [q]; exact .head _)) o z)
set_option maxHeartbeats 6400000 in
theorem call_setX {l : Addr} {its : Array Value} {Q : Value → Shared → Prop} (hh : A.handled = none) (hl : s.heap.IsList l its) (hv : ∀ (i : Nat) v, its[i]? = some v → ∃ y t, ys[i]? = some y ∧ v = .str y t) (hn : its.size = ys.length) (hb : its.size + 1 < scanBound)
    (fin : ∀ (h' : Heap) (tk c : Nat), PartX P w ys s.heap.objs.size h' ys.length c → (∀ b o, s.heap.get? b = some o → h'.get? b = some o) → Q (.ref s.heap.objs.size) { s with heap := h', toks := tk }) :
    wpAny (model P w) A (call (.type "set") [.ref l]) Q E s := by
  have F0 := PySem.F.called_set
  obtain ⟨cc, tl, m1⟩ := F0.mro
  have m2 := F0.made
  have m3 := F0.sub
  have m4 := F0.notType
  have m5 := F0.canCreate
  have m6 := PySem.F.typeCall_set_1 (.ref l)
  refine wpAny_call <| codeAny_of_tree <| wpAny_pure ⟨Code.quiet_builtin _ (by decide +kernel), codeAny_builtin PySem.F.entry_type_call <| by
    rw [Around.under_plain (weight_type_call_type "set" [.ref l] []) rfl]
    repeat (any_goals (first | assumption | wp_step))
    refine codeAny_mono (code_setX1 (.ref l) (E := E) (Q₁ := fun v s1 => v = .ref s.heap.objs.size ∧ s1 = { s with heap := s.heap.push (so (!w.params.followText "set-order")) }) ⟨rfl, rfl⟩) ?_
    intro r s1 hr
    match r, hr with
    | .error e, hr => exact hr
    | .ok (.ret v), ⟨e1, e2⟩ =>
      subst e1; subst e2
      have at0 : (s.heap.push (so (!w.params.followText "set-order"))).get? s.heap.objs.size = some (so (!w.params.followText "set-order")) := Heap.get?_push_size _ rfl
      have ty : Shared.TypeIs { s with heap := s.heap.push (so (!w.params.followText "set-order")) } (.ref s.heap.objs.size) "set" := ⟨_, at0, rfl⟩
      have n1 := F0.init.lookup
      have n2 := F0.init.bind (.ref s.heap.objs.size)
      repeat (any_goals (first | assumption | wp_step))
      refine codeAny_mono (codeAny_call_builtin (R := wants (fun r s2 => r = .none ∧ ∃ h' tk c, s2 = { s with heap := h', toks := tk } ∧ PartX P w ys s.heap.objs.size h' ys.length c ∧ ∀ b o, s.heap.get? b = some o → h'.get? b = some o) E) F0.init.plain PySem.F.entry_set_init (check_set_init_1 ty ?_)) ?_
      rotate_left 1
      · intro r2 s2 hr2
        match r2, hr2 with
        | .error e, hr2 => exact hr2
        | .ok (.ret r), ⟨e1, h', tk, c, e2, pt, kp⟩ =>
          subst e1; subst e2
          repeat (any_goals (first | assumption | wp_step))
          exact fin h' _ c pt kp
      · have pre : ∀ b o, s.heap.get? b = some o → (s.heap.push (so (!w.params.followText "set-order"))).get? b = some o := fun b o z => Heap.get?_push_of_some _ z
        obtain ⟨ob, hob, hc, nn, hd⟩ := hl
        obtain ⟨c0, d0, dat, sl0⟩ := ob
        cases hc; cases hd
        have hob1 := pre _ _ hob
        have il : (s.heap.push (so (!w.params.followText "set-order"))).IsList l its := ⟨_, hob1, rfl, nn, rfl⟩
        have q1 := PySem.F.sub_list_set
        have q2 := PySem.F.sub_list_frozenset
        have q3 : (Value.type "list" == Value.type "dict") = false := by decide
        unfold Builtin.«set.__init__» noKeywords Builtin.Frozenset.updateFrom
        generalize hPI : pyIter = PI
        wp_walk
        cases hPI
        refine wpAny_pyIter_list il (wpAny_bind (wpAny_runValue ?_))
        have z1 : (s.heap.push (so (!w.params.followText "set-order"))).objs.size = s.heap.objs.size + 1 := Heap.size_push ..
        have z2 : l < s.heap.objs.size := Heap.lt_size hob
        have ne : l ≠ (s.heap.push (so (!w.params.followText "set-order"))).objs.size := by rw [z1]; exact Nat.ne_of_lt (Nat.lt_succ_of_lt z2)
        have out : s.heap.objs.size ∉ [(s.heap.push (so (!w.params.followText "set-order"))).objs.size, l] := by
          rw [z1]; simp only [List.mem_cons, List.not_mem_nil, or_false, not_or]; exact ⟨Nat.ne_of_lt (Nat.lt_succ_self _), Nat.ne_of_gt z2⟩
        have hd3 : A.in1.in1.in1.handled = none := by simp [hh]
        refine fillX (ys := ys) ((Walks.list hd3 _ l ne its).toS) out hn hb hv ?_ its.size 0 0 _ (Nat.zero_add _) ⟨⟨_, Heap.get?_push_size _ rfl, rfl, rfl⟩, il.push _⟩ (PartX.start (Heap.get?_push_of_some _ at0)) (Moved.refl fun _ => rfl)
        rintro ⟨h', g', d', tk', os'⟩ c mv pt
        cases show g' = s.gens from mv.gens
        cases show d' = s.drawn from mv.drawn
        cases show os' = s.os from mv.os
        refine wpAny_pure (wpAny_pure ⟨rfl, h', tk', c, rfl, hn ▸ pt, fun b o z => ?_⟩)
        have lt : b < s.heap.objs.size := Heap.lt_size z
        refine mv.heap b o ?_ (Heap.get?_push_of_some _ (pre b o z))
        rw [z1]; simp only [List.mem_cons, List.not_mem_nil, or_false, not_or]; exact ⟨Nat.ne_of_lt lt, Nat.ne_of_lt (Nat.lt_succ_of_lt lt)⟩
  ⟩
end
section
variable {X : Cx}
/-- the set of texts at p: its members are those of ys -/
def SetXO (P : Program) (w : World) (p : Addr) (ys : List PySem.Str) (n : Nat) : HO := .ext fun h => SetXs P w h p ys n
def rSetX (K : PySem.W.Frag) (P : Program) (w : World) : List V → Hp → VK → Prop := fun xs H Q => ∃ (l : Addr) (ys : List PySem.Str), xs = [.ref l] ∧ SqL K H l (ys.map V.str) ∧ ys.length < 64 ∧ ∀ (p : Addr) (n : Nat), H p = none → n ≤ ys.length → Q (.ref p) (upd H p (SetXO P w p ys n))
theorem setX_new {P : Program} {w : World} {H : Hp} {h : Heap} {a : Addr} {ys : List PySem.Str} {n : Nat} (R : SetXs P w h a ys n) : ObjOk P w H h a (SetXO P w a ys n) := by
  have ⟨o, _, _, _, r⟩ := R
  exact ⟨R, ⟨o, r.at_⟩, fun h1 h2 p k => SetXs.at p k⟩
theorem cr_setX (hc : X.calm = true) : CallR X (.type "set") (rSetX X.K X.prog X.w) := by
  intro pins s σ H xs us Q I r ⟨l, ys, e, hl, h64, q⟩
  subst e
  obtain ⟨u, eu, ru⟩ := r.one
  subst eu; cases ru
  obtain ⟨its, rv, pl, hz⟩ := I.list hl
  have hlen : its.toArray.size = ys.length := by rw [List.size_toArray, ← rv.length, List.length_map]
  refine call_setX (ys := ys) (I.ok.hd hc) pl.isList (fun i v hv => ?_) hlen (by rw [hlen]; unfold scanBound; omega) fun h' tk c pt kp => ?_
  · have hv' : its[i]? = some v := by simpa using hv
    cases hy : ys[i]? with
    | none => rw [rv.none_of (by rw [List.getElem?_map, hy]; rfl)] at hv'; cases hv'
    | some y =>
      obtain ⟨v', h1, ⟨t, h2⟩⟩ := rv.get (i := i) (x := .str y) (by rw [List.getElem?_map, hy]; rfl)
      rw [hv'] at h1; cases h1
      exact ⟨y, t, rfl, h2⟩
  · have e1 : ys.take ys.length = ys := List.take_length
    have po := pt.1
    rw [e1] at po
    exact ⟨.ref _, upd H s.heap.objs.size (SetXO X.prog X.w s.heap.objs.size ys c), I.laid (t' := tk) kp (Nat.le_refl _) (setX_new po), rfl, q _ c (I.hok.fresh (Nat.le_refl _)) pt.2⟩
end
end Mc
namespace Mc
open PySem L2 PySem.Spec PyProof.Rows
/-! ### sorted(a set of texts), sorted(a tuple of texts) -/
section
variable {P : Program} {w : World} {A : Around} {E : Value → Shared → Prop} {s : Shared} {a : Addr} {ys : List PySem.Str} {n : Nat}
theorem strs_txt : ∀ (l : List Value), (∀ v ∈ l, ∃ x tk, v = Value.str x tk) → ∃ xs, StrsAre l xs ∧ xs = l.map fun v => txtOf (0, v)
  | [], _ => ⟨[], .nil, rfl⟩
  | v :: l, h => by
    obtain ⟨x, tk, rfl⟩ := h v List.mem_cons_self
    obtain ⟨xs, h1, h2⟩ := strs_txt l fun u hu => h u (List.mem_cons_of_mem _ hu)
    exact ⟨x :: xs, .cons x tk h1, by rw [List.map_cons, ← h2]; rfl⟩
/-- the tail of sorted: the new list is sorted -/
theorem srt_tail {vs : List Value} {xs : List PySem.Str} {Q : Value → Shared → Prop} (hS : StrsAre vs xs) (h64 : xs.length < 64)
    (fin : ∀ (h' : Heap) (p : Addr) (out : List Value) (c : Nat) (zs : List PySem.Str), (∀ b o, s.heap.get? b = some o → h'.get? b = some o) → s.heap.objs.size ≤ p → h'.get? p = some (seqObj "list" out.toArray c) → StrsAre out zs → zs.Perm xs → sortedS zs = true → Q (.ref p) { s with heap := h' }) :
    wpAny (model P w) A (newList vs >>= fun l => holding [l] (call (.builtin "list.sort") [l] []) >>= fun _ => ret l) (fun f s' => ∃ v, f = Fin.done (.ret v) ∧ Q v s') E s := by
  have hl : vs.length = xs.length := hS.len_eq
  refine wpAny_bind (wpAny_newList ?_ (by rw [hl, sizeLine_eq]; omega))
  have hoL : (s.heap.push (seqObj "list" vs.toArray 0)).get? s.heap.objs.size = some (seqObj "list" vs.toArray 0) := Heap.get?_push_size _ rfl
  refine wpAny_bind (wpAny_holding (wpAny_call_entry slot_list_sort ⟨_, hoL, rfl⟩ entry_list_sort
    (list_sort_treeK strKind_oneLt (s := { s with heap := s.heap.push (seqObj "list" vs.toArray 0) }) hoL hS.keysOf (fun v₁ v₂ rest e => keyKind_strs (by rw [← e]; exact hS)) (by rw [hl]; exact h64) fun st' hp hs => ⟨_, rfl, ?_⟩) (args_list_sort _)))
  obtain ⟨zs, g1, g2, g3⟩ := sorted_out_str hS hp hs
  obtain ⟨c, hc⟩ := sortedHeap_at (vs := vs) (out := (arrOf st').map (·.2)) hoL
  refine wpAny_pure ⟨_, rfl, fin _ s.heap.objs.size ((arrOf st').map (·.2)).toList c zs (fun b o e => ?_) (Nat.le_refl _) (by rw [Array.toArray_toList]; exact hc) g1 g2 g3⟩
  have hb := Heap.lt_size e
  rw [sortedHeap_old (Nat.ne_of_lt hb) (by rw [size_push']; exact Nat.lt_succ_of_lt hb)]
  exact Heap.get?_push_of_some _ e
end
section
variable {X : Cx}
def rSrtX (P : Program) (w : World) : List V → Hp → VK → Prop := fun xs H Q => ∃ (a : Addr) (ys : List PySem.Str) (n : Nat), xs = [.ref a] ∧ H a = some (SetXO P w a ys n) ∧ n < 64 ∧
  ∀ (zs : List PySem.Str) (p : Addr), zs.Nodup → (∀ x, x ∈ zs ↔ x ∈ ys) → sortedS zs = true → H p = none → Q (.ref p) (upd H p (.lst (zs.map V.str)))
theorem cr_srtX (hc : X.calm = true) : CallR X (.builtin "sorted") (rSrtX X.prog X.w) := by
  intro pins s σ H xs us Q I r h
  obtain ⟨a, ys, n, rfl, ha, h64, q⟩ := h
  obtain rfl := Vals.ref1 r
  obtain ⟨o, es, ep, t, R⟩ := ((I.hok a _ ha).1 : SetXs X.prog X.w s.heap a ys n)
  refine Calls.call_function_entry kind_sorted plain_sorted entry_sorted (args_sorted1 _) ?_
  unfold Builtin.«sorted»
  refine wpAny_bind (m := checkCount "sorted" 1 1 _) (wpAny_pure ?_)
  refine wpAny_bind (collect_set (A := X.A.in1) (I.ok.hd hc) ⟨o, R.at_, R.ex.1, R.dat⟩ R.fits R.room R.ris R.led fun s1 vs k1 hz g1 o1 pm => ?_)
  have hvt : ∀ v ∈ vs, ∃ x tk, v = Value.str x tk := fun v hv => by
    obtain ⟨e, he, q⟩ := List.mem_map.mp (pm.mem_iff.mp hv)
    obtain ⟨x, tk, h1, _⟩ := R.good e he
    exact ⟨x, tk, by rw [← q]; exact h1⟩
  obtain ⟨xs, hS, ex⟩ := strs_txt vs hvt
  have pk : xs.Perm (es.toList.map txtOf) := by
    have z := pm.map fun v => txtOf (0, v)
    rw [List.map_map] at z
    rw [ex]
    exact z
  have hlx : xs.length = n := by rw [pk.length_eq, List.length_map, Array.length_toList]; exact R.num
  refine wpAny_mono (srt_tail (A := X.A.in1) (Q := EP X pins σ Q) hS (by rw [hlx]; exact h64) fun h' p out c zs k hp hg hz' pz sz => ?_) (fun _ _ z => z) fun _ _ z => z
  have hlen : (zs.map V.str).length ≤ sizeLine := by rw [List.length_map, pz.length_eq, hlx, sizeLine_eq]; omega
  have hp' : s.heap.objs.size ≤ p := Nat.le_trans hz hp
  have kk : ∀ b u, s.heap.get? b = some u → h'.get? b = some u := fun b u z => k b u (k1 b u z)
  have hn : H p = none := I.hok.fresh hp'
  have J : Inv X pins σ (upd H p (.lst (zs.map V.str))) { s with heap := h', gens := s1.gens, drawn := s1.drawn, toks := s1.toks } :=
    I.call (ch := []) (Un.laid kk hp' hn) (I.hok.laid kk hp' ⟨hlen, out, c, vals_of_strs hz', hg⟩) (by rw [g1]; exact I.bare) (fun _ z => nomatch z)
  have e : { s1 with heap := h' } = { s with heap := h', gens := s1.gens, drawn := s1.drawn, toks := s1.toks } := by
    cases s1
    cases s
    cases o1
    rfl
  rw [e]
  refine ⟨.ref p, _, J, rfl, q zs p (((pz.trans pk).nodup_iff).mpr R.nd) (fun x => ?_) sz hn⟩
  rw [(pz.trans pk).mem_iff, R.mem x]
/-- sorted(t), t a tuple of texts -/
def rSrtT (K : PySem.W.Frag) : List V → Hp → VK → Prop := fun vs H Q => ∃ (a : Addr) (xs : List PySem.Str), vs = [V.ref a] ∧ SqT K H a (xs.map V.str) ∧ xs.length < 64 ∧ ∀ (ys : List PySem.Str) (p : Addr), ys.Perm xs → sortedS ys = true → H p = none → Q (.ref p) (upd H p (.lst (ys.map V.str)))
theorem cr_srtT : CallR X (.builtin "sorted") (rSrtT X.K) := by
  intro pins s σ H vs us Q I r h
  obtain ⟨a, xs, rfl, ha, h64, q⟩ := h
  obtain rfl := Vals.ref1 r
  obtain ⟨its, rv, pl, hz⟩ := I.tuple ha
  obtain ⟨ob, ho, hcl, nn, hdt⟩ := pl
  have hS : StrsAre its xs := strs_of_vals rv
  have hl : its.length = xs.length := hS.len_eq
  refine Calls.call_function_entry kind_sorted plain_sorted entry_sorted (args_sorted1 _) ?_
  unfold Builtin.«sorted»
  refine wpAny_bind (m := checkCount "sorted" 1 1 _) (wpAny_pure ?_)
  refine wpAny_bind (collect_tupE ho hcl hdt (by rw [hl, sizeLine_eq]; omega) ?_)
  have k' : ∀ b o, s.heap.get? b = some o → ((s.heap.push (seqObj "list" #[] 0)).update s.heap.objs.size (Obj.mapSeq (· ++ its.toArray))).get? b = some o := fun b o z => by
    rw [Heap.get?_update_ne _ _ _ _ (Nat.ne_of_lt (Heap.lt_size z))]
    exact Heap.get?_push_of_some _ z
  have I1 : Inv X pins σ H { s with heap := (s.heap.push (seqObj "list" #[] 0)).update s.heap.objs.size (Obj.mapSeq (· ++ its.toArray)) } := I.kept (t' := s.toks) k'
  refine wpAny_mono (srt_tail (A := X.A.in1) (Q := EP X pins σ Q) hS h64 fun h' p out c zs k hp hg hz' pz sz => ?_) (fun _ _ z => z) fun _ _ z => z
  have hlen : (zs.map V.str).length ≤ sizeLine := by rw [List.length_map, pz.length_eq, sizeLine_eq]; omega
  exact ⟨.ref p, upd H p (.lst (zs.map V.str)), I1.laid (t' := s.toks) k hp ⟨hlen, out, c, vals_of_strs hz', hg⟩, rfl, q zs p pz sz (I1.hok.fresh hp)⟩
end
end Mc
namespace Mc
open PySem L2 PySem.Spec PyProof.Rows
section
variable {X : Cx}
/-- a list against an empty one -/
def rNeNil (K : PySem.W.Frag) : R2 := fun x y H Q => ∃ (l b : Addr) (xs : List V), x = .ref l ∧ y = .ref b ∧ SqL K H l xs ∧ SqL K H b [] ∧ Q (.bl (!xs.isEmpty)) H
theorem op_neNil (hu : X.A.units + 64 < cLine) : OpR X (compareOp .NotEq) (rNeNil X.K) := by
  intro pins s σ H x y v u Q I rx ry ⟨l, b, xs, e1, e2, hl, hb, q⟩
  subst e1; subst e2
  cases xs with
  | nil => exact op_neD hu pins s σ H _ _ v u Q I rx ry ⟨.list [], .list [], .lst hl .nil, .lst hb .nil, by rfl, by rfl, q⟩
  | cons z zs =>
    cases rx; cases ry
    obtain ⟨i1, r1, p1, _⟩ := I.list hl
    obtain ⟨i2, r2, p2, _⟩ := I.list hb
    have z1 : i1.length = zs.length + 1 := by rw [← r1.length]; rfl
    have z2 : i2.length = 0 := by rw [← r2.length]; rfl
    exact SeqAt.RcNeAt.lists_lengths p1.isList p2.isList (by simp [z1, z2]) (by omega) _ _ _ _ ⟨.bl true, H, I, rfl, q⟩
end
end Mc
namespace Mc
open PySem L2 PySem.Spec PyProof.Rows
section
variable {X : Cx} {K : PySem.W.Frag}
/-- a dict against an empty one -/
def rNeDN : R2 := fun x y H Q => ∃ a b ks, x = .ref a ∧ y = .ref b ∧ H a = some (.dK ks) ∧ H b = some (.dK []) ∧ Q (.bl (!ks.isEmpty)) H
theorem op_neDN (hu : X.A.units < cLine) : OpR X (compareOp .NotEq) rNeDN := by
  intro pins s σ H x y v u Q I rx ry h
  obtain ⟨a, b, ks, rfl, rfl, ea, eb, q⟩ := h
  cases ks with
  | nil => exact op_ne_dictA hu pins s σ H _ _ v u Q I rx ry ⟨a, b, [], [], rfl, rfl, ea, eb, rfl, fun p hp => (nomatch hp), q⟩
  | cons k ks =>
    cases rx
    cases ry
    obtain ⟨_, ya, va, ra, da⟩ := (show ObjOk X.prog X.w H s.heap a (.dK (k :: ks)) from I.hok a _ ea)
    obtain ⟨_, yb, vb, rb, db⟩ := (show ObjOk X.prog X.w H s.heap b (.dK []) from I.hok b _ eb)
    have z1 : va.length = ks.length + 1 := by rw [← ra.length]; rfl
    have z2 : vb.length = 0 := by rw [← rb.length]; rfl
    exact PySem.W.keq_ne (knd := mixKind X.prog X.w) (r := true) ya yb da db hu (fun e => by omega) (fin_bl I q (by simp [z1, z2]))
theorem pg_tupK {es : List Expr} {k : Nat} {p : Pos} {t : TGs} {n : Nat} (hK : X.K = K) (h : PG X (.Tuple es k p) (gTup X.K n t)) : PG X (.Tuple es k p) (gTup K n t) := by
  subst hK
  exact h
theorem op_inK (h : X.K = K) : OpR X (compareOp .In) (rIn K false) := by
  subst h
  exact op_in_seq
theorem op_notInK (h : X.K = K) : OpR X (compareOp .NotIn) (rIn K true) := by
  subst h
  exact op_notIn_seq
end
end Mc
namespace Mc
open PySem L2 PySem.Spec PyProof.Rows
section
variable {P : Program} {w : World} {K : PySem.W.Frag} {mg : PySem.Str → Option Value} {base : Heap}
def spCInitT (K : PySem.W.Frag) (C : Addr) : Sp := fun vs H Q _ => ∃ (p dx l : Addr) (wt : Int) (hs : List PySem.Str), vs = [.ref p, .int wt, .ref l] ∧ H p = some (.ins C dx []) ∧ H l = some (.tup (hs.map V.str)) ∧ hs.length < 64 ∧
  ∀ (ys : List PySem.Str) (H' : Hp), ys.Perm hs → sortedS ys = true → CallH K C H' p wt ys → Kp [p] H H' → Q .non H'
theorem scCIT : FnScope ["self", "worth", "heard"] ["self", "worth", "heard"] (defScope sCInit) := ⟨rfl, rfl, rfl, by decide +kernel, rfl, by decide +kernel, by decide +kernel⟩
theorem ok_cinitT {f C : Addr} {fd : FuncData} (F : Fun K "__init__" "Call.__init__" sCInit f fd) (T : TxS K mg C) : FnOk P w K mg base CX0 1 f fd ["self", "worth", "heard"] (spCInitT K C) := by
  refine F.ok scCIT (fun vs H Q E h => ?_) (fun cdv A outer s H vs Q E hr h => ?_)
  · obtain ⟨p, dx, l, wt, hs, rfl, _⟩ := h
    rfl
  · obtain ⟨p, dx, l, wt, hs, rfl, hp, hl, h64, k⟩ := h
    refine ⟨_, (pss_cons (ps_fld (pv 0) (pv 1) rfl)
      (pss_one (ps_fld (pv 0) (pe_tupleOf (by rfl) T.tuple (pe_callB cr_srtT (by rfl) T.sorted boot_sorted (pa_cons (pv 2) pa_nil))) rfl))), ?_⟩
    refine ⟨_, rfl, _, rfl, p, C, dx, [], rfl, hp, T.cl, T.nW, (by show 0 < 1000; decide), ?_⟩
    have lp : l ≠ p := fun e => by rw [e, hp] at hl; cases hl
    have hl1 : (upd H p (.ins C dx [("worth", .int wt)])) l = some (.tup (hs.map V.str)) := by rw [upd_ne lp]; exact hl
    refine ⟨_, rfl, l, hs, rfl, SqT.of hl1, h64, fun ys q hy hs' hq => ?_⟩
    have hqp : q ≠ p := fun e => by rw [e, upd_same] at hq; cases hq
    refine .inl ⟨q, ys.map V.str, rfl, SqL.of upd_same, fun t ht => ?_⟩
    have htq : q ≠ t := ne_of_none upd_same ht
    have htp : p ≠ t := ne_of_none (show (upd (upd H p (.ins C dx [("worth", .int wt)])) q (.lst (ys.map V.str))) p = some _ by rw [upd_ne hqp.symm]; exact upd_same) ht
    refine ⟨_, rfl, p, C, dx, [("worth", .int wt)], rfl, by rw [upd_ne htp, upd_ne hqp.symm]; exact upd_same, T.cl, T.nH, (by show 1 < 1000; decide), ?_⟩
    refine k ys _ hy hs' ⟨⟨dx, t, upd_same, by rw [upd_ne htp.symm]; exact upd_same⟩⟩ fun b o e n => ?_
    have nb : b ≠ p := fun z => n (List.mem_singleton.mpr z)
    have q0 : H q = none := by rw [upd_ne hqp] at hq; exact hq
    have t0 : H t = none := by rw [upd_ne htq.symm, upd_ne htp.symm] at ht; exact ht
    rw [upd_ne nb, upd_ne (ne_of_none e t0), upd_ne (ne_of_none e q0), upd_ne nb]
    exact e
end
end Mc
namespace Mc
open PySem L2 PySem.Spec PyProof.Rows Gd
theorem rkLe_anti {f : PySem.Str → Int} {x y : PySem.Str} (h : rkLe f x y) (k : rkLe f y x) : x = y := by
  unfold rkLe at h k
  refine Classical.byContradiction fun n => ?_
  rcases h with h | ⟨h1, h2⟩
  · rcases k with k | ⟨k, _⟩ <;> omega
  · rcases k with k | ⟨_, k2⟩
    · omega
    · exact h2 (ltN_tri k2 n)
theorem keep_of {chs chs' : Chs} {cls cls' : Cls'} {lot lot' : List PySem.Str} (nd : (keysT cls).Nodup) (nd' : (keysT cls').Nodup) (h : KeptOf chs cls lot) (h' : KeptOf chs' cls' lot') {x : PySem.Str} (hx : x ∈ lot) (hx' : x ∈ keysT cls')
    (sub : ∀ y ∈ keysT cls', y ≠ x → rkLe (rkO cls') y x → y ∈ keysT cls ∧ rkLe (rkO cls) y x)
    (step : ∀ P P' : List PySem.Str, P.Nodup → P'.Nodup → (∀ y ∈ P', y ∈ P ∧ y ≠ x ∧ y ∈ keysT cls') → x ∉ P → Seatable (ScM chs cls) (gr (ScM chs cls) P ++ [x]) → Seatable (ScM chs' cls') (gr (ScM chs' cls') P' ++ [x])) : x ∈ lot' := by
  obtain ⟨ys, pm, pw, _, hm⟩ := h
  obtain ⟨ys', pm', pw', _, hm'⟩ := h'
  have ndy : ys.Nodup := pm.nodup_iff.mpr nd
  have ndy' : ys'.Nodup := pm'.nodup_iff.mpr nd'
  have x1 := (hm x).mp hx
  obtain ⟨P, Q, rfl⟩ := List.append_of_mem (gr_sub _ _ x x1)
  obtain ⟨P', Q', rfl⟩ := List.append_of_mem (pm'.mem_iff.mpr hx')
  refine (hm' x).mpr ((gr_iff ndy').mpr ?_)
  have q := (gr_iff ndy).mp x1
  have n1 := List.nodup_append.mp ndy
  have n2 := List.nodup_append.mp ndy'
  have xP : x ∉ P := fun z => n1.2.2 x z x (by simp) rfl
  refine step P P' n1.1 n2.1 (fun y hy => ?_) xP q
  have nyx : y ≠ x := fun e => n2.2.2 y hy x (by simp) e
  have yk : y ∈ keysT cls' := pm'.mem_iff.mp (List.mem_append_left _ hy)
  have le' : rkLe (rkO cls') y x := (List.pairwise_append.mp pw').2.2 y hy x (by simp)
  obtain ⟨g1, g2⟩ := sub y yk nyx le'
  refine ⟨?_, nyx, yk⟩
  rcases List.mem_append.mp (pm.mem_iff.mpr g1) with z | z
  · exact z
  · rcases List.mem_cons.mp z with z | z
    · exact absurd z nyx
    · have := (List.pairwise_cons.mp (List.pairwise_append.mp pw).2.1).1 y z
      exact absurd (rkLe_anti g2 this) nyx
theorem getT_perm {β : Type} {l l' : List (PySem.Str × β)} (nd : (keysT l).Nodup) (p : l'.Perm l) (k : PySem.Str) : getT l' k = getT l k := by
  have nd' : (keysT l').Nodup := (p.map _).nodup_iff.mpr nd
  cases e : getT l k with
  | none =>
    refine getT_none.mpr fun z => getT_none.mp e ?_
    exact (p.map _).mem_iff.mp z
  | some v =>
    have := p.mem_iff.mpr (getT_in e)
    exact getT_mem nd' this
theorem KeptOf.perm {chs chs' : Chs} {cls cls' : Cls'} {lot : List PySem.Str} (ok : OkC chs cls) (p1 : chs'.Perm chs) (p2 : cls'.Perm cls) (h : KeptOf chs' cls' lot) : KeptOf chs cls lot := by
  obtain ⟨ys, pm, pw, nd, hm⟩ := h
  have e1 : rkO cls' = rkO cls := by
    funext x
    unfold rkO wOf
    rw [getT_perm ok.ndc p2]
  have e2 : gr (ScM chs' cls') ys = gr (ScM chs cls) ys := gr_congr (fun m => by
    show ((getT chs' m).getD 0).toNat = ((getT chs m).getD 0).toNat
    rw [getT_perm ok.nd p1]) fun c _ => by
    show ((getT cls' c).map (·.2.2)).getD [] = ((getT cls c).map (·.2.2)).getD []
    rw [getT_perm ok.ndc p2]
  rw [e1] at pw
  rw [e2] at hm
  exact ⟨ys, pm.trans (p2.map _), pw, nd, hm⟩
theorem OkC.perm {chs chs' : Chs} {cls cls' : Cls'} (ok : OkC chs cls) (p1 : chs'.Perm chs) (p2 : cls'.Perm cls) : OkC chs' cls' := by
  have k1 : (keysT chs').Perm (keysT chs) := p1.map _
  have k2 : (keysT cls').Perm (keysT cls) := p2.map _
  refine ⟨k1.nodup_iff.mpr ok.nd, k2.nodup_iff.mpr ok.ndc, by rw [p1.length_eq]; exact ok.len, by rw [p2.length_eq]; exact ok.lenc, fun x hx => ok.ch x (p1.mem_iff.mp hx), fun x hx => ?_⟩
  obtain ⟨g0, g1, g2, g3, g4, g5⟩ := ok.cl x (p2.mem_iff.mp hx)
  exact ⟨g0, g1, g2, g3, g4, fun m hm => k1.mem_iff.mpr (g5 m hm)⟩
/-- kept(Scene(channels, calls)) -/
theorem kept_go {K : PySem.W.Frag} {CS CC : Addr} {H : Hp} {Q : VK} {chA clA : Addr} {chs : Chs} {cls : Cls'} (hne : chA ≠ clA) (hch : H chA = some (.dK (kvT vI chs))) (hcl : H clA = some (.dK (kvT vO cls))) (ok : OkC chs cls) (hC : CallsH K CC H cls)
    (q : ∀ (t : Addr) (lot : List PySem.Str) (H' : Hp), KeptOf chs cls lot → H' t = some (.tup (lot.map V.str)) → Same H H' → Q (.ref t) H') :
    ∀ x dx, H x = none → H dx = none → dx ≠ x → spSInit K CS CC (.ref x :: [.ref chA, .ref clA]) (upd (upd H dx (.own x)) x (.ins CS dx [])) (fun v H2 => v = .non ∧ spKept K CS CC [.ref x] H2 Q E0) E0 := by
  intro x dx hx hdx n
  have s1 : Same H (upd (upd H dx (.own x)) x (.ins CS dx [])) := fun b o z => by rw [upd_ne (ne_of_none z hx), upd_ne (ne_of_none z hdx)]; exact z
  refine ⟨x, dx, chA, clA, chs, cls, rfl, hne, upd_same, s1 _ _ hch, s1 _ _ hcl, ok, hC.same s1, fun chs' cls' H2 p1 p2 hS _ k => ⟨rfl, x, chs', cls', rfl, hS, ok.perm p1 p2, fun t lot H3 hk ht s3 => ?_⟩⟩
  exact q t lot H3 (hk.perm ok p1 p2) ht (fun u o z => s3 _ _ (k u o (s1 u o z) fun e => by rw [List.mem_singleton.mp e, hx] at z; cases z))
theorem seat_mono {X Y : Sc PySem.Str} {L : List PySem.Str} (hc : ∀ m, X.cap m = Y.cap m) (hh : ∀ c ∈ L, ∀ m ∈ X.heard c, m ∈ Y.heard c) : Seatable X L → Seatable Y L :=
  fun ⟨T, h1, h2⟩ => ⟨T, fun c h => hh c h _ (h1 c h), fun m => by rw [← hc m]; exact h2 m⟩
theorem nd_P' {P P' : List PySem.Str} {x : PySem.Str} {C : PySem.Str → Prop} (h : ∀ y ∈ P', y ∈ P ∧ y ≠ x ∧ C y) : x ∉ P' := fun z => (h x z).2.1 rfl
/-- one channel more on a mast -/
def moreC (chs : Chs) (m0 : PySem.Str) : Chs := chs.map fun x => (x.1, x.2 + if x.1 = m0 then 1 else 0)
theorem keys_more (chs : Chs) (m0 : PySem.Str) : keysT (moreC chs m0) = keysT chs := by
  unfold moreC keysT
  rw [List.map_map]
  rfl
theorem getT_more (chs : Chs) (m0 m : PySem.Str) : getT (moreC chs m0) m = (getT chs m).map fun n => n + if m = m0 then 1 else 0 := by
  unfold moreC
  induction chs with
  | nil => rfl
  | cons x l ih =>
    rw [List.map_cons, getT_cons, getT_cons, ih]
    by_cases e : x.1 = m
    · subst e
      simp
    · simp [e]
theorem more_keep {chs : Chs} {cls : Cls'} (ok : OkC chs cls) {m0 : PySem.Str} (hm0 : m0 ∈ keysT chs) {lot lot' : List PySem.Str} (h : KeptOf chs cls lot) (h' : KeptOf (moreC chs m0) cls lot') : ∀ x ∈ lot, x ∈ lot' := by
  intro x hx
  have hxk : x ∈ keysT cls := by
    obtain ⟨ys, pm, _, _, hm⟩ := h
    exact pm.mem_iff.mp (gr_sub _ _ x ((hm x).mp hx))
  refine keep_of ok.ndc ok.ndc h h' hx hxk (fun y hy _ l => ⟨hy, l⟩) fun P P' nP nP' hP xP s => ?_
  refine gr_more (X := ScM chs cls) (m0 := m0) nP' (nd_P' hP) (fun m => ?_) (fun _ => rfl) (gr_fewer nP nP' (fun y hy => (hP y hy).1) xP s)
  show ((getT (moreC chs m0) m).getD 0).toNat = ((getT chs m).getD 0).toNat + if m = m0 then 1 else 0
  rw [getT_more]
  by_cases e : m = m0
  · subst e
    obtain ⟨n, hn⟩ := getT_key hm0
    have := (ok.ch _ (getT_in hn)).2.1
    rw [hn]
    simp
    have h0 : 0 ≤ n := this
    omega
  · cases getT chs m <;> simp [e]
theorem ok_more {chs : Chs} {cls : Cls'} (ok : OkC chs cls) (sm : SmallS chs cls) (m0 : PySem.Str) : OkC (moreC chs m0) cls := by
  refine ⟨by rw [keys_more]; exact ok.nd, ok.ndc, by unfold moreC; rw [List.length_map]; exact ok.len, ok.lenc, fun x hx => ?_, fun x hx => ?_⟩
  · obtain ⟨y, hy, rfl⟩ := List.mem_map.mp hx
    obtain ⟨g0, g1, _⟩ := ok.ch y hy
    have g3 := sm.2.1 y hy
    refine ⟨g0, ?_, ?_⟩
    · show 0 ≤ y.2 + _; split <;> omega
    · show y.2 + _ ≤ 1000; split <;> omega
  · rw [keys_more]
    exact ok.cl x hx
/-- without a call -/
def fewC (cls : Cls') (g : PySem.Str) : Cls' := cls.filter fun x => decide (x.1 ≠ g)
theorem few_keys {cls : Cls'} {g y : PySem.Str} : y ∈ keysT (fewC cls g) ↔ y ∈ keysT cls ∧ y ≠ g := by
  unfold fewC keysT
  constructor
  · intro h
    obtain ⟨x, hx, rfl⟩ := List.mem_map.mp h
    have := List.mem_filter.mp hx
    exact ⟨List.mem_map.mpr ⟨x, this.1, rfl⟩, of_decide_eq_true this.2⟩
  · rintro ⟨h, n⟩
    obtain ⟨x, hx, rfl⟩ := List.mem_map.mp h
    exact List.mem_map.mpr ⟨x, List.mem_filter.mpr ⟨hx, decide_eq_true n⟩, rfl⟩
theorem few_nd {cls : Cls'} (nd : (keysT cls).Nodup) (g : PySem.Str) : (keysT (fewC cls g)).Nodup := nd.sublist (List.Sublist.map _ List.filter_sublist)
theorem few_get {cls : Cls'} (nd : (keysT cls).Nodup) {g y : PySem.Str} (n : y ≠ g) : getT (fewC cls g) y = getT cls y := by
  cases e : getT cls y with
  | none => exact getT_none.mpr fun z => getT_none.mp e (few_keys.mp z).1
  | some v => exact getT_mem (few_nd nd g) (List.mem_filter.mpr ⟨getT_in e, decide_eq_true n⟩)
theorem ok_few {chs : Chs} {cls : Cls'} (ok : OkC chs cls) (g : PySem.Str) : OkC chs (fewC cls g) :=
  ⟨ok.nd, few_nd ok.ndc g, ok.len, Nat.lt_of_le_of_lt (List.length_filter_le _ _) ok.lenc, ok.ch, fun x hx => ok.cl x (List.mem_filter.mp hx).1⟩
theorem few_keep {chs : Chs} {cls : Cls'} (ok : OkC chs cls) {g : PySem.Str} {lot lot' : List PySem.Str} (h : KeptOf chs cls lot) (h' : KeptOf chs (fewC cls g) lot') : ∀ x ∈ lot, x ≠ g → x ∈ lot' := by
  intro x hx nx
  have hxk : x ∈ keysT cls := by
    obtain ⟨ys, pm, _, _, hm⟩ := h
    exact pm.mem_iff.mp (gr_sub _ _ x ((hm x).mp hx))
  have rk : ∀ y, y ≠ g → rkO (fewC cls g) y = rkO cls y := fun y n => by unfold rkO wOf; rw [few_get ok.ndc n]
  have hd : ∀ y, y ≠ g → (ScM chs (fewC cls g)).heard y = (ScM chs cls).heard y := fun y n => by
    show ((getT (fewC cls g) y).map (·.2.2)).getD [] = ((getT cls y).map (·.2.2)).getD []
    rw [few_get ok.ndc n]
  refine keep_of ok.ndc (few_nd ok.ndc g) h h' hx (few_keys.mpr ⟨hxk, nx⟩) (fun y hy _ l => ?_) fun P P' nP nP' hP xP s => ?_
  · obtain ⟨y1, y2⟩ := few_keys.mp hy
    unfold rkLe at l ⊢
    rw [rk y y2, rk x nx] at l
    exact ⟨y1, l⟩
  · have hP' : ∀ y ∈ P', y ≠ g := fun y hy => (few_keys.mp (hP y hy).2.2).2
    have e : gr (ScM chs (fewC cls g)) P' = gr (ScM chs cls) P' := gr_congr (fun _ => rfl) fun c hc => hd c (hP' c hc)
    rw [e]
    refine (seat_congr (X := ScM chs (fewC cls g)) (Y := ScM chs cls) (fun _ => rfl) fun c hc => ?_).mpr (gr_fewer nP nP' (fun y hy => (hP y hy).1) xP s)
    rcases List.mem_append.mp hc with z | z
    · exact hd c (hP' c (gr_sub _ _ c z))
    · rw [List.mem_singleton.mp z]; exact hd x nx
/-- a call changed -/
def repC (cls : Cls') (g : PySem.Str) (v : CD) : Cls' := cls.map fun x => if x.1 = g then (x.1, v) else x
theorem rep_keys (cls : Cls') (g : PySem.Str) (v : CD) : keysT (repC cls g v) = keysT cls := by
  unfold repC keysT
  rw [List.map_map]
  refine List.map_congr_left fun x _ => ?_
  show (if x.1 = g then (x.1, v) else x).1 = x.1
  split <;> rfl
theorem rep_keep {chs : Chs} {cls : Cls'} (ok : OkC chs cls) {g : PySem.Str} {v v0 : CD} (hg : getT cls g = some v0) (hw : v0.2.1 ≤ v.2.1) (hh : ∀ m ∈ v0.2.2, m ∈ v.2.2) {lot lot' : List PySem.Str} (h : KeptOf chs cls lot) (h' : KeptOf chs (repC cls g v) lot') (hx : g ∈ lot) : g ∈ lot' := by
  have gk : g ∈ keysT cls := Classical.byContradiction fun z => by rw [getT_none.mpr z] at hg; cases hg
  have gt : ∀ c, getT (repC cls g v) c = if c = g then (getT cls c).map (fun _ => v) else getT cls c := fun c => getT_rep c
  have rk : ∀ y, y ≠ g → rkO (repC cls g v) y = rkO cls y := fun y n => by unfold rkO wOf; rw [gt, if_neg n]
  have rg : rkO (repC cls g v) g = -v.2.1 := by unfold rkO wOf; rw [gt, if_pos rfl, hg]; rfl
  have rg0 : rkO cls g = -v0.2.1 := by unfold rkO wOf; rw [hg]; rfl
  refine keep_of ok.ndc (by rw [rep_keys]; exact ok.ndc) h h' hx (by rw [rep_keys]; exact gk) (fun y hy ny l => ?_) fun P P' nP nP' hP xP s => ?_
  · rw [rep_keys] at hy
    refine ⟨hy, ?_⟩
    unfold rkLe at l ⊢
    rw [rk y ny, rg] at l
    rw [rg0]
    rcases l with l | ⟨l1, l2⟩
    · exact .inl (by omega)
    · by_cases e : v0.2.1 = v.2.1
      · exact .inr ⟨by omega, l2⟩
      · exact .inl (by omega)
  · have hd : ∀ y ∈ P', (ScM chs (repC cls g v)).heard y = (ScM chs cls).heard y := fun y hy => by
      show ((getT (repC cls g v) y).map (·.2.2)).getD [] = ((getT cls y).map (·.2.2)).getD []
      rw [gt, if_neg (hP y hy).2.1]
    have e : gr (ScM chs (repC cls g v)) P' = gr (ScM chs cls) P' := gr_congr (fun _ => rfl) hd
    rw [e]
    refine seat_mono (X := ScM chs cls) (Y := ScM chs (repC cls g v)) (fun _ => rfl) (fun c hc m hm => ?_) (gr_fewer nP nP' (fun y hy => (hP y hy).1) xP s)
    rcases List.mem_append.mp hc with z | z
    · rw [hd c (gr_sub _ _ c z)]; exact hm
    · rw [List.mem_singleton.mp z] at hm ⊢
      have hm' : m ∈ ((getT cls g).map (·.2.2)).getD [] := hm
      show m ∈ ((getT (repC cls g v) g).map (·.2.2)).getD []
      rw [gt, if_pos rfl, hg]
      rw [hg] at hm'
      exact hh m hm'
theorem ok_rep {chs : Chs} {cls : Cls'} (ok : OkC chs cls) {g : PySem.Str} {v : CD} (h0 : 0 ≤ v.2.1) (h1 : v.2.1 ≤ 1000) (h2 : v.2.2.Nodup) (h3 : v.2.2.length < 64) (h4 : ∀ m ∈ v.2.2, m ∈ keysT chs) : OkC chs (repC cls g v) := by
  refine ⟨ok.nd, by rw [rep_keys]; exact ok.ndc, ok.len, by unfold repC; rw [List.length_map]; exact ok.lenc, ok.ch, fun x hx => ?_⟩
  obtain ⟨y, hy, rfl⟩ := List.mem_map.mp hx
  have := ok.cl y hy
  by_cases e : y.1 = g
  · rw [if_pos e]
    exact ⟨this.1, h0, h1, h2, h3, h4⟩
  · rw [if_neg e]
    exact this
end Mc
namespace Mc
open PySem L2 PySem.Spec PyProof.Rows Evl
/-! {k: e for k in d if t} -/
section
variable {f : PySem.Str → V} {p : PySem.Str → Bool} {ys : List PySem.Str} {J : It} {n : Nat} {G : Hp → Prop} {te : TE} {tt : TT} {vs : List Nat} {σ : L2.St} {H1 : Hp} {D : Addr} {Qd : Hp → Prop} {j : Nat}
theorem dc_f (w : Walk J n G (YAt (ys.map V.str))) (p : PySem.Str → Bool) (f : PySem.Str → V) (hn : n = ys.length) (nd : ys.Nodup) (hD : H1 D = none) (hG : ∀ H', Same H1 H' → G H') (hz : ys.length ≤ sizeLine)
    (test : ∀ (i : Nat) (y : PySem.Str) (H' : Hp) (k : Bool → Hp → Prop), ys[i]? = some y → Same H1 H' → (∀ H4, Same H' H4 → k (p y) H4) → tt ((wipe σ vs).set j (some (.str y))) H' k)
    (turn : ∀ (i : Nat) (y : PySem.Str) (H' : Hp) (k : VK), ys[i]? = some y → Same H1 H' → (∀ H4, Same H' H4 → k (f y) H4) → te ((wipe σ vs).set j (some (.str y))) H' k)
    (hd : ∀ H', Same H1 H' → H' D = some (.dK (mkD f (ys.filter p))) → Qd H') (hj : ∀ v, ((wipe σ vs).set j (some v))[j]? = some (some v) := by intro _; rfl) (hw : ∀ v, wipe ((wipe σ vs).set j (some v)) vs = wipe σ vs := by intro _; rfl) :
    ∃ W : Nat → Nat → Hp → Prop, (∃ m, W 0 m (upd H1 D (.dK []))) ∧ ∀ i m H, W i m H →
      (J.stop i H ∧ Qd H) ∨ (J.go i H ∧ ∃ Nx : Hp → Prop, (∀ H', Nx H' → ∃ m', m' < m ∧ W (i + 1) m' H') ∧ ∀ x H', J.yld i H x H' → gName j x (wipe σ vs) H' fun σ2 H2 => wipe σ2 vs = wipe σ vs ∧ tt σ2 H2 fun b H3 =>
        if b = true then tVar j σ2 H3 fun y H4 => te σ2 H4 fun z H5 => ∃ kvs k, y = kV k ∧ H5 D = some (.dK kvs) ∧ kvs.length < sizeLine ∧ Nx (upd H5 D (.dK (putK kvs k z))) else Nx H3) := by
  refine ⟨fun i m H => m = n - i ∧ i ≤ n ∧ Same H1 H ∧ H D = some (.dK (mkD f ((ys.take i).filter p))), ⟨n, by simp, Nat.zero_le _, Same.new hD, upd_same⟩, ?_⟩
  rintro i m H ⟨rfl, hi, s1, d1⟩
  by_cases hlt : i < n
  · refine .inr ⟨w.goes i H hlt (hG H s1), fun H' => Same H1 H' ∧ H' D = some (.dK (mkD f ((ys.take (i + 1)).filter p))), fun H' p' => ⟨n - (i + 1), by omega, rfl, hlt, p'⟩, fun x H' y => ?_⟩
    obtain ⟨rfl, hx⟩ := w.yields i H x H' hlt (hG H s1) y
    rw [List.getElem?_map] at hx
    cases e : ys[i]? with
    | none => rw [e] at hx; cases hx
    | some c =>
      rw [e] at hx
      obtain rfl := Option.some.inj hx
      have et : (ys.take (i + 1)).filter p = (ys.take i).filter p ++ (if p c = true then [c] else []) := by
        rw [List.take_add_one, e, List.filter_append]
        by_cases q : p c = true
        · simp [q]
        · simp [q]
      refine ⟨hw _, test i c _ _ e s1 fun H4 s4 => ?_⟩
      by_cases q : p c = true
      · rw [if_pos q]
        refine ⟨_, hj _, turn i c _ _ e (s1.trans s4) fun H5 s5 => ⟨_, Sum.inr c, rfl, s5 _ _ (s4 _ _ d1), ?_, ?_, ?_⟩⟩
        · unfold mkD; rw [List.length_map]; have := List.length_filter_le p (ys.take i); rw [List.length_take] at this; omega
        · exact fun b o z => by
            have nb : b ≠ D := ne_of_none z hD
            rw [upd_ne nb]
            exact s5 _ _ (s4 _ _ (s1 _ _ z))
        · rw [upd_same, mkD_put (fun z => nd_take nd e (List.mem_filter.mp z).1), et, if_pos q]
      · rw [if_neg q]
        refine ⟨s1.trans s4, ?_⟩
        rw [et, if_neg q, List.append_nil]
        exact s4 _ _ d1
  · obtain rfl : i = n := by omega
    subst hn
    rw [List.take_length] at d1
    exact .inl ⟨w.stops H (hG H s1), hd H s1 d1⟩
theorem ed_KF {β : Type} {g : β → V} {l : List (PySem.Str × β)} {o : Obj} {H : Hp} {tl : TE} {a : Addr} (p : PySem.Str → Bool) (f : PySem.Str → V) (nd : (keysT l).Nodup) (hl : Ev tl σ H (.ref a)) (h : H a = some (.frz o (.dK (kvT g l)))) (hz : l.length ≤ 100000)
    (test : ∀ (i : Nat) y, (keysT l)[i]? = some y → ∀ H', Ex H H' → EvT tt ((wipe σ vs).set j (some (.str y))) H' (p y)) (turn : ∀ (i : Nat) y, (keysT l)[i]? = some y → ∀ H', Ex H H' → Ev te ((wipe σ vs).set j (some (.str y))) H' (f y))
    (hj : ∀ v, ((wipe σ vs).set j (some v))[j]? = some (some v) := by intro _; rfl) (hw : ∀ v, wipe ((wipe σ vs).set j (some v)) vs = wipe σ vs := by intro _; rfl) :
    EvD (tDc (iKeys tl) (gName j) tt (tVar j) te vs) σ H (mkD f ((keysT l).filter p)) := fun H1 e Q q => hl H1 e _ fun H2 e2 => ⟨a, o, rfl, .inl ⟨_, e2 _ _ (e _ _ h), fun D hD =>
  dc_f (j := j) (ys := keysT l) walk_kT p f rfl nd hD (fun H' s => s _ _ (e2 _ _ (e _ _ h))) (by unfold keysT; rw [List.length_map]; exact sz_of hz) (fun i y H' k hy s hk => test i y hy H' ((e.trans e2).trans s) H' (Ex.refl _) k hk) (fun i y H' k hy s hk => turn i y hy H' ((e.trans e2).trans s) H' (Ex.refl _) k hk) (fun H' s hD' => q D H' (fresh_back e2 hD) (e2.trans s) hD') hj hw⟩⟩
end
end Mc
namespace Mc
open PySem L2 PySem.Spec PyProof.Rows Evl
/-! ### list(d.values()) -/
def tListVals (te : TE) : TE := fun σ H Q => te σ H fun x H1 => ∃ (d : Addr) (kvs : List (L2.Key × V)), x = .ref d ∧ Rd H1 d (.dK kvs) ∧ ∀ p, H1 p = none → Q (.ref p) (upd H1 p (.lst (kvs.map Prod.snd)))
theorem vals_of_kv {kvs : List (L2.Key × V)} {vs : List (L2.Key × Value)} (r : KV kvs vs) : Vals (kvs.map Prod.snd) (vs.map Prod.snd) := by
  induction r with
  | nil => exact .nil
  | cons h _ ih => exact .cons h.2 ih
theorem items_snd {vs : List (L2.Key × Value)} {acc : Array Value} (h : ItemsOf (fun i v => ∃ k, vs[i]? = some (k, v)) acc vs.length) : acc.toList = vs.map Prod.snd := by
  refine List.ext_getElem? fun i => ?_
  rw [List.getElem?_map]
  by_cases hi : i < vs.length
  · have ha : i < acc.size := by rw [h.1]; exact hi
    have e : acc[i]? = some acc[i] := Array.getElem?_eq_getElem ha
    obtain ⟨k, hk⟩ := h.2 i _ e
    rw [hk, Array.getElem?_toList, e]
    rfl
  · rw [List.getElem?_eq_none (l := acc.toList) (by rw [Array.length_toList, h.1]; omega), List.getElem?_eq_none (l := vs) (by omega)]
    rfl
section
variable {X : Cx} {e : Expr} {te : TE} {p apos cpos pos : Pos}
theorem pe_listVals (hc : X.calm = true) (he : PE X e te) (hg : Gl X "list") (hm : X.mg "list" = none) (hbase : attributeBase e "values" X.env (eval e X.env) = eval e X.env := by rfl) (hline : (apos.endLine == cpos.line) = true := by rfl)
    (hs : starEach [.Call (.Attribute e "values" apos) [] [] cpos] X.env = (false, eval (.Call (.Attribute e "values" apos) [] [] cpos) X.env) :: starEach [] X.env := by rfl) :
    PE X (.Call (.Name "list" p) [.Call (.Attribute e "values" apos) [] [] cpos] [] pos) (tListVals te) := ⟨fun pins s σ H Q I hq => by
  refine wpAny_Call_Name_kw (ld_blt I hg hm boot_list (PyProof.Rows.callWith_type1 ?_ hs rfl))
  rw [hs]
  change wpAny _ _ (spliced ((false, eval (.Call (.Attribute e "values" apos) [] [] cpos) X.env) :: backTo pos (starEach [] X.env))) _ _ s
  refine Calls.spliced_cons (wpAny_Call_method (T := "dict") (id := "dict.values") hbase rfl hline F.plainAttrs_dict F.slot_dict_values F.type_dict_values (thn (he.run pins s σ H _ I hq) fun u s1 hv => ?_))
  obtain ⟨x, H1, I1, rx, d, kvs, rfl, hd, q⟩ := hv
  obtain rfl : u = Value.ref d := rx
  obtain ⟨z, lo, vs, rel, dd⟩ := dk_rd I1.hok hd
  obtain ⟨ep, hat⟩ := dd.dictAt
  have I2 : Inv X pins σ H1 { s1 with heap := s1.heap.push { cls := .type "dict_values", data := .fields #[.ref d] } } := I1.kept (t' := s1.toks) fun b ob w => Heap.get?_push_of_some _ w
  refine ⟨dd.typeIs, dd.mapOf.noDict, ?_⟩
  change wpAny _ _ (callWith cpos (.builtin "dict.values") [.ref d] [] []) _ X.xe s1
  refine method_meetsIn F.slot_dict_values F.entry_dict_values rfl (PySem.evalArgs_none ⟨rfl, dd.typeIs, F.args_dict_values_1 _, _, meets_dict_values (mixKind X.prog X.w) d lo, ⟨vs, dd⟩, ?_⟩)
  refine Calls.spliced_nil ?_
  refine PySem.W.kdl_call (PySem.W.kdl_values (knd := mixKind X.prog X.w) (kvs := vs) (ep := ep)) (I1.ok.hd hc) ⟨⟨_, Heap.get?_push_size _ rfl, rfl, rfl⟩, hat.push _⟩ (by rw [← rel.length]; exact z) fun h' tk acc c' hk hD hacc => ?_
  refine ⟨.ref _, upd H1 _ (.lst (kvs.map Prod.snd)), I2.laid (t' := tk) hk (Nat.le_refl _) ⟨by rw [List.length_map]; exact z, acc.toList, c', by rw [items_snd hacc]; exact vals_of_kv rel, by rw [Array.toArray_toList]; exact hD⟩, rfl, q _ (I2.hok.fresh (Nat.le_refl _))⟩⟩
end
section
variable {σ : L2.St} {H : Hp} {te : TE} {d : Addr} {kvs : List (L2.Key × V)}
theorem el_vals (h : Ev te σ H (.ref d)) (hd : Rd H d (.dK kvs)) : EvL (tListVals te) σ H (kvs.map Prod.snd) := fun H1 e Q q =>
  h H1 e _ fun H2 e2 => ⟨d, kvs, rfl, ex_rd (e.trans e2) hd, fun p hp => q p _ (fresh_back e2 hp) (e2.trans (Ex.new hp)) upd_same⟩
end
end Mc
namespace Mc
open PySem L2 PySem.Spec PyProof.Rows Evl
/-! over a dict's values; sorted(d), list(d), sorted(list) as new lists -/
theorem walk_vT {β : Type} {g : β → V} {l : List (PySem.Str × β)} {d : Addr} {o : Obj} : Walk (Itd d o (kvT g l)) l.length (fun H => H d = some (.frz o (.dK (kvT g l)))) (YAt (l.map fun x => g x.2)) := by
  have e : (kvT g l).length = l.length := by unfold kvT; rw [List.length_map]
  rw [← e]
  refine walk_values.mono (fun _ h => h) ?_
  rintro i H x H' hi _ ⟨rfl, k, hk⟩
  refine ⟨rfl, ?_⟩
  unfold kvT at hk
  rw [List.getElem?_map] at hk
  rw [List.getElem?_map]
  cases e2 : l[i]? with
  | none => rw [e2] at hk; cases hk
  | some z =>
    rw [e2] at hk
    cases Option.some.inj hk
    rfl
section
variable {β : Type} {g : β → V} {K : PySem.W.Frag} {H : Hp} {σ : L2.St} {te tl : TE} {a : Addr} {vs : List Nat} {j : Nat} {l : List (PySem.Str × β)} {o : Obj}
theorem el_mV (f : PySem.Str × β → V) (hl : Ev tl σ H (.ref a)) (h : H a = some (.frz o (.dK (kvT g l)))) (hz : l.length ≤ 100000) (turn : ∀ (i : Nat) y, l[i]? = some y → ∀ H', Ex H H' → Ev te ((wipe σ vs).set j (some (g y.2))) H' (f y)) (hw : ∀ v, wipe ((wipe σ vs).set j (some v)) vs = wipe σ vs := by intro _; rfl) :
    EvL (tLc (iVals tl) (gName j) tYes te vs) σ H (l.map f) := fun H1 e Q q => hl H1 e _ fun H2 e2 => ⟨a, o, _, rfl, e2 _ _ (e _ _ h), fun D hD =>
  lc_m (j := j) (c := fun x : PySem.Str × β => g x.2) (ys := l) walk_vT f rfl hD (fun H' s => s _ _ (e2 _ _ (e _ _ h))) (sz_of hz) (fun i y H' k hy s hk => turn i y hy H' ((e.trans e2).trans s) H' (Ex.refl _) k hk) (fun H' s hD' => q D H' (fresh_back e2 hD) (e2.trans s) hD') hw⟩
theorem EvL.go {xs : List V} {Q : VK} (h : EvL te σ H xs) (k : ∀ p H2, H p = none → Ex H H2 → H2 p = some (.lst xs) → Q (.ref p) H2) : te σ H Q := h H (Ex.refl H) Q k
theorem keys_kvT : (kvT g l).map (fun x => x.1) = (keysT l).map Sum.inr := by unfold kvT keysT; rw [List.map_map, List.map_map]; rfl
theorem kV_kvT : (kvT g l).map (fun kv => kV kv.1) = (keysT l).map V.str := by unfold kvT keysT; rw [List.map_map, List.map_map]; rfl
def rSrtD : List V → Hp → VK → Prop := fun xs H Q => ∃ (a : Addr) (kvs : List (L2.Key × V)) (ks : List PySem.Str), xs = [.ref a] ∧ Rd H a (.dK kvs) ∧ kvs.map (·.1) = ks.map Sum.inr ∧ ks.length < 64 ∧ ∀ ys p, ys.Perm ks → sortedS ys = true → H p = none → Q (.ref p) (upd H p (.lst (ys.map V.str)))
def rLstD : List V → Hp → VK → Prop := fun xs H Q => ∃ (a : Addr) (kvs : List (L2.Key × V)), xs = [.ref a] ∧ Rd H a (.dK kvs) ∧ ∀ p, H p = none → Q (.ref p) (upd H p (.lst (kvs.map fun kv => kV kv.1)))
def rLstS (K : PySem.W.Frag) : List V → Hp → VK → Prop := fun xs H Q => ∃ p ys, xs = [.ref p] ∧ (SqL K H p ys ∨ SqT K H p ys) ∧ ∀ l, H l = none → Q (.ref l) (upd H l (.lst ys))
theorem cr_srtD {X : Cx} (hc : X.calm = true) : CallR X (.builtin "sorted") rSrtD := call_sortedD hc
theorem cr_lstD {X : Cx} (hc : X.calm = true) : CallR X (.type "list") rLstD := call_listD hc
theorem cr_lstS {X : Cx} (h : X.K = K) : CallR X (.type "list") (rLstS K) := by subst h; exact call_list_of
theorem cr_srtSK {X : Cx} (h : X.K = K) : CallR X (.builtin "sorted") (rSortedS K) := by subst h; exact cr_sortedS
/-- sorted(d) of a dict whose keys stand sorted -/
theorem el_srtD (h : Ev te σ H (.ref a)) (hd : Rd H a (.dK (kvT g l))) (srt : sortedS (keysT l) = true) (hz : l.length < 64) : EvL (tCB rSrtD (tCons te tNil)) σ H ((keysT l).map V.str) := fun H1 e Q q =>
  h H1 e _ fun H2 e2 => ⟨a, _, keysT l, rfl, ex_rd (e.trans e2) hd, keys_kvT, by unfold keysT; rw [List.length_map]; exact hz, fun ys p pm s hp => by
    rw [srt_eq pm s srt]
    exact q p _ (fresh_back e2 hp) (e2.trans (Ex.new hp)) upd_same⟩
theorem el_lstD (h : Ev te σ H (.ref a)) (hd : Rd H a (.dK (kvT g l))) : EvL (tCB rLstD (tCons te tNil)) σ H ((keysT l).map V.str) := fun H1 e Q q =>
  h H1 e _ fun H2 e2 => ⟨a, _, rfl, ex_rd (e.trans e2) hd, fun p hp => by
    rw [kV_kvT]
    exact q p _ (fresh_back e2 hp) (e2.trans (Ex.new hp)) upd_same⟩
/-- sorted(xs) of texts -/
theorem el_srtS {xs zs : List PySem.Str} (h : Ev te σ H (.ref a)) (hx : SqL K H a (xs.map V.str)) (hz : xs.length < 64) (pm : zs.Perm xs) (srt : sortedS zs = true) : EvL (tCB (rSortedS K) (tCons te tNil)) σ H (zs.map V.str) := fun H1 e Q q =>
  h H1 e _ fun H2 e2 => ⟨a, xs, rfl, ex_l (e.trans e2) hx, hz, fun ys p pm2 s hp => by
    rw [srt_eq (pm2.trans pm.symm) s srt]
    exact q p _ (fresh_back e2 hp) (e2.trans (Ex.new hp)) upd_same⟩
theorem mem_sortS (xs : List PySem.Str) : ∃ zs : List PySem.Str, zs.Perm xs ∧ sortedS zs = true := by
  induction xs with
  | nil => exact ⟨[], .nil, rfl⟩
  | cons x xs ih =>
    obtain ⟨zs, p, s⟩ := ih
    have pw := srt_pw s
    refine ⟨zs.filter (fun z => decide (ltN z x)) ++ x :: zs.filter (fun z => !decide (ltN z x)), ?_, ?_⟩
    · have := List.filter_append_perm (fun z => decide (ltN z x)) zs
      exact (List.perm_middle).trans ((this.trans p).cons x)
    · refine sortedS_of_pairwise _ ?_
      have key : (zs.filter (fun z => decide (ltN z x)) ++ x :: zs.filter (fun z => !decide (ltN z x))).Pairwise fun a b => ¬ ltN b a := by
        refine List.pairwise_append.mpr ⟨pw.filter _, List.pairwise_cons.mpr ⟨fun y hy => ?_, pw.filter _⟩, fun y hy z hz => ?_⟩
        · have := (List.mem_filter.mp hy).2
          simpa using this
        · have h1 : ltN y x := of_decide_eq_true (List.mem_filter.mp hy).2
          rcases List.mem_cons.mp hz with e | e
          · rw [e]; exact fun h2 => ltN_irr _ (ltN_trans h1 h2)
          · have h2 : ¬ ltN z x := by simpa using (List.mem_filter.mp e).2
            exact fun h3 => h2 (ltN_trans h3 h1)
      refine key.imp fun {a b} z => ?_
      rw [ltCps_eq]
      exact decide_eq_false z
end
end Mc
namespace Mc
open PySem L2 PySem.Spec PyProof.Rows
/-! a != b of two objects of a class with its own == and no own != -/
section
variable {M : Model} {prog : Program} {w : World} {A : Around} {E : Value → Shared → Prop} {s : Shared} {K : PySem.W.Frag} {x C f : Addr} {ox : Obj} {od : Option Obj} {b : Value}
theorem ifBound_objNe {args : List Value} {Q : Option Value → Shared → Prop} (X : K.In s.heap) (I : PySem.W.InstAt s.heap x ox C od) (hs : PySem.W.findIn K (.ref C) "__ne__" = some (some (.builtin "object.__ne__")))
    (h : wpAny M A (call (.builtin "object.__ne__") (.ref x :: args)) (fun v => Q (some v)) E s) : wpAny M A (callSpecialIfBound? (.ref x) "__ne__" args) Q E s := by
  simp only [callSpecialIfBound?, bindSpecialIfBound?]
  refine wpAny_holding (wpAny_bind (wpAny_bind (wpAny_bind (I.type.here ((PySem.W.looks_findIn X hs).here ?_)))))
  refine wpAny_bind (wpAny_askSetting (wpAny_ite ?_))
  have fin : wpAny M A (call (.builtin "object.__ne__") ([.ref x] ++ args) >>= fun v => pure (some v)) Q E s := wpAny_bind (wpAny_mono h (fun v s' h' => wpAny_pure h') fun _ _ h' => h')
  split
  · exact wpAny_bind (wpAny_of_eq (F.cmp_object.ne.bind _) (wpAny_pure (by exact fin)))
  · exact wpAny_tryCatch (wpAny_bind (wpAny_of_eq (F.cmp_object.ne.bind _) (wpAny_pure (by exact fin))))
theorem entry_ne {Q : Fin → Shared → Prop} (hu : A.units < cLine) (X : K.In s.heap) (I : PySem.W.InstAt s.heap x ox C od) (hs : PySem.W.findIn K (.ref C) "__eq__" = some (some (.ref f))) (hf : PySem.W.isFn K (.ref f) = true)
    (h : wpAny M A (call (.ref f) [.ref x, b]) (fun v s' => ∃ r : Bool, v = .bool r ∧ Q (.done (.ret (.bool (!r)))) s') E s) : wpAny M A (Builtin.«object.__ne__» ⟨[.ref x, b], []⟩) Q E s := by
  unfold Builtin.«object.__ne__»
  refine wpAny_bind (m := slotArgs "__ne__" 1 _) (wpAny_pure ?_)
  refine wpAny_bind (wpAny_cRoomFor hu ?_)
  refine wpAny_bind (PySem.W.ifBound_K X I hs hf (wpAny_mono h (fun v s' hv => ?_) fun _ _ e => e))
  obtain ⟨r, rfl, hq⟩ := hv
  exact wpAny_bind (wpAny_truthy_bool (wpAny_pure hq))
theorem call_objNe {Q : Value → Shared → Prop} (hu : A.in1.units < cLine) (X : K.In s.heap) (I : PySem.W.InstAt s.heap x ox C od) (hm : PySem.W.mroIn K C (.type "object") = some true) (hs : PySem.W.findIn K (.ref C) "__eq__" = some (some (.ref f))) (hf : PySem.W.isFn K (.ref f) = true)
    (h : wpAny (model prog w) A.in1 (call (.ref f) [.ref x, b]) (fun v s' => ∃ r : Bool, v = .bool r ∧ Q (.bool (!r)) s') E s) : wpAny (model prog w) A (call (.builtin "object.__ne__") [.ref x, b]) Q E s := by
  refine wpAny_call (codeAny_call_builtin F.cmp_object.ne.plain F.cmpEntry_ne (PySem.W.check_slot F.cmpKind_ne F.cmpSplit_ne (I.type.andThen (PySem.W.looks_mroIn X hm)) (F.cmpArgs_ne _ _) (entry_ne hu X I hs hf ?_)))
  exact h
theorem rc_ne {Q : Value → Shared → Prop} {tb : Value} (hu : A.units + 1 < cLine) (X : K.In s.heap) (I : PySem.W.InstAt s.heap x ox C od) (hb : PySem.W.Looks (model prog w) s.heap (typeOf b) tb) (hn : PySem.W.notFirst K C tb = true) (hm : PySem.W.mroIn K C (.type "object") = some true)
    (hs : PySem.W.findIn K (.ref C) "__eq__" = some (some (.ref f))) (hsn : PySem.W.findIn K (.ref C) "__ne__" = some (some (.builtin "object.__ne__"))) (hf : PySem.W.isFn K (.ref f) = true)
    (h : wpAny (model prog w) A.in1 (call (.ref f) [.ref x, b]) (fun v s' => ∃ r : Bool, v = .bool r ∧ Q (.bool (!r)) s') E s) : wpAny (model prog w) A (richCompare .NotEq (.ref x) b) Q E s := by
  have one : wpAny (model prog w) A (tryCompare (.ref x) "__ne__" b) (fun r s' => ∃ v, r = some v ∧ Q v s') E s := by
    unfold tryCompare
    refine wpAny_bind (ifBound_objNe X I hsn (call_objNe (by show A.units + 1 < cLine; exact hu) X I hm hs hf (wpAny_mono h (fun v s' hv => ?_) fun _ _ e => e)))
    obtain ⟨r, e, hq⟩ := hv
    exact ⟨r, e, wpAny_pure ⟨_, rfl, hq⟩⟩
  unfold richCompare
  simp only [oneThing_ref]
  refine wpAny_holding (wpAny_bind (wpAny_cRoomFor (by omega) ?_))
  refine wpAny_bind (I.type.here (wpAny_bind (hb.here ?_)))
  split
  · rename_i q
    have e : PySem.W.subIn K tb (.ref C) = some false := by
      rcases Bool.or_eq_true_iff.mp hn with e | e
      · rw [beq_iff_eq.mp e] at q; simp at q
      · exact beq_iff_eq.mp e
    refine wpAny_bind ((PySem.W.looks_subIn X e).here ?_)
    simp only [Bool.false_eq_true, if_false]
    refine wpAny_bind (wpAny_mono one (fun r s' z => ?_) fun _ _ e => e)
    obtain ⟨v, rfl, hq⟩ := z
    exact wpAny_pure hq
  · refine wpAny_bind (wpAny_pure ?_)
    simp only [Bool.false_eq_true, if_false]
    refine wpAny_bind (wpAny_mono one (fun r s' z => ?_) fun _ _ e => e)
    obtain ⟨v, rfl, hq⟩ := z
    exact wpAny_pure hq
end
/-- == and != of two objects of the class C by its own == -/
def rNeI (C : Addr) (sp : Sp) (E : XK) : R2 := fun x y H Q => ∃ (a b dx dy : Addr) (fs gs : List (PySem.Str × V)), x = .ref a ∧ y = .ref b ∧ H a = some (.ins C dx fs) ∧ H b = some (.ins C dy gs) ∧ sp [.ref a, .ref b] H (fun v H' => ∃ r : Bool, v = .bl r ∧ Q (.bl (!r)) H') E
def rEqI (C : Addr) (sp : Sp) (E : XK) : R2 := fun x y H Q => ∃ (a b dx dy : Addr) (fs gs : List (PySem.Str × V)), x = .ref a ∧ y = .ref b ∧ H a = some (.ins C dx fs) ∧ H b = some (.ins C dy gs) ∧ sp [.ref a, .ref b] H (fun v H' => ∃ r : Bool, v = .bl r ∧ Q (.bl r) H') E
section
variable {X : Cx} {CX : CXT} {n : Nat} {C f : Addr} {fd : FuncData} {ps : List PySem.Str} {sp : Sp} {E : XK}
theorem op_neI (F : FnOk X.prog X.w X.K X.mg X.base CX n f fd ps sp) (hs : PySem.W.findIn X.K (.ref C) "__eq__" = some (some (.ref f))) (hsn : PySem.W.findIn X.K (.ref C) "__ne__" = some (some (.builtin "object.__ne__"))) (hm : PySem.W.mroIn X.K C (.type "object") = some true)
    (hf : PySem.W.isFn X.K (.ref f) = true) (hb : Binds X.K fd ps []) (hx : Passes CX X E) (hr : Room (n + 1) X.A) : OpR X (compareOp .NotEq) (rNeI C sp E) := by
  intro pins s σ H x y v u Q I rx ry h
  obtain ⟨a, b, dx, dy, fs, gs, rfl, rfl, ha, hb', hsp⟩ := h
  cases rx
  cases ry
  obtain ⟨mA, J, _⟩ := ins_get I.hok ha
  obtain ⟨mB, J', _⟩ := ins_get I.hok hb'
  obtain ⟨od, J, _⟩ := J.look
  obtain ⟨od', J', _⟩ := J'.look
  have hu := hr.units
  show wpAny (model X.prog X.w) X.A (richCompare .NotEq (.ref a) (.ref b)) (EP X pins σ Q) X.xe s
  refine rc_ne (tb := .ref C) (by omega) I.kIn J J'.type (by simp [PySem.W.notFirst]) hm hs hsn hf ?_
  have e0 : Env0 X.prog X.w X.K X.mg X.base X.A.in1 X.stack s H := by
    have e := I.env0
    exact ⟨e.frames, e.mod, e.bs, e.bsz, e.funs, e.frf, e.hok, e.bare⟩
  have hl := F.len _ _ _ _ hsp
  have r2 : Vals [V.ref a, V.ref b] [Value.ref a, Value.ref b] := .cons rfl (.cons rfl .nil)
  refine wpAny_call (codeAny_mono (F.run X.A.in1 X.stack s H ⟨[.ref a, .ref b], []⟩ [.ref a, .ref b] [.ref a, .ref b] _ E hr.in1 e0 (by
    have := hb s [.ref a, .ref b] I.kIn (by simpa using hl)
    simpa using this) r2 hsp) fun r s' hq => ?_)
  cases r with
  | error e => exact hx pins σ H s e s' I hq
  | ok fl =>
    cases fl with
    | ret w' =>
      obtain ⟨z, H', I', rz, r, ez, q⟩ := I.after hq
      subst ez
      cases rz
      exact ⟨r, rfl, .bl (!r), H', I', rfl, q⟩
    | next => exact False.elim hq
    | brk => exact False.elim hq
    | cont => exact False.elim hq
theorem op_eqI (F : FnOk X.prog X.w X.K X.mg X.base CX n f fd ps sp) (hs : PySem.W.findIn X.K (.ref C) "__eq__" = some (some (.ref f)))
    (hf : PySem.W.isFn X.K (.ref f) = true) (hb : Binds X.K fd ps []) (hx : Passes CX X E) (hr : Room n X.A) : OpR X (compareOp .Eq) (rEqI C sp E) := by
  intro pins s σ H x y v u Q I rx ry h
  obtain ⟨a, b, dx, dy, fs, gs, rfl, rfl, ha, hb', hsp⟩ := h
  cases rx
  cases ry
  obtain ⟨mA, J, _⟩ := ins_get I.hok ha
  obtain ⟨mB, J', _⟩ := ins_get I.hok hb'
  obtain ⟨od, J, _⟩ := J.look
  obtain ⟨od', J', _⟩ := J'.look
  obtain ⟨m, hF⟩ := I.fr
  show wpAny (model X.prog X.w) X.A (richCompare .Eq (.ref a) (.ref b)) (EP X pins σ Q) X.xe s
  refine PySem.W.cmp_K (op := .Eq) (tb := .ref C) hr.units0 hF I.ok.mod.kin J J'.type (by simp [PySem.W.notFirst]) hs hf ?_
  have e0 : Env0 X.prog X.w X.K X.mg X.base X.A X.stack s H := I.env0
  have hl := F.len _ _ _ _ hsp
  have r2 : Vals [V.ref a, V.ref b] [Value.ref a, Value.ref b] := .cons rfl (.cons rfl .nil)
  refine wpAny_call (codeAny_mono (F.run X.A X.stack s H ⟨[.ref a, .ref b], []⟩ [.ref a, .ref b] [.ref a, .ref b] _ E hr e0 (by
    have := hb s [.ref a, .ref b] I.kIn (by simpa using hl)
    simpa using this) r2 hsp) fun r s' hq => ?_)
  cases r with
  | error e => exact hx pins σ H s e s' I hq
  | ok fl =>
    cases fl with
    | ret w' =>
      obtain ⟨z, H', I', rz, r, ez, q⟩ := I.after hq
      subst ez
      cases rz
      exact ⟨.bl r, H', I', rfl, q⟩
    | next => exact False.elim hq
    | brk => exact False.elim hq
    | cont => exact False.elim hq
end
end Mc
namespace Mc
open PySem L2 PySem.Spec PyProof.Rows Gd Evl
abbrev sWithout : Stmt := top 27
abbrev sLost : Stmt := top 28
structure TxWo (K : PySem.W.Frag) (mg : PySem.Str → Option Value) (CS CC : Addr) : Prop where
  clS : Cls K CS
  nCh : NoAttr K CS "channels"
  nCa : NoAttr K CS "calls"
  clC : Cls K CC
  nW : NoAttr K CC "worth"
  nH : NoAttr K CC "heard"
  len : mg "len" = none
theorem q_asgD8 {te : TE} {tz : TS} {D : Ends} {σ : L2.St} {H : Hp} {kvs : List (L2.Key × V)} {i : Nat} (h : EvD te σ H kvs) (k : ∀ p H1, H p = none → Ex H H1 → H1 p = some (.dK kvs) → tz D (σ.set i (some (.ref p))) H1) : tSeq (tAsg te (gName i)) tz D σ H := h H (Ex.refl H) _ fun p H1 hp e h1 => k p H1 hp e h1
theorem ed_new {σ : L2.St} {H : Hp} : EvD tDNewK σ H [] := fun H1 e Q q => fun p hp => q p _ hp (Ex.new hp) upd_same
theorem q_lockD {te : TE} {tz : TS} {D : Ends} {σ : L2.St} {H : Hp} {a : Addr} {kvs xs : List (L2.Key × V)} {i : Nat} (h : H a = some (.dK kvs)) (k : ∀ od, EvD te σ (upd H a (.frz od (.dK kvs))) xs) (q : ∀ p H1, H p = none → Ex H H1 → H1 p = some (.dK xs) → tz D (σ.set i (some (.ref p))) H1) : tSeq (tLock (tAsg te (gName i))) tz D σ H :=
  ⟨a, _, h, trivial, fun od => k od _ (Ex.refl _) _ fun p H2 hp e2 h2 => by
    have na : p ≠ a := fun z => by rw [z, upd_same] at hp; cases hp
    exact ⟨e2 _ _ upd_same, q p _ (by rw [upd_ne na] at hp; exact hp) (ex_unlock h e2) (by rw [upd_ne na]; exact h2)⟩⟩
theorem flt_keys {chs : Chs} {ms : List PySem.Str} (nd : (keysT chs).Nodup) : mkD (fun y => vI ((getT chs y).getD 0)) ((keysT chs).filter fun y => !decide (y ∈ ms)) = kvT vI (chs.filter fun x => !decide (x.1 ∈ ms)) := by
  have e : (keysT chs).filter (fun y => !decide (y ∈ ms)) = (chs.filter fun x => !decide (x.1 ∈ ms)).map (·.1) := by unfold keysT; rw [List.filter_map]; rfl
  rw [e]
  unfold mkD kvT
  rw [List.map_map]
  refine List.map_congr_left fun x hx => ?_
  show ((Sum.inr x.1 : L2.Key), vI ((getT chs x.1).getD 0)) = (Sum.inr x.1, vI x.2)
  rw [getT_mem nd (List.mem_filter.mp hx).1]
  rfl
theorem ev_ni8 {K : PySem.W.Frag} {σ : L2.St} {H : Hp} {ta tb : TE} {p : Addr} {s : PySem.Str} {xs : List PySem.Str} (ha : Ev ta σ H (.str s)) (hb : Ev tb σ H (.ref p)) (h : H p = some (.tup (xs.map V.str)) ∨ H p = some (.lst (xs.map V.str))) : Ev (tOp (rIn K true) ta tb) σ H (.bl (!decide (s ∈ xs))) :=
  h.elim (fun h => ev_niST ha hb (SqT.of h)) fun h => ev_niSL ha hb (SqL.of h)
/-- the calls without some masts -/
def LessC (ms : List PySem.Str) (cls cs : Cls') : Prop := ∀ x ∈ cs, ∃ z ∈ cls, z.1 = x.1 ∧ x.2.2.1 = z.2.2.1 ∧ x.2.2.2.Perm (z.2.2.2.filter fun m => !decide (m ∈ ms)) ∧ sortedS x.2.2.2 = true
def spWithout (K : PySem.W.Frag) (CS CC : Addr) : Sp := fun vs H Q _ => ∃ (sc t : Addr) (ms : List PySem.Str) (chs : Chs) (cls : Cls'), vs = [.ref sc, .ref t] ∧ SceneH K CS CC H sc chs cls ∧ (∃ dx a b, H sc = some (.ins CS dx [("channels", .ref a), ("calls", .ref b)]) ∧ Rd H a (.dK (kvT vI chs)) ∧ H b = some (.dK (kvT vO cls))) ∧ OkC chs cls ∧ (H t = some (.tup (ms.map V.str)) ∨ H t = some (.lst (ms.map V.str))) ∧
  ∀ (sc2 : Addr) (chs2 : Chs) (cls2 : Cls') (H' : Hp), H sc2 = none → SceneH K CS CC H' sc2 chs2 cls2 → ScnX CS H' sc2 chs2 cls2 → OkC chs2 cls2 → chs2.Perm (chs.filter fun x => !decide (x.1 ∈ ms)) → (keysT cls2).Perm (keysT cls) → LessC ms cls cls2 → Same H H' → Q (.ref sc2) H'
section
variable {P : Program} {w : World} {K : PySem.W.Frag} {mg : PySem.Str → Option Value} {base : Heap}
abbrev nmW : List PySem.Str := ["scene", "masts", "channels", "calls", "name", "call", "mast"]
theorem scWo : FnScope nmW ["scene", "masts"] (defScope sWithout) := ⟨rfl, rfl, rfl, by decide +kernel, rfl, by decide +kernel, by decide +kernel⟩
theorem ok_without {f CS CC : Addr} {fd : FuncData} (F : Fun K "without" "without" sWithout f fd) (T : TxWo K mg CS CC) (c_Call : CalI P w K mg base CC 1 "Call" ["self", "worth", "heard"] (spCInit K CC)) (c_Scene : CalI P w K mg base CS 4 "Scene" ["self", "channels", "calls"] (spSInit K CS CC)) :
    FnOk P w K mg base CX0 6 f fd ["scene", "masts"] (spWithout K CS CC) := by
  refine F.ok scWo (fun vs H Q E h => ?_) (fun cdv A outer s H vs Q E hr h => ?_)
  · obtain ⟨sc, t, ms, chs, cls, rfl, _⟩ := h
    rfl
  · obtain ⟨sc, t, ms, chs, cls, rfl, hC, ⟨dx, a, b, h1, h2, h3⟩, ok, ht, q⟩ := h
    have hu := hu_of hr
    obtain ⟨t2, hp2, ht2⟩ : ∃ t2, PSs (cxOf CX0 P w K mg base nmW "without" (defScope sWithout) f cdv A outer s H E).nox ((defBody sWithout).tail) t2 ∧ ∀ cp H1, H cp = none → Ex H H1 → H1 cp = some (.dK (kvT vI (chs.filter fun x => !decide (x.1 ∈ ms)))) → t2 { nx := fun _ H' => Q .non H', rt := Q } [some (.ref sc), some (.ref t), some (.ref cp), none, none, none, none] H1 := by
      refine ⟨_, (pss_cons (ps_set (i := 3) scWo.nd rfl (Or.inl rfl) pe_dnewK)
      (pss_cons (ps_lock (ps_for PassesOwn.never rfl (pi_items (pe_fld (pv 0) rfl)) (pg_tup rfl (pgs_cons (pg_name (i := 4) scWo.nd rfl (Or.inl rfl)) (pgs_cons (pg_name (i := 5) scWo.nd rfl (Or.inl rfl)) pgs_nil)))
        (pss_one (ps_dput hu (pv 3) (pv 4) (pe_calI c_Call (hr.mono (by decide)) rfl (pa_cons (pe_fld (pv 5) rfl) (pa_cons (pe_lc (own := [("mast", 6)]) (g := gName 6) rfl scWo.nd (pi_tup (pe_fld (pv 5) rfl)) (blkOk_by (own := [("mast", 6)]) (N := nmW) (sc := defScope sWithout) (by decide +kernel)) (fun _ _ _ _ _ => pg_name (i := 6) scWo.nd rfl (Or.inl rfl)) (fun _ _ _ _ _ => pts_one (pt_cmpR (op_notInK (K := K) rfl) (pv 6) (pv 1) (by rfl))) (fun _ _ _ _ _ => (pv 6))) pa_nil))) rfl))))
      (pss_one (ps_ret (pe_calI c_Scene (hr.mono (by decide)) rfl (pa_cons (pv 2) (pa_cons (pv 3) pa_nil))))))), fun cp H1 hcp x1 hcp1 => ?_⟩
      refine q_asgD8 ed_new fun cq H2 hcq x2 hcq2 => ?_
      have x12 : Ex H H2 := Ex.trans x1 x2
      have hb2 := x12 _ _ h3
      have nsb : sc ≠ b := fun e => by rw [e, h3] at h1; cases h1
      have ncb : cq ≠ b := fun e => by rw [e, x1 _ _ h3] at hcq; cases hcq
      have off : ∀ {u o}, H u = some o → (∀ kvs, o ≠ .dK kvs) → ∀ od, upd H2 b (.frz od (.dK (kvT vO cls))) u = some o := fun {u o} z n od => by
        rw [upd_ne fun e => by rw [e, h3] at z; exact n _ (Option.some.inj z).symm]; exact x12 _ _ z
      have lcl : cls.length < 64 := ok.lenc
      refine ⟨b, _, hb2, trivial, fun od => ⟨_, rfl, sc, CS, dx, _, _, rfl, off h1 (fun _ => by simp) od, T.clS, T.nCa, rfl, b, od, _, rfl, upd_same, for_it walk_items (fun j σ' H' => ∃ (cs : Cls') (v4 v5 : Option V), σ' = [some (.ref sc), some (.ref t), some (.ref cp), some (.ref cq), v4, v5, none] ∧ Kp [cq] (upd H2 b (.frz od (.dK (kvT vO cls)))) H' ∧ H' cq = some (.dK (kvT vO cs)) ∧ keysT cs = (keysT cls).take j ∧ LessC ms cls cs ∧ CallsH K CC H' cs)
        ⟨[], _, _, rfl, Kp.refl _ _, by rw [upd_ne ncb]; exact hcq2, rfl, fun x hx => (nomatch hx), fun x hx => (nomatch hx)⟩ (fun j σ' H' _ ⟨_, _, _, _, k, _⟩ => k b _ upd_same (fun e => ncb (List.mem_singleton.mp e).symm)) ?_ ?_⟩⟩
      · rintro j x σ' H3 H4 hj ⟨cs, v4, v5, rfl, k3, hcq3, hk3, hl3, hC3⟩ ⟨tq, k1, w1, rfl, htq, rfl, hk1, hw1⟩
        obtain ⟨z, hz⟩ : ∃ z, cls[j]? = some z := by
          have : j < cls.length := by unfold kvT at hj; rw [List.length_map] at hj; exact hj
          exact ⟨_, List.getElem?_eq_getElem this⟩
        have hzm := List.mem_of_getElem? hz
        have ek1 : k1 = .str z.1 := by
          have h := (show ((kvT vO cls)[j]?).map (fun kv => kV kv.1) = some k1 from hk1)
          unfold kvT at h; rw [List.getElem?_map, hz] at h; exact (Option.some.inj h).symm
        have ew1 : w1 = .ref z.2.1 := by
          have h := (show ((kvT vO cls)[j]?).map Prod.snd = some w1 from hw1)
          unfold kvT at h; rw [List.getElem?_map, hz] at h; exact (Option.some.inj h).symm
        subst ek1 ew1
        have x34 : Ex H3 (upd H3 tq (.tup [.str z.1, .ref z.2.1])) := Ex.new htq
        refine ⟨tq, [.str z.1, .ref z.2.1], rfl, SqT.of upd_same, rfl, _, _, rfl, _, _, rfl, rfl, ?_⟩
        generalize upd H3 tq (.tup [.str z.1, .ref z.2.1]) = H4 at x34 ⊢
        obtain ⟨dxc, hh, c1, c2⟩ := (hC.calls z hzm).here
        have old : ∀ {u o}, H u = some o → (∀ kvs, o ≠ .dK kvs) → H4 u = some o := fun {u o} y n => x34 _ _ (k3 u o (off y n od) fun e => by rw [List.mem_singleton.mp e] at y; rw [x1 _ _ y] at hcq; cases hcq)
        have okz := ok.cl z hzm
        refine ⟨_, rfl, z.2.1, CC, dxc, _, _, rfl, old c1 (fun _ => by simp), T.clC, T.nW, rfl, ?_⟩
        dsimp only [tCons]
        refine EvL.go (xs := (z.2.2.2.filter fun m => !decide (m ∈ ms)).map V.str) ?_ fun l H5 hl x5 hl5 => ?_
        · exact el_fT (c := V.str) (fun m => !decide (m ∈ ms)) V.str (ev_fld (ev_var rfl) (old c1 (fun _ => by simp)) T.clC T.nH rfl) (SqT.of (old c2 (fun _ => by simp))) (by omega) (fun i y hy H' x' => et_test (ev_ni8 (ev_var rfl) (ev_var rfl) (ht.imp (fun z => x' _ _ (old z (fun _ => by simp))) fun z => x' _ _ (old z (fun _ => by simp))))) fun i y hy _ H' x' => ev_var rfl
        intro p dxp hp hdx _
        have s56 : Same H5 (upd (upd H5 dxp (.own p)) p (.ins CC dxp [])) := fun b o z => by rw [upd_ne (ne_of_none z hp), upd_ne (ne_of_none z hdx)]; exact z
        refine ⟨p, dxp, l, z.2.2.1, z.2.2.2.filter fun m => !decide (m ∈ ms), rfl, upd_same, s56 _ _ hl5, Nat.lt_of_le_of_lt (List.length_filter_le _ _) okz.2.2.2.2.1, fun ys H6 hperm hsrt hcall k6 => ⟨rfl, ?_⟩⟩
        have x46 : Ex H4 H6 := fun u o y => k6 u o (s56 _ _ (x5 _ _ y)) fun e => by rw [List.mem_singleton.mp e] at y; rw [x5 _ _ y] at hp; cases hp
        have x36 := Ex.trans x34 x46
        have hcq6 := x36 _ _ hcq3
        have nk : z.1 ∉ keysT cs := by
          rw [hk3]
          exact nd_take ok.ndc (by unfold keysT; rw [List.getElem?_map, hz]; rfl)
        have lcs : cs.length = j := by
          have := congrArg List.length hk3
          have hj' : j < cls.length := (List.getElem?_eq_some_iff.mp hz).1
          unfold keysT at this
          rw [List.length_map, List.length_take, List.length_map] at this
          omega
        have hj64 : j < 64 := Nat.lt_trans (List.getElem?_eq_some_iff.mp hz).1 lcl
        refine ⟨_, rfl, _, rfl, cq, _, rfl, DPut.k (k := Sum.inr z.1) hcq6 (by unfold kvT; rw [List.length_map, lcs, sizeLine_eq]; omega), ?_⟩
        have ep := put_new (f := vO) (v := ((p, z.2.2.1, ys) : CD)) nk
        have hm6 : ∀ {u o}, H6 u = some o → (∀ kvs, o ≠ .dK kvs) → upd H6 cq (.dK (putK (kvT vO cs) (Sum.inr z.1) (.ref p))) u = some o := fun {u o} y n => by
          rw [upd_ne fun e => by rw [e, hcq6] at y; exact n _ (Option.some.inj y).symm]; exact y
        refine ⟨cs ++ [(z.1, (p, z.2.2.1, ys))], _, _, rfl, fun u o y n => ?_, by rw [upd_same]; exact congrArg _ (congrArg _ ep), ?_, fun x hx => ?_, fun x hx => ?_⟩
        · have nu : u ≠ cq := fun e => n (List.mem_singleton.mpr e)
          rw [upd_ne nu]; exact x36 _ _ (k3 u o y n)
        · unfold keysT at hk3 ⊢
          rw [List.map_append, hk3, List.take_add_one, List.getElem?_map, hz]; rfl
        · rcases List.mem_append.mp hx with y | y
          · exact hl3 x y
          · rw [List.mem_singleton.mp y]; exact ⟨z, hzm, rfl, rfl, hperm, hsrt⟩
        · rcases List.mem_append.mp hx with y | y
          · obtain ⟨dx', h', a1, a2⟩ := (hC3 x y).here
            exact ⟨dx', h', hm6 (x36 _ _ a1) (fun _ => by simp), hm6 (x36 _ _ a2) (fun _ => by simp)⟩
          · rw [List.mem_singleton.mp y]
            obtain ⟨dx', h', a1, a2⟩ := hcall.here
            exact ⟨dx', h', hm6 a1 (fun _ => by simp), hm6 a2 (fun _ => by simp)⟩
      · rintro σ' H3 ⟨cs, v4, v5, rfl, k3, hcq3, hk3, hl3, hC3⟩
        have hk4 : keysT cs = keysT cls := by rw [hk3]; exact List.take_of_length_le (by unfold kvT keysT; rw [List.length_map, List.length_map]; exact Nat.le_refl _)
        have hb3 := k3 b _ upd_same (fun e => ncb (List.mem_singleton.mp e).symm)
        refine ⟨hb3, ?_⟩
        have xu : ∀ u o, H2 u = some o → u ≠ cq → upd H3 b (.dK (kvT vO cls)) u = some o := fun u o y n => by
          by_cases e : u = b
          · rw [e, upd_same]; rw [e, hb2] at y; exact y
          · rw [upd_ne e]; exact k3 u o (by rw [upd_ne e]; exact y) fun q => n (List.mem_singleton.mp q)
        have hcq4 : upd H3 b (.dK (kvT vO cls)) cq = some (.dK (kvT vO cs)) := by rw [upd_ne ncb]; exact hcq3
        have hC4 : CallsH K CC (upd H3 b (.dK (kvT vO cls))) cs := fun x hx => by
          obtain ⟨dx', h', a1, a2⟩ := (hC3 x hx).here
          exact ⟨dx', h', by rw [upd_ne fun e => by rw [e, hb3] at a1; cases a1]; exact a1, by rw [upd_ne fun e => by rw [e, hb3] at a2; cases a2]; exact a2⟩
        have ncq : cp ≠ cq := fun e => by rw [← e, hcp1] at hcq; cases hcq
        have hcp4 := xu cp _ (x2 _ _ hcp1) ncq
        generalize upd H3 b (.dK (kvT vO cls)) = H4 at xu hcq4 hC4 hcp4 ⊢
        have xH : Same H H4 := fun u o y => xu u o (x12 _ _ y) fun e => by rw [e] at y; rw [x1 _ _ y] at hcq; cases hcq
        have ok' : OkC (chs.filter fun x => !decide (x.1 ∈ ms)) cs := by
          refine ⟨?_, by rw [hk4]; exact ok.ndc, Nat.lt_of_le_of_lt (List.length_filter_le _ _) ok.len, ?_, fun x hx => ok.ch x (List.mem_filter.mp hx).1, fun x hx => ?_⟩
          · unfold keysT
            exact ok.nd.sublist ((List.filter_sublist).map _)
          · have := congrArg List.length hk4
            unfold keysT at this
            rw [List.length_map, List.length_map] at this
            rw [this]; exact ok.lenc
          · obtain ⟨z, hz, e1, e2, e3, _⟩ := hl3 x hx
            obtain ⟨g0, g1, g2, g3, g4, g5⟩ := ok.cl z hz
            refine ⟨by rw [← e1]; exact g0, by rw [e2]; exact g1, by rw [e2]; exact g2, e3.nodup_iff.mpr (g3.filter _), by rw [e3.length_eq]; exact Nat.lt_of_le_of_lt (List.length_filter_le _ _) g4, fun m hm => ?_⟩
            obtain ⟨m1, m2⟩ := List.mem_filter.mp (e3.mem_iff.mp hm)
            obtain ⟨y, hy, rfl⟩ := List.mem_map.mp (g5 m m1)
            exact List.mem_map.mpr ⟨y, List.mem_filter.mpr ⟨hy, m2⟩, rfl⟩
        refine ⟨_, rfl, _, rfl, ?_⟩
        intro x dxx hx hdx _
        have s5 : Same H4 (upd (upd H4 dxx (.own x)) x (.ins CS dxx [])) := fun b o z => by rw [upd_ne (ne_of_none z hx), upd_ne (ne_of_none z hdx)]; exact z
        refine ⟨x, dxx, cp, cq, _, cs, rfl, ncq, upd_same, s5 _ _ hcp4, s5 _ _ hcq4, ok', hC4.same s5, fun chs2 cls2 H5 p1 p2 hS hX k5 => ⟨rfl, q x chs2 cls2 H5 (fresh_back xH hx) hS hX (ok'.perm p1 p2) p1 ?_ (fun y hy => hl3 y (p2.mem_iff.mp hy)) fun u o y => k5 u o (s5 _ _ (xH _ _ y)) fun e => ?_⟩⟩
        · rw [← hk4]; exact p2.map _
        · rw [List.mem_singleton.mp e] at y; rw [xH _ _ y] at hx; cases hx
    have ek : mkD (fun y => vI ((getT chs y).getD 0)) ((keysT chs).filter fun y => !decide (y ∈ ms)) = kvT vI (chs.filter fun x => !decide (x.1 ∈ ms)) := flt_keys ok.nd
    have lch : chs.length ≤ 100000 := by have := ok.len; omega
    rcases h2 with h2 | ⟨o2, h2⟩
    · have nsa : sc ≠ a := fun e => by rw [e, h2] at h1; cases h1
      have nta : t ≠ a := fun e => by rw [e, h2] at ht; rcases ht with z | z <;> cases z
      refine ⟨_, pss_cons (ps_lock (ps_setDc (i := 2) (own := [("mast", 6)]) (g := gName 6) rfl scWo.nd rfl rfl (sw_dict rfl rfl rfl (by decide +kernel)) (pi_keys (pe_fld (pv 0) rfl)) (blkOk_by (own := [("mast", 6)]) (N := nmW) (sc := defScope sWithout) (by decide +kernel)) (fun _ _ _ _ _ => pg_name (i := 6) scWo.nd rfl (Or.inl rfl)) (fun _ _ _ _ _ => pts_one (pt_cmpR (op_notInK (K := K) rfl) (pv 6) (pv 1) (by rfl))) (fun _ _ _ _ _ => (pv 6)) (fun _ _ _ _ _ => (pe_dget hu (pe_fldK (K := K) rfl (pv 0) rfl) (pv 6) (fun _ _ => rfl))))) hp2, ?_⟩
      refine q_lockD h2 (fun od => ed_KF (g := vI) (l := chs) (fun y => !decide (y ∈ ms)) (fun y => vI ((getT chs y).getD 0)) ok.nd (ev_fld (ev_var rfl) (by rw [upd_ne nsa]; exact h1) T.clS T.nCh rfl) upd_same lch (fun i y hy H' x' => et_test (ev_ni8 (ev_var rfl) (ev_var rfl) (ht.imp (fun z => x' _ _ (by rw [upd_ne nta]; exact z)) fun z => x' _ _ (by rw [upd_ne nta]; exact z)))) fun i y hy H' x' => ?_) fun p H1 hp x1 hp1 => ht2 p H1 hp x1 (by rw [← ek]; exact hp1)
      obtain ⟨n, en⟩ := getT_key (List.mem_of_getElem? hy)
      exact ev_is (ev_dget (f := vI) (ev_fld (ev_var rfl) (x' _ _ (by rw [upd_ne nsa]; exact h1)) T.clS T.nCh rfl) (ev_var rfl) (.inr ⟨od, x' _ _ upd_same⟩) en) (by rw [en]; rfl)
    · refine ⟨_, pss_cons (ps_setDc (i := 2) (own := [("mast", 6)]) (g := gName 6) rfl scWo.nd rfl rfl (sw_dict rfl rfl rfl (by decide +kernel)) (pi_keys (pe_fld (pv 0) rfl)) (blkOk_by (own := [("mast", 6)]) (N := nmW) (sc := defScope sWithout) (by decide +kernel)) (fun _ _ _ _ _ => pg_name (i := 6) scWo.nd rfl (Or.inl rfl)) (fun _ _ _ _ _ => pts_one (pt_cmpR (op_notInK (K := K) rfl) (pv 6) (pv 1) (by rfl))) (fun _ _ _ _ _ => (pv 6)) (fun _ _ _ _ _ => (pe_dget hu (pe_fldK (K := K) rfl (pv 0) rfl) (pv 6) (fun _ _ => rfl)))) hp2, ?_⟩
      refine q_asgD8 (ed_KF (g := vI) (l := chs) (fun y => !decide (y ∈ ms)) (fun y => vI ((getT chs y).getD 0)) ok.nd (ev_fld (ev_var rfl) h1 T.clS T.nCh rfl) h2 lch (fun i y hy H' x' => et_test (ev_ni8 (ev_var rfl) (ev_var rfl) (ht.imp (fun z => x' _ _ z) fun z => x' _ _ z))) fun i y hy H' x' => ?_) fun p H1 hp x1 hp1 => ht2 p H1 hp x1 (by rw [← ek]; exact hp1)
      obtain ⟨n, en⟩ := getT_key (List.mem_of_getElem? hy)
      exact ev_is (ev_dget (f := vI) (ev_fld (ev_var rfl) (x' _ _ h1) T.clS T.nCh rfl) (ev_var rfl) (.inr ⟨o2, x' _ _ h2⟩) en) (by rw [en]; rfl)
end
end Mc
/-! the mathematics of combinations: all parts of so many items, in the order of their places -/
namespace Cmb
/-- the next places -/
def nextC (n : Nat) (idx : List Nat) : Option (List Nat) :=
  let r := idx.length
  match (List.range r).reverse.find? fun i => idx.getD i 0 != i + n - r with
  | none => none
  | some i => some (idx.take i ++ (List.range (r - i)).map (idx.getD i 0 + 1 + ·))
/-- what is handed out still -/
inductive Rst (n : Nat) : Int → List Nat → List (List Nat) → Prop
  | fst {idx : List Nat} {l : List (List Nat)} : Rst n 1 idx l → Rst n 0 idx (idx :: l)
  | nxt {idx nx : List Nat} {l : List (List Nat)} : nextC n idx = some nx → Rst n 1 nx l → Rst n 1 idx (nx :: l)
  | nil {idx : List Nat} : nextC n idx = none → Rst n 1 idx []
  | fin {idx : List Nat} : Rst n 2 idx []
/-- all parts of r items -/
def cmb {α : Type} : Nat → List α → List (List α)
  | 0, _ => [[]]
  | _ + 1, [] => []
  | r + 1, x :: xs => (cmb r xs).map (x :: ·) ++ cmb (r + 1) xs
theorem range_succ_rev (r : Nat) : (List.range (r + 1)).reverse = ((List.range r).map (· + 1)).reverse ++ [0] := by
  rw [List.range_succ_eq_map, List.reverse_cons]
theorem next_cons (n f : Nat) (s : List Nat) (hn : s.length + 1 ≤ n) : nextC n (f :: s) = match nextC n s with
    | some s' => some (f :: s')
    | none => if f ≠ n - (s.length + 1) then some (List.range' (f + 1) (s.length + 1)) else none := by
  unfold nextC
  simp only [List.length_cons]
  rw [range_succ_rev, List.find?_append, ← List.map_reverse, List.find?_map]
  have e : ((fun i => (f :: s).getD i 0 != i + n - (s.length + 1)) ∘ fun x => x + 1) = fun i => s.getD i 0 != i + n - s.length := by
    funext i
    show ((f :: s).getD (i + 1) 0 != i + 1 + n - (s.length + 1)) = _
    rw [List.getD_cons_succ, show i + 1 + n - (s.length + 1) = i + n - s.length from by omega]
  rw [e]
  cases h : (List.range s.length).reverse.find? fun i => s.getD i 0 != i + n - s.length with
  | some i =>
    show some _ = some _
    congr 1
    show List.take (i + 1) (f :: s) ++ List.map (fun x => (f :: s).getD (i + 1) 0 + 1 + x) (List.range (s.length + 1 - (i + 1))) = f :: (s.take i ++ _)
    rw [List.take_succ_cons, List.getD_cons_succ, show s.length + 1 - (i + 1) = s.length - i from by omega]
    rfl
  | none =>
    show (match (Option.map (fun x => x + 1) none).or (List.find? (fun i => (f :: s).getD i 0 != i + n - (s.length + 1)) [0]) with | none => none | some i => _) = _
    have e0 : List.find? (fun i => (f :: s).getD i 0 != i + n - (s.length + 1)) [0] = if f ≠ n - (s.length + 1) then some 0 else none := by
      rw [List.find?_cons]
      show (match (f != 0 + n - (s.length + 1)) with | true => some 0 | false => _) = _
      rw [Nat.zero_add]
      by_cases q : f = n - (s.length + 1)
      · rw [if_neg (fun z => z q), show (f != n - (s.length + 1)) = false from by simp [q]]; rfl
      · rw [if_pos q, show (f != n - (s.length + 1)) = true from by simp [q]]
    rw [e0]
    by_cases q : f = n - (s.length + 1)
    · rw [if_neg (fun z => z q)]; simp [q]
    · rw [if_pos q, if_pos q]
      show some (List.take 0 (f :: s) ++ (List.range (s.length + 1 - 0)).map fun x => (f :: s).getD 0 0 + 1 + x) = _
      congr 1
      show ([] : List Nat) ++ (List.range (s.length + 1)).map (fun x => f + 1 + x) = _
      rw [List.nil_append, List.range'_eq_map_range]
theorem next_len {n : Nat} {s s' : List Nat} (h : nextC n s = some s') : s'.length = s.length := by
  unfold nextC at h
  simp only at h
  split at h
  · cases h
  · rename_i i hi
    have hm := List.mem_of_find?_eq_some hi
    have hl : i < s.length := by simpa using hm
    cases h
    rw [List.length_append, List.length_take, List.length_map, List.length_range]
    omega
theorem rst_cons {n lo : Nat} {T : List (List Nat)} : ∀ {s : List Nat} {tl : List (List Nat)} {r : Nat}, Rst n 1 s tl → s.length = r → r + 1 ≤ n →
    (lo ≠ n - (r + 1) → ∃ T', T = List.range' (lo + 1) (r + 1) :: T' ∧ Rst n 1 (List.range' (lo + 1) (r + 1)) T') → (lo = n - (r + 1) → T = []) → Rst n 1 (lo :: s) (tl.map (lo :: ·) ++ T) := by
  intro s tl
  induction tl generalizing s with
  | nil =>
    intro r h hl hn h1 h2
    have hnone : nextC n s = none := by cases h with | nil q => exact q
    have e := next_cons n lo s (by omega)
    rw [hnone, hl] at e
    by_cases q : lo = n - (r + 1)
    · rw [h2 q]
      exact .nil (by rw [e]; exact if_neg fun z => z q)
    · obtain ⟨T', rfl, hT⟩ := h1 q
      exact .nxt (by rw [e]; exact if_pos q) hT
  | cons nx tl ih =>
    intro r h hl hn h1 h2
    cases h with
    | nxt q k =>
      have e := next_cons n lo s (by omega)
      rw [q] at e
      exact .nxt e (ih k ((next_len q).trans hl) hn h1 h2)
theorem cmb_long {α : Type} : ∀ (xs : List α) (r : Nat), xs.length < r → cmb r xs = []
  | [], 0, h => by cases h
  | [], _ + 1, _ => rfl
  | _ :: _, 0, h => by cases h
  | x :: xs, r + 1, h => by
    have h' : xs.length < r := Nat.lt_of_succ_lt_succ h
    show (cmb r xs).map (x :: ·) ++ cmb (r + 1) xs = []
    rw [cmb_long xs r h', cmb_long xs (r + 1) (Nat.lt_succ_of_lt h')]; rfl
theorem rst_cmb (n : Nat) : ∀ (m lo r : Nat), lo + m = n → r ≤ m → ∃ tl, cmb r (List.range' lo m) = List.range' lo r :: tl ∧ Rst n 1 (List.range' lo r) tl
  | m, lo, 0, _, _ => ⟨[], by cases m <;> rfl, .nil rfl⟩
  | 0, _, _ + 1, _, h => by cases h
  | m + 1, lo, r + 1, e, h => by
    obtain ⟨tl, e1, R1⟩ := rst_cmb n m (lo + 1) r (by omega) (by omega)
    have ec : cmb (r + 1) (List.range' lo (m + 1)) = (cmb r (List.range' (lo + 1) m)).map (lo :: ·) ++ cmb (r + 1) (List.range' (lo + 1) m) := rfl
    rw [ec, e1]
    refine ⟨tl.map (lo :: ·) ++ cmb (r + 1) (List.range' (lo + 1) m), rfl, ?_⟩
    refine rst_cons (r := r) R1 (by simp) (by omega) (fun q => ?_) fun q => cmb_long _ _ (by simp; omega)
    obtain ⟨T', e2, R2⟩ := rst_cmb n m (lo + 1) (r + 1) (by omega) (by omega)
    exact ⟨T', e2, R2⟩
theorem rst_all (n r : Nat) (h : r ≤ n) : Rst n 0 (List.range r) (cmb r (List.range n)) := by
  obtain ⟨tl, e, R⟩ := rst_cmb n n 0 r (by omega) h
  rw [List.range_eq_range', List.range_eq_range', e]
  exact .fst R
theorem cmb_map {α β : Type} (f : α → β) : ∀ (r : Nat) (xs : List α), cmb r (xs.map f) = (cmb r xs).map (·.map f)
  | 0, xs => by cases xs <;> rfl
  | _ + 1, [] => rfl
  | r + 1, x :: xs => by
    show (cmb r (xs.map f)).map (f x :: ·) ++ cmb (r + 1) (xs.map f) = ((cmb r xs).map (x :: ·) ++ cmb (r + 1) xs).map (·.map f)
    rw [cmb_map f r xs, cmb_map f (r + 1) xs, List.map_append, List.map_map, List.map_map]; rfl
theorem mem_cmb {α : Type} {l : List α} : ∀ {r : Nat} {xs : List α}, l ∈ cmb r xs ↔ l.Sublist xs ∧ l.length = r
  | 0, xs => by
    have e : cmb 0 xs = [[]] := by cases xs <;> rfl
    rw [e, List.mem_singleton]
    exact ⟨fun h => by rw [h]; exact ⟨List.nil_sublist _, rfl⟩, fun h => List.length_eq_zero_iff.mp h.2⟩
  | _ + 1, [] => ⟨fun h => (nomatch h), fun h => by
    have := List.sublist_nil.mp h.1
    rw [this] at h; exact nomatch h.2⟩
  | r + 1, x :: xs => by
    show l ∈ (cmb r xs).map (x :: ·) ++ cmb (r + 1) xs ↔ _
    rw [List.mem_append, List.mem_map]
    constructor
    · rintro (⟨k, hk, rfl⟩ | h)
      · obtain ⟨a, b⟩ := mem_cmb.mp hk
        exact ⟨a.cons_cons x, by simp [b]⟩
      · obtain ⟨a, b⟩ := mem_cmb.mp h
        exact ⟨a.cons x, b⟩
    · rintro ⟨a, b⟩
      cases a with
      | cons _ a => exact .inr (mem_cmb.mpr ⟨a, b⟩)
      | cons_cons _ a => exact .inl ⟨_, mem_cmb.mpr ⟨a, Nat.succ.inj b⟩, rfl⟩
/-- the order of rows of the same length -/
inductive LexR {α : Type} (lt : α → α → Prop) : List α → List α → Prop
  | head {a b : α} {x y : List α} : lt a b → LexR lt (a :: x) (b :: y)
  | tail {a : α} {x y : List α} : LexR lt x y → LexR lt (a :: x) (a :: y)
theorem cmb_asc {α : Type} {lt : α → α → Prop} : ∀ (r : Nat) (xs : List α), xs.Pairwise lt → (cmb r xs).Pairwise (LexR lt)
  | 0, xs, _ => by
    have e : cmb 0 xs = [[]] := by cases xs <;> rfl
    rw [e]; exact List.pairwise_singleton _ _
  | _ + 1, [], _ => .nil
  | r + 1, x :: xs, h => by
    obtain ⟨h1, h2⟩ := List.pairwise_cons.mp h
    refine List.pairwise_append.mpr ⟨List.pairwise_map.mpr ((cmb_asc r xs h2).imp fun q => .tail q), cmb_asc (r + 1) xs h2, fun a ha b hb => ?_⟩
    obtain ⟨k, _, rfl⟩ := List.mem_map.mp ha
    obtain ⟨sb, lb⟩ := mem_cmb.mp hb
    cases b with
    | nil => cases lb
    | cons y b => exact .head (h1 y (sb.subset List.mem_cons_self))
end Cmb
set_option linter.all false
set_option maxHeartbeats 2000000
/-! itertools.combinations, at the library's level -/
namespace Cmb
open PySem PySem.Spec PySem.Calls
open Sem (wp)
abbrev tyCb : String := "itertools.combinations"
theorem mro_cb : mroOf (.type "itertools.combinations") = pure [.type "itertools.combinations", .type "object"] := by rw [mroOf_type]; kernel_rfl
theorem lookup_cb_new : typeLookup (.type "itertools.combinations") "__new__" = pure (some (.builtin "itertools.combinations.__new__")) := by rw [typeLookup_type, builtinLookup_eq_fast]; kernel_rfl
theorem slot_cb_init : Slot "itertools.combinations" "__init__" "object.__init__" :=
  .of (owner := "object") (n := "__init__") (by rw [typeLookup_type, builtinLookup_eq_fast]; kernel_rfl) (by decide +kernel) (by decide +kernel) (by decide +kernel)
    (by first | exact .inl (by decide +kernel) | exact .inr (by decide +kernel)) (by rw [isSubtype_type]; kernel_rfl)
theorem sub_cb : isSubtype (.type "itertools.combinations") (.type "itertools.combinations") = pure true := by rw [isSubtype_type]; kernel_rfl
theorem called_cb : TypeCalled "itertools.combinations" "itertools.combinations.__new__" "object.__init__" :=
  ⟨by decide +kernel, by decide +kernel, ⟨_, _, mro_cb⟩, madeBy_type mro_cb lookup_cb_new (by decide +kernel), by decide +kernel, sub_cb, slot_cb_init⟩
theorem typeCall_cb_2 (a b : Value) : checkTypeCall "itertools.combinations" ⟨[a, b], []⟩ = pure () := by kernel_rfl
theorem newCall_cb_2 (a b : Value) : checkBuiltinCall "itertools.combinations.__new__" ⟨[.type "itertools.combinations", a, b], []⟩ = pure () := by kernel_rfl
theorem entry_cb_new : entryFor table "itertools.combinations.__new__" = some Builtin.«itertools.combinations.__new__» := entryFor_of_tree (by kernel_rfl)
theorem slot_cb_iter : Slot "itertools.combinations" "__iter__" "itertools.combinations.__iter__" :=
  .of (owner := "itertools.combinations") (n := "__iter__") (by rw [typeLookup_type, builtinLookup_eq_fast]; kernel_rfl) (by decide +kernel) (by decide +kernel) (by decide +kernel)
    (by first | exact .inl (by decide +kernel) | exact .inr (by decide +kernel)) sub_cb
theorem slot_cb_next : Slot "itertools.combinations" "__next__" "itertools.combinations.__next__" :=
  .of (owner := "itertools.combinations") (n := "__next__") (by rw [typeLookup_type, builtinLookup_eq_fast]; kernel_rfl) (by decide +kernel) (by decide +kernel) (by decide +kernel)
    (by first | exact .inl (by decide +kernel) | exact .inr (by decide +kernel)) sub_cb
theorem entry_cb_iter : entryFor table "itertools.combinations.__iter__" = some Builtin.«dict_keyiterator.__iter__» :=
  entryFor_alias (id' := "dict_keyiterator.__iter__") (by kernel_rfl) (by first | rfl | decide +kernel | (unfold String.splitOn; simp +decide [String.splitOnAux])) (by decide +kernel) (by kernel_rfl)
theorem entry_cb_next : entryFor table "itertools.combinations.__next__" = some Builtin.«itertools.combinations.__next__» := entryFor_of_tree (by kernel_rfl)
theorem owner_cb : Manifest.owners.lookup (String.ofList ['s', 'n', 'o', 'i', 't', 'a', 'n', 'i', 'b', 'm', 'o', 'c', '.', 's', 'l', 'o', 'o', 't', 'r', 'e', 't', 'i'].reverse) = some Manifest.sig_itertools_combinations := by kernel_rfl
theorem args_cb_iter (a : Value) : argsOk "itertools.combinations.__iter__" ⟨[a], []⟩ := by
  unfold argsOk; rw [signature?_of (id := "itertools.combinations.__iter__") (n := ['_', '_', 'r', 'e', 't', 'i', '_', '_']) (o := ['s', 'n', 'o', 'i', 't', 'a', 'n', 'i', 'b', 'm', 'o', 'c', '.', 's', 'l', 'o', 'o', 't', 'r', 'e', 't', 'i']) (by kernel_rfl) owner_cb]; kernel_rfl
theorem args_cb_next (a : Value) : argsOk "itertools.combinations.__next__" ⟨[a], []⟩ := by
  unfold argsOk; rw [signature?_of (id := "itertools.combinations.__next__") (n := ['_', '_', 't', 'x', 'e', 'n', '_', '_']) (o := ['s', 'n', 'o', 'i', 't', 'a', 'n', 'i', 'b', 'm', 'o', 'c', '.', 's', 'l', 'o', 'o', 't', 'r', 'e', 't', 'i']) (by kernel_rfl) owner_cb]; kernel_rfl
theorem noDict_cb : typeHasDict (.type "itertools.combinations") = false := by decide +kernel
theorem no_len_cb : typeLookup (.type "itertools.combinations") "__len__" = pure none := by rw [typeLookup_type, builtinLookup_eq_fast]; kernel_rfl
theorem no_hint_cb : typeLookup (.type "itertools.combinations") "__length_hint__" = pure none := by rw [typeLookup_type, builtinLookup_eq_fast]; kernel_rfl
end Cmb
set_option linter.all false
set_option maxHeartbeats 2000000
namespace Cmb
open PySem PySem.Spec PySem.Calls PyProof.Rows
open Sem (wp)
/-- an iterator of parts: its items, where it stands, what was handed out last, its places -/
abbrev IsCb (h : Heap) (it pool : Addr) (st : Int) (res : Value) (idx : List Nat) : Prop := h.get? it = some { cls := .type "itertools.combinations", dict := none, data := .fields ([.ref pool, rawInt st, res] ++ idx.map fun (n : Nat) => rawInt n).toArray, slots := #[] }
theorem meets_cb_new (l : Addr) (r : Int) (t : Tok) (h0 : 0 ≤ r) (h1 : r < 1000) :
    Meets (Builtin.«itertools.combinations.__new__» ⟨[.type "itertools.combinations", .ref l, .int r t], []⟩)
      (fun _ R s => ∃ vs : List Value, s.heap.IsList l vs.toArray ∧ vs.length ≤ 1000 ∧ ∀ h', (∀ b o, s.heap.get? b = some o → h'.get? b = some o) → h'.get? (s.heap.objs.size + 1) = some { cls := .type "tuple", data := .seq vs.toArray } →
        IsCb h' (s.heap.objs.size + 2) (s.heap.objs.size + 1) (if r.toNat > vs.length then 2 else 0) .none (List.range r.toNat) → R (.ok (.ret (.ref (s.heap.objs.size + 2)))) { s with heap := h' }) :=
  .of_wp fun prog w A R s h => by
    obtain ⟨hp, g, dd, tk, os⟩ := s
    obtain ⟨vs, hl, hv, k⟩ := h
    have hsub : isSubtype (.type "itertools.combinations") (.type ("itertools." ++ "combinations")) = pure true := by rw [show "itertools." ++ "combinations" = "itertools.combinations" from by decide]; exact sub_cb
    have hd := noDict_cb
    have c1 : (decide (r < -(2 ^ 63 : Int)) || decide (r ≥ (2 ^ 63 : Int))) = false := by
      rw [decide_eq_false (by omega), decide_eq_false (by omega)]; rfl
    repeat (first
      | wp_step
      | simp only [List.head?_cons, Option.some_or, List.getElem?_cons_succ, List.getElem?_cons_zero, List.length_cons, List.length_nil, List.forIn_nil])
    have c1' : ¬ ((decide (r < -2 ^ 63) || decide (r ≥ 2 ^ 63)) = true) := by
      rw [show (decide (r < -2 ^ 63) || decide (r ≥ 2 ^ 63)) = false from c1]; exact Bool.false_ne_true
    rw [if_neg c1']
    refine wpAny_pure ?_
    refine wpAny_bind (collect_list hl ?_ (by rw [sizeLine_eq]; omega))
    rw [if_neg (by omega)]
    have c2 : ¬ (Builtin.Itertools.itTooMany r = true) := by
      unfold Builtin.Itertools.itTooMany
      rw [decide_eq_true_eq]; omega
    rw [if_neg c2]
    refine wpAny_bind (wpAny_newTuple ?_ (by rw [sizeLine_eq]; omega))
    refine wpAny_pure ?_
    refine wpAny_bind ?_
    unfold Builtin.Itertools.itNewRecord
    rw [if_pos (by rw [hd]; rfl)]
    have hz : ((hp.push (seqObj "list" #[] 0)).update hp.objs.size (Obj.mapSeq fun x => x ++ vs.toArray)).objs.size = hp.objs.size + 1 := by rw [Heap.size_update, Heap.size_push]
    have hk : ∀ b o, hp.get? b = some o → ((hp.push (seqObj "list" #[] 0)).update hp.objs.size (Obj.mapSeq fun x => x ++ vs.toArray)).get? b = some o := fun b o e =>
      (Heap.get?_update_other _ _ (Ne.symm (Nat.ne_of_lt (Heap.lt_size e)))).trans (Heap.get?_push_of_some _ e)
    dsimp only
    generalize (hp.push (seqObj "list" #[] 0)).update hp.objs.size (Obj.mapSeq fun x => x ++ vs.toArray) = H1 at hz hk ⊢
    refine wpAny_newObj_type ?_ ?_
    · dsimp only
      rw [Heap.size_push, hz]
      refine wpAny_pure ⟨_, rfl, k _ (fun b o e => Heap.get?_push_of_some _ (Heap.get?_push_of_some _ (hk b o e))) ?_ ?_⟩
      · refine Heap.get?_push_of_some _ ?_
        show Heap.get? _ (hp.objs.size + 1) = _
        rw [← hz]
        exact Heap.get?_push_size _ rfl
      · show Heap.get? _ (hp.objs.size + 2) = _
        rw [show hp.objs.size + 2 = (H1.push { cls := .type "tuple", data := .seq vs.toArray }).objs.size from by rw [Heap.size_push, hz]]
        exact Heap.get?_push_size _ rfl
    · show Array.size _ ≤ _
      simp
      rw [sizeLine_eq]; omega
end Cmb
set_option linter.all false
set_option maxHeartbeats 2000000
namespace Cmb
open PySem PySem.Spec PySem.Calls PyProof.Rows
open Sem (wp)
section
variable {prog : Program} {w : World} {A : Around} {E : Value → Shared → Prop} {s : Shared}
theorem call_cb {l : Addr} {vs : List Value} {r : Int} {t : Tok} {Q : Value → Shared → Prop} (hl : s.heap.IsList l vs.toArray) (hv : vs.length ≤ 1000) (h0 : 0 ≤ r) (h1 : r < 1000)
    (h : ∀ h', (∀ b o, s.heap.get? b = some o → h'.get? b = some o) → h'.get? (s.heap.objs.size + 1) = some { cls := .type "tuple", data := .seq vs.toArray } →
        IsCb h' (s.heap.objs.size + 2) (s.heap.objs.size + 1) (if r.toNat > vs.length then 2 else 0) .none (List.range r.toNat) → Q (.ref (s.heap.objs.size + 2)) { s with heap := h' }) :
    wpAny (model prog w) A (call (.type "itertools.combinations") [.ref l, .int r t]) Q E s := by
  refine callType_new called_cb (by decide +kernel) (typeCall_cb_2 _ _) (newCall_cb_2 _ _) (fun obj => PySem.F.args_object_init_3 obj _ _) entry_cb_new (meets_cb_new l r t h0 h1) ⟨vs, hl, hv, fun h' k1 k2 k3 => ?_⟩
  exact ⟨⟨_, k3, rfl⟩, h h' k1 k2 k3⟩
theorem iter_cb {it pool : Addr} {st : Int} {res : Value} {idx : List Nat} {Q : Value → Shared → Prop} (hit : IsCb s.heap it pool st res idx) (h : Q (.ref it) s) : wpAny (model prog w) A (pyIter (.ref it)) Q E s := by
  have hT : s.TypeIs (.ref it) "itertools.combinations" := ⟨_, hit, rfl⟩
  refine wpAny_pyIter_slot hT slot_cb_iter (wpAny_call_entry slot_cb_iter hT entry_cb_iter ?_ (args_cb_iter _))
  show wpAny _ _ (ret (.ref it)) _ _ s
  exact wpAny_pure ⟨_, rfl, "itertools.combinations", _, hT, slot_cb_next.lookup, h⟩
theorem next_cb_item {it pool : Addr} {n : Nat} {st : Int} {res : Value} {idx nx : List Nat} {rest : List (List Nat)} {vs : List Value} {Q : Option Value → Shared → Prop} (hit : IsCb s.heap it pool st res idx)
    (hp : s.heap.get? pool = some { cls := .type "tuple", data := .seq vs.toArray }) (hn : vs.length = n) (hl : nx.length ≤ 1000) (hR : Rst n st idx (nx :: rest))
    (hQ : ∀ h', IsCb h' it pool 1 (.ref s.heap.objs.size) nx → h'.get? s.heap.objs.size = some { cls := .type "tuple", data := .seq (nx.map fun i => vs.toArray.getD i .none).toArray } → h'.objs.size = s.heap.objs.size + 1 →
      (∀ b o, b ≠ it → s.heap.get? b = some o → h'.get? b = some o) → Q (some (.ref s.heap.objs.size)) { s with heap := h' }) : wpAny (model prog w) A (pyNext (.ref it)) Q E s := by
  have hT : s.TypeIs (.ref it) "itertools.combinations" := ⟨_, hit, rfl⟩
  unfold pyNext
  refine wpAny_bind (wpAny_attempt (wpAny_callSpecial?_slot (name := Str.ofString "__next__") hT slot_cb_next (wpAny_call_entry slot_cb_next hT entry_cb_next ?_ (args_cb_next _))))
  refine wpAny_bind (wpAny_pure ?_)
  refine wpAny_bind (wpAny_field hit rfl (x := .ref pool) rfl ?_)
  refine wpAny_bind ?_
  show wpAny _ _ (load it >>= _) _ _ s
  refine wpAny_bind (wpAny_load hit ?_)
  refine wpAny_pure ?_
  refine wpAny_bind (wpAny_bind (wpAny_field hit rfl (x := rawInt st) rfl (wpAny_pure ?_)))
  have en : (List.drop 3 ([Value.ref pool, rawInt st, res] ++ List.map (fun (n : Nat) => rawInt n) idx).toArray.toList) = List.map (fun (n : Nat) => rawInt n) idx := rfl
  rw [en, List.map_map]
  generalize hx : List.map (_ ∘ fun (n : Nat) => rawInt (n : Int)) idx = ix
  have ex : ix = idx := by
    rw [← hx]
    exact (List.map_congr_left fun n _ => (show _ = id n from rfl)).trans (List.map_id _)
  subst ex
  clear hx en
  -- what is handed out, behind the change of the places
  have out : ∀ (h1 : Heap) (f : Value), IsCb h1 it pool 1 f nx → h1.get? pool = some { cls := .type "tuple", data := .seq vs.toArray } → h1.objs.size = s.heap.objs.size → (∀ b o, b ≠ it → s.heap.get? b = some o → h1.get? b = some o) →
      ∀ (h2 : Heap), IsCb h2 it pool 1 (.ref s.heap.objs.size) nx → h2.objs.size = s.heap.objs.size + 1 → (∀ b o, b ≠ it → (h1.push { cls := .type "tuple", data := .seq (nx.map fun i => vs.toArray.getD i .none).toArray }).get? b = some o → h2.get? b = some o) →
      Q (some (.ref s.heap.objs.size)) { s with heap := h2 } := fun h1 f a1 a2 a3 a4 h2 b1 b2 b3 => by
    refine hQ h2 b1 (b3 _ _ ?_ ?_) b2 fun b o nb e => b3 b o nb (Heap.get?_push_of_some _ (a4 b o nb e))
    · exact fun e => absurd (Heap.lt_size hit) (by rw [← e]; exact Nat.lt_irrefl _)
    · rw [← a3]; exact Heap.get?_push_size _ rfl
  have npi : pool ≠ it := fun e => by
    rw [e] at hp
    have q := congrArg Obj.cls (Option.some.inj (hit.symm.trans hp))
    exact absurd (Value.type.inj q) (by decide)
  have hil : it < s.heap.objs.size := Heap.lt_size hit
  cases hR with
  | fst k =>
    show wpAny _ _ (setField (.ref it) 1 (rawInt 1) >>= _) _ _ s
    refine wpAny_bind (wpAny_setField_rec hit (by simp) fun h1 hit1 sb1 => ?_)
    replace hit1 : IsCb h1 it pool 1 res nx := hit1
    have hp1 : h1.get? pool = _ := (sb1.2 pool npi).trans hp
    refine wpAny_bind (wpAny_bind (wpAny_bind (wpAny_seqItems hp1 rfl (wpAny_pure ?_))))
    refine wpAny_newTuple ?_ ?_
    rotate_left
    · rw [List.length_map, sizeLine_eq]; omega
    have hit2 : IsCb (h1.push { cls := .type "tuple", data := .seq (nx.map fun i => vs.toArray.getD i .none).toArray }) it pool 1 res nx := Heap.get?_push_of_some _ hit1
    refine wpAny_bind (wpAny_field hit2 rfl (x := res) rfl ?_)
    refine wpAny_bind (wpAny_setField_rec hit2 (by simp) fun h2 hit3 sb2 => ?_)
    refine wpAny_bind (wpAny_letGo ?_)
    refine wpAny_pure ⟨_, rfl, wpAny_pure ?_⟩
    have z1 : h1.objs.size = s.heap.objs.size := sb1.1
    show Q (some (.ref h1.objs.size)) { s with heap := h2 }
    rw [z1]
    replace hit3 : IsCb h2 it pool 1 (.ref h1.objs.size) nx := hit3
    rw [z1] at hit3
    refine out h1 res hit1 hp1 z1 (fun b o nb e => (sb1.2 b nb).trans e) h2 hit3 ?_ fun b o nb e => (sb2.2 b nb).trans e
    rw [sb2.1]
    show (Heap.push _ _).objs.size = _
    rw [Heap.size_push, z1]
  | nxt q k =>
    show wpAny _ _ (Builtin.Itertools.itPoolItems (.ref pool) >>= _) _ _ s
    refine wpAny_bind (wpAny_bind (wpAny_seqItems hp rfl (wpAny_pure ?_)))
    have hsz : vs.toArray.size = n := by rw [List.size_toArray]; exact hn
    rw [hsz]
    split
    case h_2 h => exact absurd (q.symm.trans (show nextC n _ = none from h)) (by simp)
    rename_i nx' h
    obtain rfl : nx = nx' := Option.some.inj (q.symm.trans (show nextC n _ = some nx' from h))
    refine wpAny_bind ?_
    show wpAny _ _ (updateFields it _) _ _ s
    refine wpAny_updateFields hit rfl ?_ ?_
    · have hit1 : IsCb (s.heap.update it (Obj.mapFields fun fs => fs.extract 0 3 ++ (nx.map fun (n : Nat) => rawInt n).toArray)) it pool 1 res nx := by
        refine (Heap.get?_update_self _ hit rfl).trans ?_
        show some _ = some _
        congr 1
        unfold Obj.mapFields
        dsimp only
        congr 2
        apply Array.ext'
        simp
      have sb1 := Heap.SameBut.update (h := s.heap) (a := it) (f := Obj.mapFields fun fs => fs.extract 0 3 ++ (nx.map fun (n : Nat) => rawInt n).toArray)
      dsimp only
      generalize s.heap.update it (Obj.mapFields fun fs => fs.extract 0 3 ++ (nx.map fun (n : Nat) => rawInt n).toArray) = h1 at hit1 sb1 ⊢
      have hp1 : h1.get? pool = _ := (sb1.2 pool npi).trans hp
      refine wpAny_bind (wpAny_bind (wpAny_bind (wpAny_seqItems hp1 rfl (wpAny_pure ?_))))
      refine wpAny_newTuple ?_ ?_
      rotate_left
      · rw [List.length_map, sizeLine_eq]; omega
      have hit2 : IsCb (h1.push { cls := .type "tuple", data := .seq (nx.map fun i => vs.toArray.getD i .none).toArray }) it pool 1 res nx := Heap.get?_push_of_some _ hit1
      refine wpAny_bind (wpAny_field hit2 rfl (x := res) rfl ?_)
      refine wpAny_bind (wpAny_setField_rec hit2 (by simp) fun h2 hit3 sb2 => ?_)
      refine wpAny_bind (wpAny_letGo ?_)
      refine wpAny_pure ⟨_, rfl, wpAny_pure ?_⟩
      have z1 : h1.objs.size = s.heap.objs.size := sb1.1
      show Q (some (.ref h1.objs.size)) { s with heap := h2 }
      rw [z1]
      replace hit3 : IsCb h2 it pool 1 (.ref h1.objs.size) nx := hit3
      rw [z1] at hit3
      refine out h1 res hit1 hp1 z1 (fun b o nb e => (sb1.2 b nb).trans e) h2 hit3 ?_ fun b o nb e => (sb2.2 b nb).trans e
      rw [sb2.1]
      show (Heap.push _ _).objs.size = _
      rw [Heap.size_push, z1]
    · simp
      rw [sizeLine_eq]; omega
theorem next_cb_end {it pool : Addr} {n : Nat} {st : Int} {res : Value} {idx : List Nat} {vs : List Value} {Q : Option Value → Shared → Prop} (hh : A.handled = none) (hit : IsCb s.heap it pool st res idx)
    (hp : s.heap.get? pool = some { cls := .type "tuple", data := .seq vs.toArray }) (hn : vs.length = n) (hR : Rst n st idx [])
    (hQ : ∀ h', Heap.ExtBut it s.heap h' → Q none { s with heap := h' }) : wpAny (model prog w) A (pyNext (.ref it)) Q E s := by
  have hT : s.TypeIs (.ref it) "itertools.combinations" := ⟨_, hit, rfl⟩
  unfold pyNext
  refine wpAny_bind (wpAny_attempt (wpAny_callSpecial?_slot (name := Str.ofString "__next__") hT slot_cb_next (wpAny_call_entry slot_cb_next hT entry_cb_next ?_ (args_cb_next _))))
  refine wpAny_bind (wpAny_pure ?_)
  refine wpAny_bind (wpAny_field hit rfl (x := .ref pool) rfl ?_)
  refine wpAny_bind ?_
  show wpAny _ _ (load it >>= _) _ _ s
  refine wpAny_bind (wpAny_load hit ?_)
  refine wpAny_pure ?_
  refine wpAny_bind (wpAny_bind (wpAny_field hit rfl (x := rawInt st) rfl (wpAny_pure ?_)))
  have en : (List.drop 3 ([Value.ref pool, rawInt st, res] ++ List.map (fun (n : Nat) => rawInt n) idx).toArray.toList) = List.map (fun (n : Nat) => rawInt n) idx := rfl
  rw [en, List.map_map]
  generalize hx : List.map (_ ∘ fun (n : Nat) => rawInt (n : Int)) idx = ix
  have ex : ix = idx := by
    rw [← hx]
    exact (List.map_congr_left fun n _ => (show _ = id n from rfl)).trans (List.map_id _)
  subst ex
  clear hx en
  cases hR with
  | nil q =>
    show wpAny _ _ (Builtin.Itertools.itPoolItems (.ref pool) >>= _) _ _ s
    refine wpAny_bind (wpAny_bind (wpAny_seqItems hp rfl (wpAny_pure ?_)))
    have hsz : vs.toArray.size = n := by rw [List.size_toArray]; exact hn
    rw [hsz]
    split
    case h_1 nx' h => exact absurd (q.symm.trans (show nextC n _ = some nx' from h)) (by simp)
    refine wpAny_bind (wpAny_setField_rec hit (by simp) fun h1 hit1 sb1 => ?_)
    show wpAny _ _ (newExc (.type "StopIteration") [] >>= _) _ _ _
    refine wpAny_bind ?_
    simp only [newExc, newTuple]
    refine wpAny_bind (wpAny_newObj_type ?_ (by size_fits))
    refine wpAny_bind (m := firstArgMember _ _) (wpAny_of_eq (a := Value.none) (by first | rfl | (simp only [firstArgMember]; rfl)) ?_)
    refine wpAny_newObj_type ?_ (by size_fits)
    simp only [raiseNew]
    refine wpAny_bind (wpAny_handled ?_)
    first | rw [show A.in1.handled = none from hh] | rw [hh]
    refine wpAny_bind (wpAny_pure (wpAny_throw ?_))
    refine wpAny_bind (wpAny_isInstance (T := "StopIteration") (b := true) ⟨_, Heap.get?_push_size _ rfl, rfl⟩ isSubtype_stop ?_)
    exact wpAny_pure (hQ _ ((sb1.extBut.push _).push _))
  | fin =>
    show wpAny _ _ (rule "itertools.combinations.ended" >>= fun _ => Builtin.Itertools.itStop) _ _ s
    refine wpAny_bind (wpAny_rule ?_)
    show wpAny _ _ (newExc (.type "StopIteration") [] >>= _) _ _ _
    refine wpAny_bind ?_
    simp only [newExc, newTuple]
    refine wpAny_bind (wpAny_newObj_type ?_ (by size_fits))
    refine wpAny_bind (m := firstArgMember _ _) (wpAny_of_eq (a := Value.none) (by first | rfl | (simp only [firstArgMember]; rfl)) ?_)
    refine wpAny_newObj_type ?_ (by size_fits)
    simp only [raiseNew]
    refine wpAny_bind (wpAny_handled ?_)
    first | rw [show A.in1.handled = none from hh] | rw [hh]
    refine wpAny_bind (wpAny_pure (wpAny_throw ?_))
    refine wpAny_bind (wpAny_isInstance (T := "StopIteration") (b := true) ⟨_, Heap.get?_push_size _ rfl, rfl⟩ isSubtype_stop ?_)
    exact wpAny_pure (hQ _ (((Heap.ExtBut.refl it s.heap).push _).push _))
end
/-- the tuples that were handed out -/
structure CbG (vs : List Value) (lo : Addr) (h : Heap) (ls : List (List Nat)) (as : List Addr) : Prop where
  len : as.length = ls.length
  rise : as.Pairwise (· < ·)
  above : ∀ a ∈ as, lo < a
  tups : ∀ (j : Nat) (a : Addr), as[j]? = some a → ∃ l, ls[j]? = some l ∧ h.get? a = some { cls := .type "tuple", data := .seq (l.map fun i => vs.toArray.getD i .none).toArray }
theorem CbG.there {vs : List Value} {lo : Addr} {h : Heap} {ls : List (List Nat)} {as : List Addr} (g : CbG vs lo h ls as) {a : Addr} (ha : a ∈ as) : a < h.objs.size := by
  obtain ⟨j, hj⟩ := List.mem_iff_getElem?.mp ha
  obtain ⟨_, _, e⟩ := g.tups j a hj
  exact Heap.lt_size e
section
variable {prog : Program} {w : World} {A : Around} {s : Shared} {R : Result → Shared → Prop} {vs : List Value} {n : Nat}
theorem cb_loop {S I pool lo : Addr} (hh : A.handled = none) (hne : S ≠ I) (hSlo : S ≤ lo) (hIlo : I ≤ lo) (hSp : pool ≠ S) (hpi : pool ≠ I) (hn : vs.length = n) (res : Value) {h₁ : Heap} :
    ∀ (todo done : List (List Nat)) (h : Heap) (tk c : Nat) (acc : Array Value) (as : List Addr) (st : Int) (f : Value) (idx : List Nat), (done ++ todo).length ≤ sizeLine → (∀ l ∈ todo, l.length ≤ 1000) → IsCb h I pool st f idx → Rst n st idx todo → h.get? pool = some { cls := .type "tuple", data := .seq vs.toArray } →
      (∀ b o, b ≠ S → b ≠ I → h₁.get? b = some o → h.get? b = some o) →
      h.get? S = some { cls := .type "list", dict := none, data := .seq acc c, slots := #[] } → acc.toList = as.map Value.ref → CbG vs lo h done as → lo < h.objs.size →
      (∀ h' tk acc c as, (∀ b o, b ≠ S → b ≠ I → h₁.get? b = some o → h'.get? b = some o) → h'.get? S = some { cls := .type "list", dict := none, data := .seq acc c, slots := #[] } → CbG vs lo h' (done ++ todo) as →
        acc.toList = as.map Value.ref → R (.ok (.ret res)) { s with heap := h', toks := tk }) →
      codeAny (model prog w) A (.builtin "list.extend.loop" ⟨[.ref S, .ref I, res], []⟩) R { s with heap := h, toks := tk } := by
  intro todo
  induction todo with
  | nil =>
    intro done h tk c acc as st f idx hz hl hst hRs hD hkeep hS hacc hG hIs hR
    refine codeAny_builtin PySem.F.entry_extend_loop ?_
    rw [Around.under_plainId PySem.F.plain_extend_loop _]
    show wpAny _ A.in1 (pyNext (.ref I) >>= _) _ _ _
    refine wpAny_bind (next_cb_end (s := { s with heap := h, toks := tk }) (A := A.in1) hh hst hD hn hRs fun h' he => ?_)
    refine wpAny_pure (hR h' tk acc c as (fun b o h1 h2 e => he b o h2 (hkeep b o h1 h2 e)) (he S _ hne hS) ?_ hacc)
    rw [List.append_nil]
    refine ⟨hG.len, hG.rise, hG.above, fun j a hj => ?_⟩
    obtain ⟨l, e1, e3⟩ := hG.tups j a hj
    exact ⟨l, e1, he a _ (Nat.ne_of_gt (Nat.lt_of_le_of_lt hIlo (hG.above a (List.mem_of_getElem? hj)))) e3⟩
  | cons nx todo ih =>
    intro done h tk c acc as st f idx hz hl hst hRs hD hkeep hS hacc hG hIs hR
    have hsz : acc.size = done.length := by rw [← Array.length_toList, hacc, List.length_map, hG.len]
    have hz' : done.length + 1 ≤ sizeLine := by
      rw [List.length_append, List.length_cons] at hz; omega
    refine codeAny_builtin PySem.F.entry_extend_loop ?_
    rw [Around.under_plainId PySem.F.plain_extend_loop _]
    show wpAny _ A.in1 (pyNext (.ref I) >>= _) _ _ _
    refine wpAny_bind (next_cb_item (s := { s with heap := h, toks := tk }) hst hD hn (hl nx List.mem_cons_self) hRs fun h' hst' ht hz2 hkp => ?_)
    dsimp only at ht hz2 hkp hst' ⊢
    have hS' := hkp S _ hne hS
    have up : ∀ b o, b ≠ S → h'.get? b = some o → (h'.update S (Obj.mapSeq (·.push (Value.ref h.objs.size)))).get? b = some o := fun b o hb e => (Heap.get?_update_other _ _ (Ne.symm hb)).trans e
    have hSl : S < h.objs.size := Heap.lt_size hS
    show wpAny _ A.in1 (updateSeq S (·.push (Value.ref h.objs.size)) >>= _) _ _ _
    refine wpAny_bind ?_
    refine wpAny_updateSeq hS' rfl (wpAny_pure ⟨plainId_quiet PySem.F.plain_extend_loop _, ih (done ++ [nx]) _ tk _ (acc.push (Value.ref h.objs.size)) (as ++ [h.objs.size]) 1 (.ref h.objs.size) nx (by rw [List.append_assoc]; exact hz) (fun l hm => hl l (List.mem_cons_of_mem _ hm)) (up _ _ (Ne.symm hne) hst') ?_ (up _ _ hSp (hkp _ _ hpi hD))
      (fun b o h1 h2 e => up b o h1 (hkp b o h2 (hkeep b o h1 h2 e))) (Heap.get?_update_self _ hS' rfl) (by rw [Array.toList_push, hacc, List.map_append]; rfl) ⟨?_, ?_, ?_, ?_⟩ ?_ ?_⟩) (by rw [hsz]; omega) (by show (acc.push (Value.ref h.objs.size)).size ≤ sizeLine + 1; rw [Array.size_push, hsz]; omega)
    · cases hRs with
      | fst k => exact k
      | nxt q k => exact k
    · rw [List.length_append, List.length_append, hG.len]; rfl
    · refine List.pairwise_append.mpr ⟨hG.rise, List.pairwise_singleton _ _, fun a ha b hb => ?_⟩
      rw [List.mem_singleton.mp hb]
      exact hG.there ha
    · intro a ha
      rcases List.mem_append.mp ha with ha | ha
      · exact hG.above a ha
      · rw [List.mem_singleton.mp ha]; exact hIs
    · intro j b hj
      rcases Nat.lt_trichotomy j as.length with h1 | h1 | h1
      · rw [List.getElem?_append_left h1] at hj
        obtain ⟨l, e1, e3⟩ := hG.tups j b hj
        have hb := hG.above b (List.mem_of_getElem? hj)
        exact ⟨l, by rw [List.getElem?_append_left (by rw [← hG.len]; exact h1)]; exact e1, up b _ (Nat.ne_of_gt (Nat.lt_of_le_of_lt hSlo hb)) (hkp b _ (Nat.ne_of_gt (Nat.lt_of_le_of_lt hIlo hb)) e3)⟩
      · subst h1
        have hb : h.objs.size = b := by simpa using hj
        subst hb
        exact ⟨nx, by rw [hG.len]; simp, up _ _ (Nat.ne_of_gt hSl) ht⟩
      · have hnone : (as ++ [h.objs.size])[j]? = none := List.getElem?_eq_none (by rw [List.length_append, List.length_singleton]; omega)
        rw [hnone] at hj; cases hj
    · have e : (h'.update S (Obj.mapSeq (·.push (Value.ref h.objs.size)))).get? h.objs.size = _ := up _ _ (Nat.ne_of_gt hSl) ht
      exact Nat.lt_trans hIs (Heap.lt_size e)
    · intro h2 tk2 acc2 c2 as2 k1 k2 k3 k4
      rw [List.append_assoc] at k3
      exact hR h2 tk2 acc2 c2 as2 k1 k2 k3 k4
end
end Cmb
set_option linter.all false
set_option maxHeartbeats 2000000
namespace Cmb
open PySem PySem.Spec PySem.Calls PyProof.Rows
open Sem (wp)
section
variable {prog : Program} {w : World} {A : Around} {E : Value → Shared → Prop} {s : Shared} {vs : List Value} {n : Nat}
theorem cb_extend {R : Result → Shared → Prop} (hh : A.handled = none) {I pool : Addr} {st : Int} {f : Value} {idx : List Nat} {ls : List (List Nat)} (hit : IsCb s.heap I pool st f idx) (hD : s.heap.get? pool = some { cls := .type "tuple", data := .seq vs.toArray }) (hn : vs.length = n) (hRs : Rst n st idx ls)
    (hz : ls.length ≤ sizeLine) (hl : ∀ l ∈ ls, l.length ≤ 1000) (hpi : pool ≠ I) (S : Addr) (hIS : I < S) (hpS : pool ≠ S) (res : Value) (c₀ : Nat) (hS : s.heap.get? S = some { cls := .type "list", data := .seq #[] c₀ })
    (hR : ∀ h' tk acc c as, (∀ b o, b ≠ S → b ≠ I → s.heap.get? b = some o → h'.get? b = some o) → h'.get? S = some { cls := .type "list", dict := none, data := .seq acc c, slots := #[] } → CbG vs S h' ls as →
      acc.toList = as.map Value.ref → R (.ok (.ret res)) { s with heap := h', toks := tk }) :
    wpAny (model prog w) A.in1 (Builtin.List.listExtendWith (.ref S) (.ref I) res)
      (fun fin s' => match fin with | .done f => R (.ok f) s' | .again c' => c'.quiet = true ∧ codeAny (model prog w) A c' R s') (fun e s' => R (.error e) s') s := by
  have hne : S ≠ I := Nat.ne_of_gt hIS
  have hT : ∀ {h : Heap}, IsCb h I pool st f idx → ({ s with heap := h } : Shared).TypeIs (.ref I) "itertools.combinations" := fun q => ⟨_, q, rfl⟩
  unfold Builtin.List.listExtendWith
  refine wpAny_bind (wpAny_typeOf (hT hit) ?_)
  have h1 : Builtin.List.listSameRef (.ref S) (.ref I) = false := by simp [Builtin.List.listSameRef, hne]
  have h2 : (Value.type "itertools.combinations" == Value.type "list") = false := by decide
  have h3 : (Value.type "itertools.combinations" == Value.type "tuple") = false := by decide
  simp only [h1, h2, h3, Bool.or_false, Bool.false_eq_true, if_false]
  refine wpAny_bind (iter_cb hit ?_)
  refine wpAny_bind (wpAny_holding ?_)
  unfold Builtin.List.listLengthHint
  refine wpAny_bind (wpAny_specialOf (hT hit) no_len_cb ?_)
  show wpAny _ A.in1 (specialOf (Value.ref I) (Str.ofString "__length_hint__") >>= _) _ _ _
  refine wpAny_bind (wpAny_specialOf (hT hit) no_hint_cb ?_)
  refine wpAny_pure ?_
  show wpAny _ A.in1 (rule "list.extend.makes-room" >>= fun _ => Builtin.List.listTouch (.ref S) >>= fun _ =>
    again (.builtin "list.extend.loop" ⟨[.ref S, .ref I, res], []⟩)) _ _ _
  refine wpAny_bind (wpAny_rule ?_)
  refine wpAny_bind ?_
  show wpAny _ A.in1 (updateSeq S (·.push .none) >>= fun _ => updateSeq S (·.pop)) _ _ _
  refine wpAny_bind (wpAny_updateSeq hS rfl ?_)
  have hS₂ := Heap.get?_update_self (Obj.mapSeq (·.push Value.none)) hS rfl
  refine wpAny_updateSeq (hz := by seq_fits) hS₂ rfl ?_
  have hS₃ := Heap.get?_update_self (Obj.mapSeq (·.pop)) hS₂ rfl
  have oth : ∀ b o, b ≠ S → s.heap.get? b = some o → ((s.heap.update S (Obj.mapSeq (·.push Value.none))).update S (Obj.mapSeq (·.pop))).get? b = some o :=
    fun b o hb e => (Heap.get?_update_other _ _ (Ne.symm hb)).trans ((Heap.get?_update_other _ _ (Ne.symm hb)).trans e)
  refine wpAny_pure ⟨plainId_quiet PySem.F.plain_extend_loop _, ?_⟩
  exact cb_loop (s := s) (h₁ := s.heap) (lo := S) hh hne (Nat.le_refl _) (Nat.le_of_lt hIS) hpS hpi hn res ls [] _ _ _ #[] [] st f idx (by rw [List.nil_append]; exact hz) hl (oth _ _ (Ne.symm hne) hit) hRs (oth _ _ hpS hD)
    (fun b o h1 _ e => oth b o h1 e) hS₃ rfl ⟨rfl, List.Pairwise.nil, (fun _ ha => nomatch ha), fun j a hj => by simp at hj⟩ (Heap.lt_size hS₃) fun h' tk acc c as k1 k2 k3 k4 => hR h' tk acc c as k1 k2 k3 k4
theorem cb_call {Q : Value → Shared → Prop} (hh : A.handled = none) {I pool : Addr} {st : Int} {f : Value} {idx : List Nat} {ls : List (List Nat)} (hit : IsCb s.heap I pool st f idx) (hD : s.heap.get? pool = some { cls := .type "tuple", data := .seq vs.toArray }) (hn : vs.length = n) (hRs : Rst n st idx ls)
    (hz : ls.length ≤ sizeLine) (hl : ∀ l ∈ ls, l.length ≤ 1000) (hpi : pool ≠ I)
    (hQ : ∀ h' tk acc c as, (∀ b o, b ≠ I → s.heap.get? b = some o → h'.get? b = some o) → h'.get? s.heap.objs.size = some { cls := .type "list", dict := none, data := .seq acc c, slots := #[] } → CbG vs s.heap.objs.size h' ls as →
      acc.toList = as.map Value.ref → Q (.ref s.heap.objs.size) { s with heap := h', toks := tk }) :
    wpAny (model prog w) A (call (.type "list") [.ref I]) Q E s := by
  refine callType_codes (Q₁ := fun obj s₁ => obj = .ref s.heap.objs.size ∧ s₁ = { s with heap := s.heap.push { cls := .type "list", data := .seq #[] } }) PySem.F.called_list (PySem.F.typeCall_list_1 _) PySem.F.entry_list_init
    (code_list_new _ ⟨rfl, rfl⟩) fun obj s₁ h₁ => ?_
  obtain ⟨rfl, rfl⟩ := h₁
  have hS : (s.heap.push { cls := .type "list", data := .seq #[] }).get? s.heap.objs.size = some { cls := .type "list", data := .seq #[] } := Heap.get?_push_size _ rfl
  refine ⟨⟨_, hS, rfl⟩, PySem.F.args_list_init_2 _ _, ?_⟩
  show wpAny _ _ (do let old ← Builtin.List.listItems (.ref s.heap.objs.size); Builtin.List.listUpdate (.ref s.heap.objs.size) (fun _ => #[]); letGo old.toList.reverse; Builtin.List.listExtendWith (.ref s.heap.objs.size) (.ref I) .none) _ _ _
  refine wpAny_bind ?_
  unfold Builtin.List.listItems
  refine wpAny_bind (wpAny_seqItems hS rfl (wpAny_pure ?_))
  show wpAny _ _ (updateSeq s.heap.objs.size (fun _ => #[]) >>= fun _ => letGo (#[] : Array Value).toList.reverse >>= fun _ => Builtin.List.listExtendWith (.ref s.heap.objs.size) (.ref I) .none) _ _ _
  refine wpAny_bind (wpAny_updateSeq hS rfl ?_)
  have hS₂ := Heap.get?_update_self (Obj.mapSeq (fun _ => (#[] : Array Value))) hS rfl
  have oth : ∀ b o, s.heap.get? b = some o → ((s.heap.push { cls := .type "list", data := .seq #[] }).update s.heap.objs.size (Obj.mapSeq (fun _ => (#[] : Array Value)))).get? b = some o :=
    fun b o e => (Heap.get?_update_other _ _ (Ne.symm (Nat.ne_of_lt (Heap.lt_size e)))).trans (Heap.get?_push_of_some _ e)
  refine wpAny_bind (wpAny_letGo ?_)
  refine cb_extend (A := A.in1) hh (oth _ _ hit) (oth _ _ hD) hn hRs hz hl hpi s.heap.objs.size (Heap.lt_size hit) (Nat.ne_of_lt (Heap.lt_size hD)) .none _ hS₂ fun h' tk acc c as hk hS' hG hacc => ?_
  exact ⟨rfl, hQ h' tk acc c as (fun b o nb e => hk b o (Nat.ne_of_lt (Heap.lt_size e)) nb (oth b o e)) hS' hG hacc⟩
end
end Cmb
set_option linter.all false
set_option maxHeartbeats 2000000
/-! list(combinations(l, r)) -/
namespace Cmb
open PySem PySem.Spec PyProof.Rows L2 LiI
/-- the tuples tracked at their addresses -/
def putL : Hp → List Addr → List (List V) → Hp
  | H, a :: as, y :: ys => putL (upd H a (.tup y)) as ys
  | H, _, _ => H
theorem putL_off {b : Addr} : ∀ (as : List Addr) (ys : List (List V)) (H : Hp), b ∉ as → putL H as ys b = H b
  | [], _, _, _ => rfl
  | _ :: _, [], _, _ => rfl
  | a :: as, y :: ys, H, h => by
    show putL (upd H a (.tup y)) as ys b = H b
    rw [putL_off as ys _ (fun z => h (List.mem_cons_of_mem _ z)), upd_ne (fun z => h (by rw [z]; exact List.mem_cons_self))]
theorem putL_at : ∀ (as : List Addr) (ys : List (List V)) (H : Hp), as.length = ys.length → as.Nodup → Paired (fun (t : Addr) (y : List V) => putL H as ys t = some (.tup y)) as ys
  | [], [], _, _, _ => .nil
  | [], _ :: _, _, h, _ => by cases h
  | _ :: _, [], _, h, _ => by cases h
  | a :: as, y :: ys, H, h, hn => by
    have hn' := List.nodup_cons.mp hn
    have ih := putL_at as ys (upd H a (.tup y)) (Nat.succ.inj h) hn'.2
    refine .cons ?_ ih
    show putL (upd H a (.tup y)) as ys a = some (.tup y)
    rw [putL_off as ys _ hn'.1, upd_same]
theorem range_getD {α : Type} (xs : List α) (d : α) : (List.range xs.length).map (fun i => xs.getD i d) = xs := by
  refine List.ext_getElem (by simp) fun i h1 h2 => ?_
  simp [List.getElem?_eq_getElem h2]
theorem cmb_range {α : Type} (xs : List α) (d : α) (r : Nat) : cmb r xs = (cmb r (List.range xs.length)).map (·.map fun i => xs.getD i d) := by
  rw [← cmb_map, range_getD]
theorem cmb_size {α β : Type} {xs : List α} {ys : List β} (h : xs.length = ys.length) (r : Nat) : (cmb r xs).length = (cmb r ys).length := by
  cases xs with
  | nil => cases ys with
    | nil => cases r <;> rfl
    | cons => cases h
  | cons x xs => cases ys with
    | nil => cases h
    | cons y ys => rw [cmb_range _ x, cmb_range (y :: ys) y, h, List.length_map, List.length_map]
theorem rst_len {n : Nat} {st : Int} {idx : List Nat} {l : List (List Nat)} (h : Rst n st idx l) : ∀ x ∈ l, x.length = idx.length := by
  induction h with
  | fst _ ih => exact fun x hx => (List.mem_cons.mp hx).elim (fun e => by rw [e]) (ih x)
  | nxt q _ ih => exact fun x hx => (List.mem_cons.mp hx).elim (fun e => by rw [e]; exact next_len q) fun hx => (ih x hx).trans (next_len q)
  | nil _ => exact fun x hx => nomatch hx
  | fin => exact fun x hx => nomatch hx
theorem rst_new (n r : Nat) : Rst n (if r > n then 2 else 0) (List.range r) (cmb r (List.range n)) := by
  by_cases h : r > n
  · rw [if_pos h, cmb_long _ _ (by rw [List.length_range]; exact h)]; exact .fin
  · rw [if_neg h]; exact rst_all n r (Nat.le_of_not_lt h)
section
variable {X : Cx}
theorem pick_vals {xs : List V} {us : List Value} (r : Vals xs us) : ∀ (l : List Nat), (∀ i ∈ l, i < xs.length) → Vals (l.map fun i => xs.getD i .non) (l.map fun i => us.toArray.getD i .none)
  | [], _ => .nil
  | i :: l, h => by
    refine .cons ?_ (pick_vals r l fun j hj => h j (List.mem_cons_of_mem _ hj))
    have hi := h i List.mem_cons_self
    obtain ⟨u, e, ru⟩ := r.get (List.getElem?_eq_getElem hi)
    have e1 : xs.getD i .non = xs[i] := by rw [List.getD_eq_getElem?_getD, List.getElem?_eq_getElem hi]; rfl
    have e2 : us.toArray.getD i .none = u := by
      have : us.toArray[i]? = some u := by simpa using e
      rw [Array.getD_eq_getD_getElem?, this]; rfl
    show RelV (xs.getD i .non) (us.toArray.getD i .none)
    rw [e1, e2]; exact ru
theorem cb_laid {pins : List (Addr × Obj)} {σ : L2.St} {H : Hp} {s : Shared} {h' : Heap} {tk : Nat} {xs : List V} {us : List Value} {ls : List (List Nat)} {acc : Array Value} {c : Nat} {S : Addr} {as : List Addr} (I : Inv X pins σ H s) (hS0 : s.heap.objs.size ≤ S) (hz : ls.length ≤ sizeLine) (hl : ∀ l ∈ ls, l.length ≤ 1000 ∧ ∀ i ∈ l, i < xs.length) (r : Vals xs us)
    (hk : ∀ b o, s.heap.get? b = some o → h'.get? b = some o) (hS : h'.get? S = some { cls := .type "list", dict := none, data := .seq acc c, slots := #[] }) (hG : CbG us S h' ls as) (hacc : acc.toList = as.map Value.ref) :
    ∃ H' : Hp, (∀ b o, H b = some o → H' b = some o) ∧ H S = none ∧ (∀ t ∈ as, H t = none) ∧ S ∉ as ∧ H' S = some (.lst (as.map V.ref)) ∧ Paired (fun (t : Addr) (y : List V) => H' t = some (.tup y)) as (ls.map (·.map fun i => xs.getD i .non)) ∧ Inv X pins σ H' { s with heap := h', toks := tk } := by
  have hSn : S ∉ as := fun z => Nat.lt_irrefl _ (hG.above _ z)
  have nd : as.Nodup := List.Pairwise.imp (fun {a b} (h : a < b) => Nat.ne_of_lt h) hG.rise
  have new : ∀ t ∈ as, H t = none := fun t ht => I.hok.fresh (Nat.le_of_lt (Nat.lt_of_le_of_lt hS0 (hG.above t ht)))
  have newS : H S = none := I.hok.fresh hS0
  have atP := putL_at as (ls.map (·.map fun i => xs.getD i .non)) (upd H S (.lst (as.map V.ref))) (by rw [List.length_map]; exact hG.len) nd
  have off : ∀ b, b ∉ as → b ≠ S → putL (upd H S (.lst (as.map V.ref))) as (ls.map (·.map fun i => xs.getD i .non)) b = H b := fun b h1 h2 => by rw [putL_off as _ _ h1, upd_ne h2]
  have low : ∀ b o, s.heap.get? b = some o → b ∉ as ∧ b ≠ S := fun b o e => ⟨fun z => absurd (Heap.lt_size e) (Nat.not_lt.mpr (Nat.le_of_lt (Nat.lt_of_le_of_lt hS0 (hG.above b z)))), Nat.ne_of_lt (Nat.lt_of_lt_of_le (Heap.lt_size e) hS0)⟩
  have kp : ∀ b u, H b = some u → (putL (upd H S (.lst (as.map V.ref))) as (ls.map (·.map fun i => xs.getD i .non))) b = some u := fun b u e => by
    rw [off b (fun z => by rw [new b z] at e; cases e) (fun z => by rw [z, newS] at e; cases e)]
    exact e
  have eS : putL (upd H S (.lst (as.map V.ref))) as (ls.map (·.map fun i => xs.getD i .non)) S = some (.lst (as.map V.ref)) := by rw [putL_off as _ _ hSn, upd_same]
  refine ⟨_, kp, newS, new, hSn, eS, atP, ?_⟩
  refine I.call' (ch := []) rfl ⟨fun b o q _ _ _ => hk b o q, fun b o q _ _ _ => ⟨o.slots, hk b o q⟩, fun b o q n _ => ?_, fun b o q _ => ⟨o, hk b o q⟩, fun b xs q => kp b _ q, fun b o u q => kp b _ q, fun b ps q => ⟨#[], by rw [kp b _ q]; simp⟩⟩ (fun b u q => ?_) I.bare fun b z => by simp at z
  · obtain ⟨z1, z2⟩ := low b o q
    rw [off b z1 z2]
    exact n
  · by_cases hb : b ∈ as
    · obtain ⟨j, pk, e1, e2, e3⟩ := paired_ix atP hb
      rw [e3] at q
      cases q
      obtain ⟨l, f1, f3⟩ := hG.tups j b e1
      rw [List.getElem?_map, f1] at e2
      cases e2
      obtain ⟨l1, l2⟩ := hl l (List.mem_of_getElem? f1)
      exact ⟨by show List.length _ ≤ sizeLine; rw [List.length_map, sizeLine_eq]; omega, _, pick_vals r l l2, ⟨_, f3, rfl, _, rfl⟩⟩
    · by_cases hb2 : b = S
      · rw [hb2] at q ⊢
        rw [eS] at q
        cases q
        refine ⟨by rw [List.length_map, hG.len]; exact hz, acc.toList, c, by rw [hacc]; exact LiI.vals_refs as, ?_⟩
        rw [Array.toArray_toList]
        exact hS
      · rw [off b hb hb2] at q
        exact (I.hok b u q).stay (fun d v _ y => hk d v y) (fun d y => kp d _ y) fun d xs y => kp d _ y
/-- all parts of r items of a list, as tuples in a new list -/
def tCmb (K : PySem.W.Frag) (ta : TA) : TE := fun σ H Q => ta σ H fun vs H1 => ∃ (l : Addr) (r : Int) (xs : List V), vs = [.ref l, .int r] ∧ SqL K H1 l xs ∧ 0 ≤ r ∧ r < 1000 ∧ xs.length ≤ 1000 ∧ (cmb r.toNat xs).length ≤ sizeLine ∧
  ∀ (H' : Hp) (p : Addr) (ts : List Addr), (∀ b o, H1 b = some o → H' b = some o) → H1 p = none → (∀ t ∈ ts, H1 t = none) → p ∉ ts → H' p = some (.lst (ts.map V.ref)) → Paired (fun (t : Addr) (y : List V) => H' t = some (.tup y)) ts (cmb r.toNat xs) → Q (.ref p) H'
theorem pe_listCb {x : Str} {e1 e2 : Expr} {ta : TA} {p p2 cpos pos : Pos} (hc : X.calm = true) (ha : PA X [e1, e2] ta) (hg : Gl X "list") (hm : X.mg "list" = none) (hv : bootBuiltins "list" = some (.type "list")) (hgc : Gl X x) (hmc : X.mg x = some (.type "itertools.combinations"))
    (hd : (x == ("__debug__" : Str)) = false := by decide)
    (hs : starEach [.Call (.Name x p2) [e1, e2] [] cpos] X.env = (false, eval (.Call (.Name x p2) [e1, e2] [] cpos) X.env) :: starEach [] X.env := by rfl)
    (hs2 : starEach [e1, e2] X.env = (false, eval e1 X.env) :: starEach [e2] X.env := by rfl) (hpl : (backTo cpos (starEach [e2] X.env)).any (·.1) = false := by rfl) :
    PE X (.Call (.Name "list" p) [.Call (.Name x p2) [e1, e2] [] cpos] [] pos) (tCmb X.K ta) := by
  refine ⟨fun pins s σ H Q I hq => ?_⟩
  refine wpAny_Call_Name_kw (ld_blt I hg hm hv ?_)
  refine PyProof.Rows.callWith_type1 ?_ hs rfl
  rw [hs]
  show wpAny _ _ (spliced ((false, eval (.Call (.Name x p2) [e1, e2] [] cpos) X.env) :: backTo pos (starEach [] X.env))) _ _ s
  refine Calls.spliced_cons ?_
  refine wpAny_Call_Name_kw (ld_glob I hgc hmc (PyProof.Rows.callWith_type1 (thn (ha.run cpos pins s σ H _ I hq) fun us s1 ⟨vs, H1, I1, r1, q1⟩ => ?_) hs2 hpl) hd)
  obtain ⟨l, r, xs, rfl, hl, h0, h1, hxs, hz, q⟩ := q1
  cases r1 with
  | cons r rr =>
    cases rr with
    | cons r' rr =>
      cases rr
      cases r
      obtain ⟨t, rfl⟩ := r'
      obtain ⟨its, rv, pl, _⟩ := I1.list hl
      have le : its.length = xs.length := rv.length.symm
      refine call_cb pl.isList (by rw [le]; exact hxs) h0 h1 fun h' k1 k2 k3 => ?_
      refine Calls.spliced_nil ?_
      have hls : ∀ y ∈ cmb r.toNat (List.range its.length), y.length ≤ 1000 ∧ ∀ i ∈ y, i < xs.length := fun y hy => by
        obtain ⟨a, b⟩ := mem_cmb.mp hy
        exact ⟨by rw [b]; omega, fun i hi => by have := a.subset hi; rw [List.mem_range, le] at this; exact this⟩
      have hz' : (cmb r.toNat (List.range its.length)).length ≤ sizeLine := by rw [cmb_size (ys := xs) (by rw [List.length_range, le])]; exact hz
      refine cb_call (A := X.A) (s := { s1 with heap := h' }) (I1.ok.hd hc) k3 k2 rfl (rst_new its.length r.toNat) hz' (fun y hy => (hls y hy).1) (Nat.ne_of_lt (Nat.lt_succ_self _)) fun h'' tk acc c as g1 g2 g3 g4 => ?_
      obtain ⟨H', j1, j2, j3, j4, j5, j6, J⟩ := cb_laid (tk := tk) I1 (S := h'.objs.size) (Nat.le_trans (Nat.le_add_right _ 2) (Nat.le_of_lt (Heap.lt_size k3))) hz' hls rv (fun b o e => g1 b o (fun z => absurd (Heap.lt_size e) (by rw [z]; exact Nat.not_lt.mpr (Nat.le_add_right _ 2))) (k1 b o e)) g2 g3 g4
      refine ⟨.ref h'.objs.size, H', J, rfl, q H' _ as j1 j2 j3 j4 j5 ?_⟩
      rw [cmb_range xs .non, ← le]; exact j6
end
end Cmb
namespace Mc
open PySem L2 PySem.Spec PyProof.Rows Evl
def tTru (K : PySem.W.Frag) (ta : TE) : TT := fun σ H Q => ta σ H fun x H' => ∃ k, TruV K x H' k ∧ Q k H'
theorem pt_truthK {X : Cx} {K : PySem.W.Frag} {a : Expr} {ta : TE} (h : X.K = K) (ha : PE X a ta) (he : ∀ whole, isTrue a X.env whole = (do let v ← whole; standAt a.pos; holding [v] (truthy v))) : L2.PT X a (tTru K ta) := by
  subst h
  exact pt_truth ha he
section
variable {X : Cx} {K : PySem.W.Frag} {o e : Expr} {es : List Expr} {to : TE} {t : TA} {name : PySem.Str} {apos cpos : Pos} {T id : String} {r : V → List V → Hp → VK → Prop}
theorem pe_bmK (h : X.K = K) (pa : PlainAttrs T) (slot : Slot T name id) (hty : typeOf (.builtin id) = pure (.type "method_descriptor")) (hm : MtR X id r) (ho : PE X o to) (ha : PA X (e :: es) t)
    (hbase : attributeBase o name X.env (eval o X.env) = eval o X.env := by rfl)
    (hfew : ((backTo cpos (starEach (e :: es) X.env)).all (fun x => !x.1) && (backToKw cpos (keywordEach [] X.env)).all (fun x => x.1.isSome)
      && decide ((e :: es).length + ([] : List Keyword).length + (if ([] : List Keyword).isEmpty then 0 else 1) < 30)) = true := by rfl)
    (hline : (apos.endLine == cpos.line) = true := by rfl) (hs : starEach (e :: es) X.env = (false, eval e X.env) :: starEach es X.env := by rfl) (hplain : (backTo cpos (starEach es X.env)).any (·.1) = false := by rfl) :
    PE X (.Call (.Attribute o name apos) (e :: es) [] cpos) (tBM K T r to t) := by
  subst h
  exact pe_bm pa slot hty hm ho ha hbase hfew hline hs hplain
end
theorem et_truT {K : PySem.W.Frag} {te : TE} {σ : L2.St} {H : Hp} {a : Addr} {xs : List V} (h : Ev te σ H (.ref a)) (hx : SqT K H a xs) : EvT (tTru K te) σ H (!xs.isEmpty) := fun H1 e Q q => h H1 e _ fun H2 e2 => ⟨_, .inr (.inl ⟨xs, ex_t (e.trans e2) hx, rfl⟩), q H2 e2⟩
end Mc
namespace Mc
open PySem L2 PySem.Spec PyProof.Rows Gd Evl Cmb
theorem ev_len8 {K : PySem.W.Frag} {σ : L2.St} {H : Hp} {ta : TE} {p : Addr} {xs : List V} (ha : Ev ta σ H (.ref p)) (h : SqL K H p xs) : Ev (tCB (rLenS K) (tCons ta tNil)) σ H (.int (xs.length : Int)) := fun H1 e Q q =>
  ha H1 e _ fun H2 e2 => ⟨p, xs, rfl, Or.inl (ex_l (e.trans e2) h), q H2 e2⟩
/-! lots_up_to -/
abbrev sLup : Stmt := top 10
def lotsUp (ks : List PySem.Str) (n : Nat) : List (List PySem.Str) := (List.range (min n ks.length + 1)).flatMap fun r => cmb r ks
def TupsAt (H : Hp) (as : List Addr) (yss : List (List PySem.Str)) : Prop := Paired (fun (t : Addr) (ys : List PySem.Str) => H t = some (.tup (ys.map V.str))) as yss
theorem TupsAt.ex {H H' : Hp} (x : Ex H H') : ∀ {as : List Addr} {yss : List (List PySem.Str)}, TupsAt H as yss → TupsAt H' as yss
  | _, _, .nil => .nil
  | _, _, .cons r t => .cons (x _ _ r) (TupsAt.ex x t)
theorem TupsAt.app {H : Hp} : ∀ {as bs : List Addr} {yss zss : List (List PySem.Str)}, TupsAt H as yss → TupsAt H bs zss → TupsAt H (as ++ bs) (yss ++ zss)
  | _, _, _, _, .nil, k => k
  | _, _, _, _, .cons r t, k => .cons r (TupsAt.app t k)
theorem TupsAt.off {H : Hp} {l : Addr} {o : HO} {xs : List V} (hl : H l = some (.lst xs)) : ∀ {as : List Addr} {yss : List (List PySem.Str)}, TupsAt H as yss → TupsAt (upd H l o) as yss
  | _, _, .nil => .nil
  | _, _, .cons r t => .cons (by rw [upd_ne fun e => by rw [e, hl] at r; cases r]; exact r) (TupsAt.off hl t)
theorem TupsAt.kp {H H' : Hp} {l : Addr} (k : Kp [l] H H') (hl : ∀ ys, H l ≠ some (.tup ys)) : ∀ {as : List Addr} {yss : List (List PySem.Str)}, TupsAt H as yss → TupsAt H' as yss
  | _, _, .nil => .nil
  | _, _, .cons r t => .cons (k _ _ r fun e => hl _ (by rw [← List.mem_singleton.mp e]; exact r)) (TupsAt.kp k hl t)
theorem TupsAt.get {H : Hp} : ∀ {as : List Addr} {yss : List (List PySem.Str)}, TupsAt H as yss → ∀ {i : Nat} {a : Addr}, as[i]? = some a → ∃ ys, yss[i]? = some ys ∧ H a = some (.tup (ys.map V.str))
  | _, _, .nil, i, a, h => by cases i <;> cases h
  | _, _, .cons r t, 0, a, h => ⟨_, rfl, by rw [← Option.some.inj h]; exact r⟩
  | _, _, .cons r t, i + 1, a, h => TupsAt.get t h
theorem cmb_le {α : Type} : ∀ (r : Nat) (xs : List α), (cmb r xs).length ≤ 2 ^ xs.length
  | 0, xs => by
    have e : cmb 0 xs = [[]] := by cases xs <;> rfl
    rw [e]; exact Nat.one_le_two_pow
  | _ + 1, [] => Nat.zero_le _
  | r + 1, x :: xs => by
    show ((cmb r xs).map (x :: ·) ++ cmb (r + 1) xs).length ≤ 2 ^ (xs.length + 1)
    have h1 := cmb_le r xs
    have h2 := cmb_le (r + 1) xs
    rw [List.length_append, List.length_map, Nat.pow_succ]; omega
theorem cmb_256 {r : Nat} {xs : List PySem.Str} (h : xs.length ≤ 8) : (cmb r xs).length ≤ 256 := Nat.le_trans (cmb_le r xs) (Nat.pow_le_pow_right (by decide) h)
theorem flat_256 {xs : List PySem.Str} (h : xs.length ≤ 8) : ∀ n : Nat, ((List.range n).flatMap fun r => cmb r xs).length ≤ n * 256
  | 0 => Nat.zero_le _
  | n + 1 => by
    rw [List.range_succ, List.flatMap_append, List.length_append]
    have h1 := flat_256 h n
    have h2 := cmb_256 (r := n) h
    simp only [List.flatMap_cons, List.flatMap_nil, List.append_nil]
    omega
def spLup (K : PySem.W.Frag) : Sp := fun vs H Q _ => ∃ (d : Addr) (n : Int) (chs : Chs), vs = [.ref d, .int n] ∧ Rd H d (.dK (kvT vI chs)) ∧ sortedS (keysT chs) = true ∧ chs.length ≤ 8 ∧ 0 ≤ n ∧ n ≤ 100 ∧
  ∀ (p : Addr) (as : List Addr) (H' : Hp), Ex H H' → H p = none → H' p = some (.lst (as.map V.ref)) → TupsAt H' as (lotsUp (keysT chs) n.toNat) → Q (.ref p) H'
structure TxLu (mg : PySem.Str → Option Value) : Prop where
  sorted : mg "sorted" = none
  range : mg "range" = none
  min : mg "min" = none
  len : mg "len" = none
  list : mg "list" = none
  cb : mg "combinations" = some (.type "itertools.combinations")
section
variable {P : Program} {w : World} {K : PySem.W.Frag} {mg : PySem.Str → Option Value} {base : Heap}
abbrev nmLu : List PySem.Str := ["names", "most", "row", "lots", "many"]
theorem scLu : FnScope nmLu ["names", "most"] (defScope sLup) := ⟨rfl, rfl, rfl, by decide +kernel, rfl, by decide +kernel, by decide +kernel⟩
theorem ok_lup {f : Addr} {fd : FuncData} (F : Fun K "lots_up_to" "lots_up_to" sLup f fd) (T : TxLu mg) : FnOk P w K mg base CX0 1 f fd ["names", "most"] (spLup K) := by
  refine F.ok scLu (fun vs H Q E h => ?_) (fun cdv A outer s H vs Q E hr h => ?_)
  · obtain ⟨d, n, chs, rfl, _⟩ := h
    rfl
  · obtain ⟨d, n, chs, rfl, hd, srt, hl, n0, n1, q⟩ := h
    have hu := hu_of hr
    refine ⟨_, (pss_cons (ps_set (i := 2) scLu.nd rfl (Or.inl rfl) (pe_callB (cr_srtD rfl) (by rfl) T.sorted boot_sorted (pa_cons (pv 0) pa_nil)))
      (pss_cons (ps_set (i := 3) scLu.nd rfl (Or.inl rfl) (pe_lst pa_nil))
      (pss_cons (ps_for PassesOwn.never rfl (pi_range1 (by rfl) T.range (pa_cons (pe_op op_add (pe_callB (call_min2 rfl) (by rfl) T.min boot_min (pa_cons (pv 1) (pa_cons (pe_callB call_len_seq (by rfl) T.len PySem.boot_len (pa_cons (pv 2) pa_nil)) pa_nil))) pe_int) pa_nil)) (pg_name (i := 4) scLu.nd rfl (Or.inl rfl))
        (pss_one (ps_expr (pe_bm PySem.F.plainAttrs_list PySem.F.slot_list_extend PySem.F.type_list_extend mt_extend (pv 3) (pa_cons (pe_listCb rfl (pa_cons (pv 2) (pa_cons (pv 4) pa_nil)) (by rfl) T.list boot_list (by rfl) T.cb) pa_nil)))))
      (pss_one (ps_ret (pv 3)))))), ?_⟩
    have kl : (keysT chs).length ≤ 8 := by unfold keysT; rw [List.length_map]; exact hl
    refine q_asgL (el_srtD (g := vI) (ev_var rfl) hd srt (by omega)) fun row H1 hrow x1 hrow1 => ?_
    refine q_asgL (xs := []) (el_lst ea_nil (by decide)) fun lots H2 hlots x2 hlots2 => ?_
    have hrow2 := x2 _ _ hrow1
    have nrl : row ≠ lots := fun e => by rw [e] at hrow1; rw [hrow1] at hlots; cases hlots
    have em : (if ((keysT chs).length : Int) < n then ((keysT chs).length : Int) else n) = ((min n.toNat (keysT chs).length : Nat) : Int) := by
      by_cases c : ((keysT chs).length : Int) < n
      · rw [if_pos c]; omega
      · rw [if_neg c]; omega
    refine q_forR1 (n := ((min n.toNat (keysT chs).length : Nat) : Int) + 1) (j := 4) ?_ ⟨by omega, by omega⟩
      (fun i σ' H' => ∃ (as : List Addr) (v4 : Option V), σ' = [some (.ref d), some (.int n), some (.ref row), some (.ref lots), v4] ∧ Kp [lots] H2 H' ∧ H' lots = some (.lst (as.map V.ref)) ∧ TupsAt H' as ((List.range i).flatMap fun r => cmb r (keysT chs)))
      (fun H3 x3 => ⟨[], _, rfl, fun b o z _ => x3 _ _ z, x3 _ _ hlots2, .nil⟩) ?_ ?_
    · refine ea_cons (ev_is (ev_op (x := .int ((min n.toNat (keysT chs).length : Nat) : Int)) (fun H3 e Q q => ?_) ev_c rv_I0) rfl) ea_nil
      refine (ea_cons (ev_var rfl) (ea_cons (ev_len8 (ev_var rfl) (SqL.of hrow2)) ea_nil)) H3 e _ fun H4 e4 => ⟨n, _, rfl, ?_⟩
      rw [show (((keysT chs).map V.str).length : Int) = ((keysT chs).length : Int) from by rw [List.length_map], em]
      exact q H4 e4
    · rintro i σ' H3 hi ⟨as, v4, rfl, k3, hl3, t3⟩
      dsimp only [gName]
      have nl : ∀ {b o}, H2 b = some o → b ≠ lots → H3 b = some o := fun {b o} z e => k3 b o z fun h => e (List.mem_singleton.mp h)
      have hrow3 := nl hrow2 nrl
      have hi8 : i ≤ 8 := by omega
      have c256 := cmb_256 (r := i) kl
      refine ⟨_, rfl, Or.inl ⟨rfl, _, SqL.of hl3⟩, _, rfl, _, rfl, row, (i : Int), (keysT chs).map V.str, rfl, SqL.of hrow3, by omega, by omega, by rw [List.length_map]; omega, ?_, fun H4 p ts x4 hp hts npt hp4 t4 => ?_⟩
      · rw [cmb_map, List.length_map, sizeLine_eq]; exact Nat.le_trans c256 (by decide)
      have h4 : TupsAt H4 ts (cmb i (keysT chs)) := by
        have e : cmb (i : Int).toNat ((keysT chs).map V.str) = (cmb i (keysT chs)).map (·.map V.str) := by rw [Int.toNat_natCast, cmb_map]
        rw [e] at t4
        unfold TupsAt
        clear e npt hts hp4
        generalize cmb i (keysT chs) = L at t4
        induction ts generalizing L with
        | nil => cases L with
          | nil => exact .nil
          | cons => cases t4
        | cons t ts ih => cases L with
          | nil => cases t4
          | cons y L => cases t4 with
            | cons r t4 => exact .cons r (ih _ t4)
      have lf := flat_256 kl i
      have la : as.length = ((List.range i).flatMap fun r => cmb r (keysT chs)).length := Paired.length t3
      have lt : ts.length = (cmb i (keysT chs)).length := Paired.length h4
      refine ⟨lots, p, _, _, rfl, rfl, x4 _ _ hl3, hp4, by rw [List.length_map, List.length_map, sizeLine_eq]; omega, ⟨as ++ ts, _, rfl, fun b o z nb => ?_, ?_, ?_⟩⟩
      · have e : b ≠ lots := fun e => nb (List.mem_singleton.mpr e)
        rw [upd_ne e]; exact x4 _ _ (k3 b o z nb)
      · rw [upd_same, List.map_append]
      · rw [List.range_succ, List.flatMap_append]
        simp only [List.flatMap_cons, List.flatMap_nil, List.append_nil]
        exact ((t3.ex x4).app h4).off (x4 _ _ hl3)
    · rintro σ' H3 ⟨as, v4, rfl, k3, hl3, t3⟩
      have fr : H lots = none := fresh_back x1 hlots
      refine ⟨_, rfl, q lots as H3 (fun b o z => k3 b o (x2 _ _ (x1 _ _ z)) fun e => by rw [List.mem_singleton.mp e, fr] at z; cases z) fr hl3 ?_⟩
      have e : (((min n.toNat (keysT chs).length : Nat) : Int) + 1).toNat = min n.toNat (keysT chs).length + 1 := by omega
      rw [e] at t3
      exact t3
end
end Mc
namespace Mc
open PySem L2 PySem.Spec PyProof.Rows
abbrev sLots : Stmt := top 39
/-- all lots of some names, each in the names' turn -/
def lotsOf (ns : List PySem.Str) : List (List PySem.Str) := ns.foldl (fun f n => f ++ f.map (· ++ [n])) [[]]
theorem lotsOf_snoc (ns : List PySem.Str) (n : PySem.Str) : lotsOf (ns ++ [n]) = lotsOf ns ++ (lotsOf ns).map (· ++ [n]) := by unfold lotsOf; rw [List.foldl_append]; rfl
theorem lotsOf_len (ns : List PySem.Str) : (lotsOf ns).length = 2 ^ ns.length := by
  induction ns using Gd.snoc_ind with
  | h0 => rfl
  | hs P c ih => rw [lotsOf_snoc, List.length_append, List.length_map, ih, List.length_append, List.length_singleton, Nat.pow_succ]; omega
theorem lotsOf_sub {ns lot : List PySem.Str} (h : lot ∈ lotsOf ns) : lot.Sublist ns := by
  induction ns using Gd.snoc_ind generalizing lot with
  | h0 => rw [List.mem_singleton.mp h]; exact List.Sublist.refl _
  | hs P c ih =>
    rw [lotsOf_snoc] at h
    rcases List.mem_append.mp h with h | h
    · exact (ih h).trans (List.sublist_append_left _ _)
    · obtain ⟨l, hl, rfl⟩ := List.mem_map.mp h
      exact List.Sublist.append (ih hl) (List.Sublist.refl _)
theorem lotsOf_filter (p : PySem.Str → Bool) (ns : List PySem.Str) : ns.filter p ∈ lotsOf ns := by
  induction ns using Gd.snoc_ind with
  | h0 => exact List.mem_singleton.mpr rfl
  | hs P c ih =>
    rw [lotsOf_snoc, List.filter_append]
    by_cases h : p c = true
    · exact List.mem_append_right _ (List.mem_map.mpr ⟨_, ih, by simp [h]⟩)
    · exact List.mem_append_left _ (by simp [h]; exact ih)
/-- at these addresses lists of these texts -/
def LLs (H : Hp) (as : List Addr) (L : List (List PySem.Str)) : Prop := as.length = L.length ∧ ∀ (i : Nat) a r, as[i]? = some a → L[i]? = some r → H a = some (.lst (r.map V.str))
theorem LLs.same {H H' : Hp} {as : List Addr} {L : List (List PySem.Str)} (h : LLs H as L) (s : Same H H') : LLs H' as L := ⟨h.1, fun i a r x y => s _ _ (h.2 i a r x y)⟩
theorem LLs.app {H : Hp} {as bs : List Addr} {L M : List (List PySem.Str)} (h : LLs H as L) (k : LLs H bs M) : LLs H (as ++ bs) (L ++ M) := by
  refine ⟨by rw [List.length_append, List.length_append, h.1, k.1], fun i a r x y => ?_⟩
  by_cases hi : i < as.length
  · rw [List.getElem?_append_left hi] at x
    rw [List.getElem?_append_left (by rw [← h.1]; exact hi)] at y
    exact h.2 i a r x y
  · rw [List.getElem?_append_right (Nat.le_of_not_lt hi)] at x
    rw [List.getElem?_append_right (by rw [← h.1]; exact Nat.le_of_not_lt hi), ← h.1] at y
    exact k.2 _ a r x y
def spLots (K : PySem.W.Frag) : Sp := fun vs H Q _ => ∃ (l : Addr) (ns : List PySem.Str), vs = [.ref l] ∧ H l = some (.lst (ns.map V.str)) ∧ ns.length ≤ 8 ∧
  ∀ (p : Addr) (as : List Addr) (H' : Hp), Same H H' → H' p = some (.lst (as.map V.ref)) → LLs H' as (lotsOf ns) → Q (.ref p) H'
section
variable {P : Program} {w : World} {K : PySem.W.Frag} {mg : PySem.Str → Option Value} {base : Heap}
theorem scLots : FnScope ["names", "found", "name", "lot"] ["names"] (defScope sLots) := ⟨rfl, rfl, rfl, by decide +kernel, rfl, by decide +kernel, by decide +kernel⟩
theorem ok_lots {f : Addr} {fd : FuncData} (F : Fun K "_law_lots" "_law_lots" sLots f fd) : FnOk P w K mg base CX0 1 f fd ["names"] (spLots K) := by
  refine F.ok scLots (fun vs H Q E h => ?_) (fun cdv A outer s H vs Q E hr h => ?_)
  · obtain ⟨l, ns, rfl, _⟩ := h
    rfl
  · obtain ⟨l, ns, rfl, hl, hn, q⟩ := h
    refine ⟨_, (pss_cons (ps_set (i := 1) scLots.nd rfl (Or.inl rfl) (pe_lst (pa_cons (pe_lst pa_nil) pa_nil)))
      (pss_cons (ps_for PassesOwn.never rfl (pi_list (pv 0)) (pg_name (i := 2) scLots.nd rfl (Or.inr rfl))
        (pss_one (ps_set (i := 1) scLots.nd rfl (Or.inl rfl) (pe_op op_cat (pv 1) (pe_lc (own := [("lot", 3)]) (g := gName 3) (tt := tYes) rfl scLots.nd (pi_list (pv 1)) (blkOk_by (own := [("lot", 3)]) (N := ["names", "found", "name", "lot"]) (sc := defScope sLots) (by decide +kernel)) (fun _ _ _ _ _ => pg_name (i := 3) scLots.nd rfl (Or.inl rfl)) (fun _ _ _ _ _ => pts_nil) (fun _ _ _ _ _ => (pe_op op_cat (pv 3) (pe_lst (pa_cons (pv 2) pa_nil)))))))))
      (pss_one (ps_ret (pv 1))))), ?_⟩
    refine ⟨(by show 0 ≤ sizeLine; decide), fun p0 hp0 => ⟨(by show 1 ≤ sizeLine; decide), fun p1 hp1 => ?_⟩⟩
    have s1 : Same H (upd (upd H p0 (.lst [])) p1 (.lst [.ref p0])) := Same.two hp0 hp1
    have a1 : LLs (upd (upd H p0 (.lst [])) p1 (.lst [.ref p0])) [p0] [[]] := ⟨rfl, fun i a r x y => by
      cases i with
      | zero =>
        cases Option.some.inj x
        cases Option.some.inj y
        rw [upd_ne fun e => by rw [← e, upd_same] at hp1; cases hp1]
        exact upd_same
      | succ i => cases x⟩
    have h1 : upd (upd H p0 (.lst [])) p1 (.lst [.ref p0]) p1 = some (.lst ([p0].map V.ref)) := upd_same
    generalize upd (upd H p0 (.lst [])) p1 (.lst [.ref p0]) = H1 at s1 a1 h1 ⊢
    refine ⟨_, rfl, l, rfl, ⟨_, SqL.of (s1 _ _ hl)⟩, for_list (K := K) (xs := ns.map V.str) (fun j σ H' => ∃ p as v2, σ = [some (.ref l), some (.ref p), v2, none] ∧ Same H H' ∧ H' p = some (.lst (as.map V.ref)) ∧ LLs H' as (lotsOf (ns.take j))) ⟨p1, [p0], none, rfl, s1, h1, a1⟩ (fun j σ H' _ ⟨_, _, _, _, k, _⟩ => SqL.of (k _ _ hl)) ?_ ?_⟩
    · rintro j x σ H2 hx ⟨p, as, v2, rfl, s2, hp, hL⟩
      rw [List.getElem?_map] at hx
      cases e : ns[j]? with
      | none => rw [e] at hx; cases hx
      | some m =>
        rw [e] at hx
        obtain rfl := Option.some.inj hx
        have hj := (List.getElem?_eq_some_iff.mp e).1
        have len2 : (lotsOf (ns.take j)).length ≤ 256 := by
          rw [lotsOf_len, List.length_take]
          exact Nat.pow_le_pow_right (n := 2) (by decide) (show _ ≤ 8 by omega)
        refine ⟨_, rfl, _, rfl, p, rfl, ⟨_, SqL.of hp⟩, fun D hD => lc_n (j := 3) (c := V.ref) (ys := as) (R := fun H' a b => ∀ r, H2 a = some (.lst (r.map V.str)) → H' b = some (.lst ((r ++ [m]).map V.str))) walk_list (by rw [List.length_map]) hD (fun H' s => SqL.of (s _ _ hp)) (by rw [hL.1, sizeLine_eq]; omega) (by intro H3 H4 y a r na k r' hr'; exact k _ _ na (r r' hr')) ?_ ?_⟩
        · intro i a H' k ha s3 hk
          have hi := (List.getElem?_eq_some_iff.mp ha).1
          obtain ⟨r, er⟩ : ∃ r, (lotsOf (ns.take j))[i]? = some r := ⟨_, List.getElem?_eq_getElem (by rw [← hL.1]; exact hi)⟩
          have har := hL.2 i a r ha er
          have lr : r.length ≤ 8 := by
            have := (lotsOf_sub (List.mem_of_getElem? er)).length_le
            rw [List.length_take] at this
            omega
          refine ⟨_, rfl, _, rfl, (by show 1 ≤ sizeLine; decide), fun q1 hq1 => ?_⟩
          have s4 : Same H' (upd H' q1 (.lst [.str m])) := Same.new hq1
          refine ⟨a, q1, r.map V.str, [V.str m], rfl, rfl, s4 _ _ (s3 _ _ har), upd_same, by rw [List.length_map, sizeLine_eq]; simp; omega, fun q2 hq2 => ?_⟩
          have n21 : q2 ≠ q1 := fun e => by rw [e, upd_same] at hq2; cases hq2
          refine hk _ q2 (s4.trans (Same.new hq2)) (by rw [upd_ne n21] at hq2; exact hq2) fun r' hr' => ?_
          rw [har] at hr'
          have e3 : r.map V.str = r'.map V.str := by injection hr' with e; injection e
          rw [upd_same, List.map_append, ← e3]
          rfl
        · intro H3 bs s3 hD3 lb hb
          refine ⟨p, D, as.map V.ref, bs.map V.ref, rfl, rfl, s3 _ _ hp, hD3, by rw [List.length_map, List.length_map, lb, hL.1, sizeLine_eq]; omega, fun q3 hq3 => ?_⟩
          have s4 : Same H3 (upd H3 q3 (.lst (as.map V.ref ++ bs.map V.ref))) := Same.new hq3
          refine ⟨q3, as ++ bs, some (.str m), rfl, (s2.trans s3).trans s4, by rw [upd_same, List.map_append], ?_⟩
          rw [List.take_add_one, e]
          show LLs _ _ (lotsOf (ns.take j ++ [m]))
          rw [lotsOf_snoc]
          refine ((hL.same s3).same s4).app ⟨by rw [List.length_map, lb, hL.1], fun i b r x y => ?_⟩
          rw [List.getElem?_map] at y
          cases er : (lotsOf (ns.take j))[i]? with
          | none => rw [er] at y; cases y
          | some r0 =>
            rw [er] at y
            obtain rfl : r0 ++ [m] = r := Option.some.inj y
            have hi := (List.getElem?_eq_some_iff.mp x).1
            have ha : as[i]? = some (as[i]'(by rw [← lb]; exact hi)) := List.getElem?_eq_getElem _
            exact s4 _ _ ((hb i b _ x ha).1 r0 (hL.2 i _ r0 ha er))
    · rintro σ H2 ⟨p, as, v2, rfl, s2, hp, hL⟩
      rw [List.length_map, List.take_length] at hL
      exact ⟨_, rfl, q p as H2 s2 hp hL⟩
end
end Mc
namespace Mc
open PySem L2 PySem.Spec PyProof.Rows
/-! ### own classes of error over Exception, with an __init__ that stores its arguments -/
def exT : List Value := [.type "Exception", .type "BaseException", .type "object"]
structure OexB (K : PySem.W.Frag) (C : Addr) : Prop where
  ini : PySem.W.excInitIn K C exT "Exception.__new__" = true
  ovr : PySem.W.excOver K C exT = true
  hd : PySem.W.hasDictIn K C = true
  sa : PySem.W.findIn K (.ref C) "__setattr__" = some (some (.builtin "object.__setattr__"))
  exC : PySem.W.subIn K (.ref C) (.type "BaseException") = some true
  tyC : PySem.W.typeIn K (.ref C) = some (.type "type")
  kC : PySem.W.keepIn K (.ref C) = true
theorem OexB.cd {K : PySem.W.Frag} {C : Addr} (T : OexB K C) : ∃ c, PySem.W.clsIn K C = some c ∧ c.hasDict = true := by
  have h := T.hd
  unfold PySem.W.hasDictIn at h
  cases e : PySem.W.clsIn K C with
  | none => rw [e] at h; cases h
  | some c => rw [e] at h; exact ⟨c, rfl, h⟩
section
open Builtin Builtin.ObjectAttr
variable {prog : Program} {w : World} {A : Around} {R : Result → Shared → Prop} {hp : Heap} {g : Array GenState} {dr : Drawn} {t : Nat} {os : OsState} {K : PySem.W.Frag} {C x : Addr} {y : PySem.Str} {tk : Tok} {u : Value} {fv : Array Value}
theorem taker_none (h : PySem.W.findIn K (.ref C) y = some none) : PySem.W.takerIn K C y = some none := by
  unfold PySem.W.takerIn
  rw [h]
  rfl
theorem sto_first (T : OexB K C) (hK : K.In hp) (ho : hp.get? x = some { cls := .ref C, data := .fields fv }) (hno : PySem.W.findIn K (.ref C) y = some none)
    (q : ∀ h' tk' dx, (∀ b o, b ≠ x → hp.get? b = some o → h'.get? b = some o) → hp.objs.size ≤ dx → dx ≠ x → h'.get? x = some { cls := .ref C, dict := some dx, data := .fields fv } → h'.Ns1 dx (fun z => if z = y then some u else none) →
      R (.ok (.ret .none)) ⟨h', g, dr, tk', os⟩) : codeAny (model prog w) A (.call (.builtin "object.__setattr__") ⟨[.ref x, .str y tk, u], []⟩) R ⟨hp, g, dr, t, os⟩ := by
  obtain ⟨c, hc, hh⟩ := T.cd
  refine PySem.W.osa_openX (od := none) (r := none) PySem.F.store_Exception hK ⟨ho, rfl, rfl, trivial⟩ T.ovr (taker_none hno) fun b => ?_
  have hcl : PySem.W.Looks (model prog w) hp (classData C) c := PySem.W.looks_clsIn hK hc
  have ne : x ≠ hp.objs.size := Nat.ne_of_lt (Heap.lt_size ho)
  obtain ⟨c1, c2, c3, c4, c5, c6, c7, c8, c9, c10, c11⟩ := c
  dsimp only at hh
  subst hh
  show wpAny _ _ (storeInOwnDict (.ref x) (.ref C) (.str y tk) y u b) _ _ _
  unfold storeInOwnDict ownDictForStores
  repeat (first | with_reducible refine PySem.PX.store_in_new ?_ ?_ | with_reducible refine wpAny_loadPart_at ho ?_ | with_reducible refine hcl.at ?_ | wp_step)
  · exact ⟨_, #[], _, (Heap.get?_update_ne _ _ _ _ ne.symm).trans (Heap.get?_push_at rfl rfl), rfl, fun e he => absurd he (by simp), fun _ => rfl⟩
  · intro h' tk' hn' hs
    exact q h' tk' hp.objs.size (fun b o hb hbo => (hs.2 b (Nat.ne_of_lt (Heap.lt_size hbo))).trans ((Heap.get?_update_ne _ _ _ _ hb).trans (Heap.get?_push_of_some _ hbo))) (Nat.le_refl _) ne.symm
      ((hs.2 x ne).trans (Heap.get?_update_self _ (Heap.get?_push_of_some _ ho) rfl)) hn'
theorem sto_more {dx : Addr} {m0 : PySem.Str → Option Value} {nl : List PySem.Str} (T : OexB K C) (hK : K.In hp) (ho : hp.get? x = some { cls := .ref C, dict := some dx, data := .fields fv }) (hno : PySem.W.findIn K (.ref C) y = some none)
    (hns : hp.Ns1 dx m0) (hw : Within m0 nl) (hz : nl.length ≤ 1000)
    (q : ∀ h' tk', (∀ b o, b ≠ dx → hp.get? b = some o → h'.get? b = some o) → h'.Ns1 dx (fun z => if z = y then some u else m0 z) → R (.ok (.ret .none)) ⟨h', g, dr, tk', os⟩) :
    codeAny (model prog w) A (.call (.builtin "object.__setattr__") ⟨[.ref x, .str y tk, u], []⟩) R ⟨hp, g, dr, t, os⟩ := by
  obtain ⟨c, hc, hh⟩ := T.cd
  obtain ⟨oD, _, _, hoD, _, _⟩ := hns.count hw
  refine PySem.W.osa_openX (od := some oD) (r := none) PySem.F.store_Exception hK ⟨ho, rfl, rfl, hoD⟩ T.ovr (taker_none hno) fun b => ?_
  have hcl : PySem.W.Looks (model prog w) hp (classData C) c := PySem.W.looks_clsIn hK hc
  obtain ⟨c1, c2, c3, c4, c5, c6, c7, c8, c9, c10, c11⟩ := c
  dsimp only at hh
  subst hh
  show wpAny _ _ (storeInOwnDict (.ref x) (.ref C) (.str y tk) y u b) _ _ _
  unfold storeInOwnDict ownDictForStores
  repeat (first | with_reducible refine PySem.OEX.store_in_old hns hw hz ?_ | with_reducible refine wpAny_loadPart_at ho ?_ | with_reducible refine hcl.at ?_ | wp_step)
  intro h' tk' hn' hs
  exact q h' tk' (fun b o hb hbo => (hs.2 b hb).trans hbo) hn'
end
section
variable {X : Cx} {pins : List (Addr × Obj)} {σ : L2.St} {H : Hp} {s : Shared} {a C dx : Addr} {f : PySem.Str} {y : V} {u : Value} {fs : List (PySem.Str × V)} {Q : Unit → Shared → Prop} {E : Value → Shared → Prop} {A : Around}
theorem fld_first (T : OexB X.K C) (I : Inv X pins σ H s) (e : H a = some (exo a C none)) (hno : PySem.W.findIn X.K (.ref C) f = some none) (ry : RelV y u)
    (q : ∀ dx s', H dx = none → dx ≠ a → Inv X pins σ (upd (upd H dx (exd dx [(f, y)])) a (exo a C (some dx))) s' → Q () s') : wpAny (model X.prog X.w) A (setAttr (.ref a) f u) Q E s := by
  obtain ⟨t1, ho⟩ := exo_at I.hok e
  obtain ⟨hp, g, d, t, os⟩ := s
  refine PySem.W.set_plain I.kIn (od := none) ⟨ho, rfl, rfl, trivial⟩ T.sa (sto_first T I.kIn ho hno fun h' tk' dx k dn dne hx hn => ?_)
  have hnd : H dx = none := I.hok.fresh dn
  have hb' : ∀ b, b ≠ a → (h'.update a fun _ => { cls := .ref C, data := .fields #[.ref t1, .none, .none, .none, .bool false, .none] }).get? b = h'.get? b := fun b hb => Heap.get?_update_ne _ _ _ _ hb
  have I1 : Inv X pins σ (upd H dx (exd dx [(f, y)])) ⟨h'.update a fun _ => { cls := .ref C, data := .fields #[.ref t1, .none, .none, .none, .bool false, .none] }, g, d, tk', os⟩ :=
    I.laid (t' := tk') (fun b o z => by
      by_cases hb : b = a
      · subst hb
        rw [show hp.get? b = _ from ho] at z
        cases z
        exact Heap.get?_update_self _ hx rfl
      · rw [hb' b hb]
        exact k b o hb z) dn (exd_ok (hn.at fun o z => (hb' dx dne).trans z) (relO_put (fs := []) ry fun g => True.intro))
  have ea : upd H dx (exd dx [(f, y)]) a = some (exo a C none) := by rw [upd_ne (Ne.symm dne)]; exact e
  exact q dx _ hnd dne (I1.write (t' := tk') (x := a) (e := a) (o := exo a C (some dx)) (by rw [ea]; exact True.intro) (.inl rfl) (fun b o hb z => (hb' b hb).symm.trans z) ⟨_, hx⟩ (exo_ok hx))
theorem fld_more (T : OexB X.K C) (I : Inv X pins σ H s) (e : H a = some (exo a C (some dx))) (ed : H dx = some (exd dx fs)) (hl : fs.length ≤ 900) (hno : PySem.W.findIn X.K (.ref C) f = some none) (ry : RelV y u)
    (q : ∀ s', Inv X pins σ (upd H dx (exd dx ((f, y) :: fs))) s' → Q () s') : wpAny (model X.prog X.w) A (setAttr (.ref a) f u) Q E s := by
  obtain ⟨t1, ho⟩ := exo_at I.hok e
  obtain ⟨mA, hns, rel⟩ := exd_at I.hok ed
  have hw := within_of rel
  obtain ⟨hp, g, d, t, os⟩ := s
  obtain ⟨oD, _, _, hoD, _, _⟩ := hns.count hw
  refine PySem.W.set_plain I.kIn (od := some oD) ⟨ho, rfl, rfl, hoD⟩ T.sa (sto_more T I.kIn ho hno hns hw (by rw [List.length_map]; omega) fun h' tk' k hn => ?_)
  obtain ⟨o, _, _, e', _⟩ := id hn
  exact q _ (I.write (t' := tk') (x := dx) (e := dx) (o := exd dx ((f, y) :: fs)) (by rw [ed]; exact True.intro) (.inl rfl) k ⟨o, e'⟩ (exd_ok hn (relO_put ry rel)))
end
section
variable {X : Cx} {o e : Expr} {es : List Expr} {to te : TE} {ta : TA} {p' p pos : Pos} {f x : PySem.Str}
def tOstB (K : PySem.W.Frag) (f : PySem.Str) (to te : TE) : TS := fun D σ H => te σ H fun y H1 => to σ H1 fun x H2 => ∃ a C : Addr, x = .ref a ∧ OexB K C ∧ PySem.W.findIn K (.ref C) f = some none ∧
  ((H2 a = some (exo a C none) ∧ ∀ dx, H2 dx = none → dx ≠ a → D.nx σ (upd (upd H2 dx (exd dx [(f, y)])) a (exo a C (some dx)))) ∨
    ∃ (dx : Addr) (fs : List (PySem.Str × V)), H2 a = some (exo a C (some dx)) ∧ H2 dx = some (exd dx fs) ∧ fs.length ≤ 900 ∧ D.nx σ (upd H2 dx (exd dx ((f, y) :: fs))))
theorem ps_ostB (ho : PE X o to) (he : PE X e te) (hs : swapsWith e (some (.Attribute o f p')) pos.line X.env = pure false := by rfl) : PS X (.Assign [.Attribute o f p'] e pos) (tOstB X.K f to te) := by
  constructor
  intro pins s σ H D I h
  refine plainObj_wpAny_Assign_Attribute (thn (he.run pins s σ H _ I h) fun v s1 hv => ?_) hs
  obtain ⟨y, H1, I1, r1, q1⟩ := hv
  refine thn (ho.run pins s1 σ H1 _ I1 q1) fun u s2 hu => ?_
  obtain ⟨x, H2, I2, r2, a, C, rfl, T, hno, q⟩ := hu
  cases r2
  rcases q with ⟨ea, q⟩ | ⟨dx, fs, ea, ed, hl, q⟩
  · exact fld_first T I2 ea hno r1 fun dx s' n1 n2 J => ⟨σ, _, J, q dx n1 n2⟩
  · exact fld_more T I2 ea ed hl hno r1 fun s' J => ⟨σ, _, J, q⟩
/-- C(e, ..) -/
def tMkB (C : Addr) (sp : Sp) (ta : TA) : L2.St → Hp → XK → Prop := fun σ H Q => ta σ H fun vs H1 => vs.length ≤ 1000 ∧ ∀ a, H1 a = none → sp (.ref a :: vs) (upd H1 a (exo a C none)) (fun v H2 => v = .non ∧
  ∃ (d : Addr) (fs : List (PySem.Str × V)), H2 a = some (exo a C (some d)) ∧ H2 d = some (exd d fs) ∧ H1 d = none ∧ Q (.ref C) (some d) (upd (del H2 a) d (.xd fs))) E0
theorem pmk_B {C fI : Addr} {k : Nat} {fd : FuncData} {ps : List PySem.Str} {sp : Sp} (T : OexB X.K C) (iC : PySem.W.findIn X.K (.ref C) "__init__" = some (some (.ref fI))) (tI : PySem.W.isFn X.K (.ref fI) = true)
    (F1 : FnOk X.prog X.w X.K X.mg X.base CX0 k fI fd ps sp) (hr : Room (k + 1) X.A) (hb : Binds X.K fd ps []) (hg : Gl X x) (hm : X.mg x = some (.ref C)) (ha : PA X (e :: es) ta)
    (hdb : (x == ("__debug__" : PySem.Str)) = false := by decide) (he : starEach (e :: es) X.env = (false, eval e X.env) :: starEach es X.env := by rfl) (hpl : (backTo pos (starEach es X.env)).any (·.1) = false := by rfl) :
    PMk X (.Call (.Name x p) (e :: es) [] pos) (tMkB C sp ta) := by
  intro pins s σ H Q I h
  refine wpAny_Call_Name_kw (ld_glob I hg hm ?_ hdb)
  refine PySem.W.callWith_K (h₀ := X.base) I.ok.mod.kin T.kC (thn (ha.run pos pins s σ H _ I h) fun us s1 hu => ?_) he hpl
  obtain ⟨vs, H1, I1, r1, hz, q1⟩ := hu
  refine ⟨I1.kIn, ?_⟩
  show wpAny _ _ (call (.ref C) us) _ _ _
  obtain ⟨nm, N, qn, bs, bm, hdct, sn, sub, ab, col, dd, k0, k1, k2, k3, k5, hC, hT⟩ := PySem.W.excInit_of I1.kIn T.ini
  obtain ⟨oI, hoI, hcI⟩ : ∃ oI, s1.heap.get? fI = some oI ∧ oI.cls = .type "function" := by
    obtain ⟨o, z1, z2⟩ := Option.map_eq_some_iff.mp (show (X.K.lookup fI).map (·.cls) = some (.type "function") from beq_iff_eq.mp tI)
    exact ⟨o, I1.kIn _ _ z1, z2⟩
  obtain ⟨hp, g, dr, tk, os⟩ := s1
  have le1 : hp.objs.size ≤ hp.objs.size + 1 := Nat.le_succ _
  have q2 := q1 (hp.objs.size + 1) (I1.hok.fresh le1)
  have grow : ∀ b o, hp.get? b = some o → ((hp.push (PySem.W.kdv_tup us)).push (PySem.PX.excO C hp.objs.size)).get? b = some o := fun b o z => Heap.get?_push_of_some _ (Heap.get?_push_of_some _ z)
  have here : ((hp.push (PySem.W.kdv_tup us)).push (PySem.PX.excO C hp.objs.size)).get? (hp.objs.size + 1) = some (PySem.PX.excO C hp.objs.size) := by heap_get
  have I2 : Inv X pins σ (upd H1 (hp.objs.size + 1) (exo (hp.objs.size + 1) C none)) ⟨(hp.push (PySem.W.kdv_tup us)).push (PySem.PX.excO C hp.objs.size), g, dr, tk, os⟩ := I1.laid (t' := tk) grow le1 (exo_ok here)
  have hv : Vals (V.ref (hp.objs.size + 1) :: vs) (Value.ref (hp.objs.size + 1) :: us) := .cons rfl r1
  have hln : (Value.ref (hp.objs.size + 1) :: us ++ []).length = ps.length := by
    rw [List.append_nil, ← hv.length]
    exact F1.len _ _ _ _ q2
  have hus : us.length ≤ sizeLine := by
    rw [← Paired.length r1, sizeLine_eq]
    omega
  have bt := hb ⟨(hp.push (PySem.W.kdv_tup us)).push (PySem.PX.excO C hp.objs.size), g, dr, tk, os⟩ (Value.ref (hp.objs.size + 1) :: us) I2.kIn hln
  rw [List.append_nil] at bt
  refine wpAny_call (PySem.PX.call_own PySem.F.excBase_Exception hT hC (PySem.W.looks_findIn I1.kIn iC) (fun self => PySem.W.exc_bind hoI hcI self) hus
    (codeAny_mono (F1.run _ X.stack _ _ ⟨Value.ref (hp.objs.size + 1) :: us, []⟩ _ _ _ E0 (hr.make C us []) (I2.env0.make C us []) bt hv q2) fun r s' z => ?_))
  cases r with
  | error er => exact pass0 pins σ _ _ er s' I2 z
  | ok fl =>
    cases fl with
    | ret u =>
      obtain ⟨v, H2, z1, z2, z3, z4, rv, rfl, d, fs, ea, ed, hd1, q3⟩ := z
      obtain ⟨h2, g2, d2, t2, os'⟩ := s'
      exact ⟨rv, mk_end (raises_own T.exC T.tyC) I1 le1 grow z3 z4 z1 z2 ea ed hd1 q3⟩
    | next => exact False.elim z
    | brk => exact False.elim z
    | cont => exact False.elim z
end
end Mc
namespace Mc
open PySem L2 PySem.Spec PyProof.Rows
/-! ### calls that may raise -/
def CalX (P : Program) (w : World) (K : PySem.W.Frag) (mg : PySem.Str → Option Value) (base : Heap) (k : Nat) (x : PySem.Str) (ps : List PySem.Str) (sp : Sp) : Prop :=
  ∃ (f : Addr) (fd : FuncData), mg x = some (.ref f) ∧ PySem.W.keepIn K (.ref f) = true ∧ Binds K fd ps [] ∧ FnOk P w K mg base (L2.CX P w) k f fd ps sp
def CalMX (P : Program) (w : World) (K : PySem.W.Frag) (mg : PySem.Str → Option Value) (base : Heap) (C : Addr) (k : Nat) (m : PySem.Str) (ps : List PySem.Str) (sp : Sp) : Prop :=
  ∃ (f : Addr) (fd : FuncData), Meth K C m f ∧ Binds K fd ps [] ∧ FnOk P w K mg base (L2.CX P w) k f fd ps sp
def CalIX (P : Program) (w : World) (K : PySem.W.Frag) (mg : PySem.Str → Option Value) (base : Heap) (C : Addr) (k : Nat) (x : PySem.Str) (ps : List PySem.Str) (sp : Sp) : Prop :=
  ∃ (f : Addr) (fd : FuncData), mg x = some (.ref C) ∧ Mk K C f ∧ Binds K fd ps [] ∧ FnOk P w K mg base (L2.CX P w) k f fd ps sp
/-- o.m(..) where E σ is wished of what it raises -/
def tMethE (C : Addr) (m : PySem.Str) (sp : Sp) (E : L2.St → XK) (ta : TE) (t : TA) : TE := fun σ H Q => ta σ H fun x H1 => ∃ a dx fs, x = .ref a ∧ H1 a = some (.ins C dx fs) ∧ fs.lookup m = none ∧ t σ H1 fun vs H2 => sp (x :: vs) H2 Q (E σ)
section
variable {X : Cx} {k : Nat} {x m : PySem.Str} {ps : List PySem.Str} {sp : Sp} {C : Addr} {p pos apos : Pos} {e o : Expr} {es : List Expr} {t : TA} {ta : TE} {E : L2.St → XK}
theorem pe_calX (c : CalX X.prog X.w X.K X.mg X.base k x ps sp) (hr : Room k X.A) (hg : Gl X x) (hx : ∀ σ, PassesAt (L2.CX X.prog X.w) X σ (E σ)) (ha : PA X (e :: es) t) (hdb : (x == ("__debug__" : PySem.Str)) = false := by decide)
    (he : starEach (e :: es) X.env = (false, eval e X.env) :: starEach es X.env := by rfl) (hpl : (backTo pos (starEach es X.env)).any (·.1) = false := by rfl) : PE X (.Call (.Name x p) (e :: es) [] pos) (tCallS sp E t) := by
  obtain ⟨f, fd, hm, hk, hb, F⟩ := c
  exact pe_callS F hr hg hm hk hb hx ha hdb he hpl
theorem pe_calMX {pl : Sem Bool} (ho : PE X o ta) (cl : Cls X.K C) (c : CalMX X.prog X.w X.K X.mg X.base C k m ps sp) (hr : Room k X.A) (hx : ∀ σ, PassesAt (L2.CX X.prog X.w) X σ (E σ)) (ha : PA X (e :: es) t)
    (hst : starEach (e :: es) X.env = (false, eval e X.env) :: starEach es X.env := by rfl) (hpl : (backTo pos (starEach es X.env)).any (·.1) = false := by rfl)
    (ht : eval (.Call (.Attribute o m apos) (e :: es) [] pos) X.env = (do
      let ov ← eval o X.env
      standAt apos.atName
      let (f, first) ← holding [ov] (getMethod ov m pl)
      callWith pos f first (backTo pos (starEach (e :: es) X.env)) (backToKw pos (keywordEach [] X.env))) := by rfl) :
    PE X (.Call (.Attribute o m apos) (e :: es) [] pos) (tMethE C m sp E ta t) := by
  obtain ⟨f, fd, hm, hb, F⟩ := c
  constructor
  intro pins s σ H Q I h
  refine PySem.W.methodCall_KW (pl := pl) (thn (ho.run pins s σ H _ I h) fun u s1 z1 => ?_) ht
  obtain ⟨x, H1, I1, rx, a, dx, fs, rfl, ea, l, q⟩ := z1
  cases rx
  refine getmeth_ok I1 ea cl hm l (PySem.W.callWith_K (first := [.ref a]) (h₀ := X.base) I.ok.mod.kin hm.kp (thn (ha.run pos pins s1 σ H1 _ I1 q) fun us s2 z2 => ?_) hst hpl)
  obtain ⟨vs, H2, I2, r, q2⟩ := z2
  exact ⟨I2.kIn, run_fnS (us := .ref a :: us) (vs := .ref a :: vs) F hr hb (hx σ) I2 (.cons rfl r) q2⟩
/-- nothing is raised at this call -/
theorem noE {X : Cx} : ∀ σ : L2.St, PassesAt (L2.CX X.prog X.w) X σ ((fun _ => E0) σ) := fun σ pins H s e s' I h => passL pins σ H s e s' I h
end
/-! ### C(..) whose __init__ may raise -/
def tMakeE (C : Addr) (sp : Sp) (E : L2.St → XK) (t : TA) : TE := fun σ H Q => t σ H fun vs H1 => ∀ x dx, H1 x = none → H1 dx = none → dx ≠ x → sp (.ref x :: vs) (upd (upd H1 dx (.own x)) x (.ins C dx [])) (fun v H2 => v = .non ∧ Q (.ref x) H2) (E σ)
theorem run_makeE {X : Cx} {k : Nat} {f C : Addr} {fd : FuncData} {ps : List PySem.Str} {sp : Sp} {E : XK} {pins : List (Addr × Obj)} {σ : L2.St} {H : Hp} {s : Shared} {Q : VK} {us : List Value} {vs : List V} (M : Mk X.K C f) (F : FnOk X.prog X.w X.K X.mg X.base (L2.CX X.prog X.w) k f fd ps sp) (hr : Room (k + 1) X.A) (hb : Binds X.K fd ps [])
    (hx : PassesAt (L2.CX X.prog X.w) X σ E) (I : Inv X pins σ H s) (r : Vals vs us)
    (h : ∀ x dx, H x = none → H dx = none → dx ≠ x → sp (.ref x :: vs) (upd (upd H dx (.own x)) x (.ins C dx [])) (fun v H2 => v = .non ∧ Q (.ref x) H2) E) :
    wpAny (model X.prog X.w) X.A (call (.ref C) us) (EP X pins σ Q) X.xe s := by
  have hq := h (s.heap.objs.size + 1) s.heap.objs.size (I.hok.fresh (Nat.le_succ _)) (I.hok.fresh (Nat.le_refl _)) (Nat.ne_of_lt (Nat.lt_succ_self _))
  have I2 := Inv.made (C := C) I
  have r2 : Vals (V.ref (s.heap.objs.size + 1) :: vs) (Value.ref (s.heap.objs.size + 1) :: us) := .cons rfl r
  have hl : (Value.ref (s.heap.objs.size + 1) :: us ++ []).length = ps.length := by
    have e := r2.length
    rw [F.len _ _ _ _ hq] at e
    rw [List.append_nil]
    exact e.symm
  have bt := hb _ (Value.ref (s.heap.objs.size + 1) :: us) I2.kIn hl
  rw [List.append_nil] at bt
  refine wpAny_call (make_map (f := f) I.kIn M.makes M.init (beq_iff_eq.mp M.fn) (codeAny_mono (F.run _ X.stack _ _ ⟨Value.ref (s.heap.objs.size + 1) :: us, []⟩ (Value.ref (s.heap.objs.size + 1) :: us) _ _ E (hr.make C us [])
    (I2.env0.make C us []) bt r2 hq) fun r s' hq' => ?_))
  cases r with
  | error e => exact hx pins _ _ e s' I2 hq'
  | ok fl =>
    cases fl with
    | ret u =>
      obtain ⟨v, H', I3, rv, ev, q3⟩ := I2.after hq'
      subst ev
      exact ⟨rv, ⟨V.ref (s.heap.objs.size + 1), H', I3, rfl, q3⟩⟩
    | next => exact False.elim hq'
    | brk => exact False.elim hq'
    | cont => exact False.elim hq'
section
variable {X : Cx} {k : Nat} {x : PySem.Str} {ps : List PySem.Str} {sp : Sp} {C : Addr} {p pos : Pos} {e : Expr} {es : List Expr} {t : TA} {E : L2.St → XK}
theorem pe_calIX (c : CalIX X.prog X.w X.K X.mg X.base C k x ps sp) (hr : Room (k + 1) X.A) (hg : Gl X x) (hx : ∀ σ, PassesAt (L2.CX X.prog X.w) X σ (E σ)) (ha : PA X (e :: es) t) (hdb : (x == ("__debug__" : PySem.Str)) = false := by decide)
    (he : starEach (e :: es) X.env = (false, eval e X.env) :: starEach es X.env := by rfl) (hpl : (backTo pos (starEach es X.env)).any (·.1) = false := by rfl) : PE X (.Call (.Name x p) (e :: es) [] pos) (tMakeE C sp E t) := by
  obtain ⟨f, fd, hm, M, hb, F⟩ := c
  refine ⟨fun pins s σ H Q I h => ?_⟩
  refine wpAny_Call_Name_kw (ld_glob I hg hm ?_ hdb)
  refine PySem.W.callWith_K (h₀ := X.base) I.ok.mod.kin M.kp (thn (ha.run pos pins s σ H _ I h) fun us s1 ⟨vs, H1, I1, r, q⟩ => ⟨I1.kIn, ?_⟩) he hpl
  exact run_makeE M F hr hb (hx σ) I1 r q
end
/-! ### an own error of one field -/
def spBadI (C : Addr) (f : PySem.Str) : Sp := fun vs H Q _ => ∃ (a : Addr) (v : V), vs = [.ref a, v] ∧ H a = some (exo a C none) ∧ ∀ d, H d = none → d ≠ a → Q .non (upd (upd H d (exd d [(f, v)])) a (exo a C (some d)))
theorem ok_badI {P : Program} {w : World} {K : PySem.W.Frag} {mg : PySem.Str → Option Value} {base : Heap} {st : Stmt} {f C : Addr} {fd : FuncData} {n q : PySem.Str} (F : Fun K "__init__" q st f fd) (T : OexB K C) (hno : PySem.W.findIn K (.ref C) n = some none)
    (sc : FnScope ["self", n] ["self", n] (defScope st))
    (bd : ∀ (cdv : Value) (A : Around) (outer : List Env) (s : Shared) (H : Hp) (Q : VK) (E : XK), PSs (cxOf CX0 P w K mg base ["self", n] q (defScope st) f cdv A outer s H E).nox (defBody st) (tOstB K n (tVar 0) (tVar 1))) : FnOk P w K mg base CX0 1 f fd ["self", n] (spBadI C n) := by
  refine F.ok sc (fun vs H Q E h => ?_) (fun cdv A outer s H vs Q E hr h => ?_)
  · obtain ⟨a, v, rfl, _⟩ := h
    rfl
  · obtain ⟨a, v, rfl, ha, k⟩ := h
    refine ⟨_, bd cdv A outer s H Q E, ?_⟩
    exact ⟨_, rfl, _, rfl, a, C, rfl, T, hno, .inl ⟨ha, k⟩⟩
theorem bad_heap {H : Hp} {a d : Addr} {o1 o2 o3 x : HO} (ha : H a = none) (ne : d ≠ a) : upd (del (upd (upd (upd H a o1) d o2) a o3) a) d x = upd H d x := by
  funext b
  by_cases h1 : b = d
  · rw [h1, upd_same, upd_same]
  · rw [upd_ne h1, upd_ne h1]
    by_cases h2 : b = a
    · rw [h2, del_same, ha]
    · rw [del_ne h2, upd_ne h2, upd_ne h1, upd_ne h2]
/-- C(v) -/
theorem mkB_one {C : Addr} {f : PySem.Str} {v : V} {H : Hp} {Q : XK} (q : ∀ d, H d = none → Q (.ref C) (some d) (upd H d (.xd [(f, v)]))) : [v].length ≤ 1000 ∧ ∀ a, H a = none → spBadI C f (.ref a :: [v]) (upd H a (exo a C none)) (fun v' H2 => v' = .non ∧
    ∃ (d : Addr) (fs : List (PySem.Str × V)), H2 a = some (exo a C (some d)) ∧ H2 d = some (exd d fs) ∧ H d = none ∧ Q (.ref C) (some d) (upd (del H2 a) d (.xd fs))) E0 := by
  refine ⟨by show 1 ≤ 1000; decide, fun a ha => ⟨a, v, rfl, upd_same, fun d hd ne => ⟨rfl, d, [(f, v)], upd_same, by rw [upd_ne ne, upd_same], by rw [upd_ne ne] at hd; exact hd, ?_⟩⟩⟩
  have hd0 : H d = none := by rw [upd_ne ne] at hd; exact hd
  rw [bad_heap ha ne]
  exact q d hd0
end Mc
namespace Mc
open PySem L2 PySem.Spec PyProof.Rows Gd Evl Cmb
/-! the mathematics of masts that fall -/
theorem gr_like {X Y : Sc PySem.Str} (h : ∀ L, Seatable X L ↔ Seatable Y L) (P : List PySem.Str) : gr X P = gr Y P := by
  induction P using snoc_ind with
  | h0 => rfl
  | hs P c ih =>
    have q : Seatable X (gr X P ++ [c]) ↔ Seatable Y (gr Y P ++ [c]) := by rw [ih]; exact h _
    by_cases z : Seatable X (gr X P ++ [c])
    · rw [gr_yes z, gr_yes (q.mp z), ih]
    · rw [gr_no z, gr_no fun w => z (q.mpr w), ih]
/-- two scenes that are alike -/
structure LikeK (chs : Chs) (cls : Cls') (chs2 : Chs) (cls2 : Cls') : Prop where
  ks : (keysT cls2).Perm (keysT cls)
  cap : ∀ m, (ScM chs cls).cap m = (ScM chs2 cls2).cap m
  wt : ∀ c, wOf cls c = wOf cls2 c
  hd : ∀ c m, m ∈ (ScM chs cls).heard c ↔ m ∈ (ScM chs2 cls2).heard c
theorem LikeK.kept {chs chs2 : Chs} {cls cls2 : Cls'} (h : LikeK chs cls chs2 cls2) {lot : List PySem.Str} (k : KeptOf chs cls lot) : KeptOf chs2 cls2 lot := by
  obtain ⟨ys, pm, pw, nd, hm⟩ := k
  have e : ∀ L, Seatable (ScM chs cls) L ↔ Seatable (ScM chs2 cls2) L := fun L =>
    ⟨seat_mono h.cap fun c _ m hm => (h.hd c m).mp hm, seat_mono (fun m => (h.cap m).symm) fun c _ m hm => (h.hd c m).mpr hm⟩
  refine ⟨ys, pm.trans h.ks.symm, pw.imp fun {a b} r => ?_, nd, fun x => by rw [hm, gr_like e]⟩
  unfold rkLe rkO at r ⊢
  rw [← h.wt a, ← h.wt b]; exact r
/-- a scene without some masts -/
structure Less8 (ms : List PySem.Str) (chs : Chs) (cls : Cls') (chs2 : Chs) (cls2 : Cls') : Prop where
  ok : OkC chs2 cls2
  ch : chs2.Perm (chs.filter fun x => !decide (x.1 ∈ ms))
  ks : (keysT cls2).Perm (keysT cls)
  le : ∀ x ∈ cls2, ∃ z ∈ cls, z.1 = x.1 ∧ x.2.2.1 = z.2.2.1 ∧ ∀ m, m ∈ x.2.2.2 ↔ m ∈ z.2.2.2 ∧ m ∉ ms
theorem Less8.get {ms : List PySem.Str} {chs chs2 : Chs} {cls cls2 : Cls'} (h : Less8 ms chs cls chs2 cls2) (nd : (keysT cls).Nodup) (c : PySem.Str) : (getT cls c = none ∧ getT cls2 c = none) ∨ ∃ v v2, getT cls c = some v ∧ getT cls2 c = some v2 ∧ v2.2.1 = v.2.1 ∧ ∀ m, m ∈ v2.2.2 ↔ m ∈ v.2.2 ∧ m ∉ ms := by
  cases e2 : getT cls2 c with
  | none => exact .inl ⟨getT_none.mpr fun z => getT_none.mp e2 (h.ks.mem_iff.mpr z), rfl⟩
  | some v2 =>
    obtain ⟨z, hz, z1, z2, z3⟩ := h.le _ (getT_in e2)
    have e1 : getT cls c = some z.2 := getT_mem nd (by rw [← show z.1 = c from z1]; exact hz)
    exact .inr ⟨_, _, e1, rfl, z2, z3⟩
theorem Less8.like {ms : List PySem.Str} {chs chs2 chs3 : Chs} {cls cls2 cls3 : Cls'} (nd : (keysT cls).Nodup) (h2 : Less8 ms chs cls chs2 cls2) (h3 : Less8 ms chs cls chs3 cls3) : LikeK chs2 cls2 chs3 cls3 where
  ks := h3.ks.trans h2.ks.symm
  cap := fun m => by
    show ((getT chs2 m).getD 0).toNat = ((getT chs3 m).getD 0).toNat
    rw [getT_perm h3.ok.nd (h2.ch.trans h3.ch.symm)]
  wt := fun c => by
    unfold wOf
    rcases h2.get nd c with ⟨a, b⟩ | ⟨v, v2, a, b, e, _⟩
    · rcases h3.get nd c with ⟨_, d⟩ | ⟨_, _, d, _⟩
      · rw [b, d]
      · rw [a] at d; cases d
    · rcases h3.get nd c with ⟨d, _⟩ | ⟨u, v3, d, f, g, _⟩
      · rw [a] at d; cases d
      · rw [a] at d; cases d
        rw [b, f]
        show v2.2.1 = v3.2.1
        rw [e, g]
  hd := fun c m => by
    show m ∈ ((getT cls2 c).map (·.2.2)).getD [] ↔ m ∈ ((getT cls3 c).map (·.2.2)).getD []
    rcases h2.get nd c with ⟨a, b⟩ | ⟨v, v2, a, b, _, e⟩
    · rcases h3.get nd c with ⟨_, d⟩ | ⟨_, _, d, _⟩
      · rw [b, d]
      · rw [a] at d; cases d
    · rcases h3.get nd c with ⟨d, _⟩ | ⟨u, v3, d, f, _, g⟩
      · rw [a] at d; cases d
      · rw [a] at d; cases d
        rw [b, f]
        show m ∈ v2.2.2 ↔ m ∈ v3.2.2
        rw [e, g]
/-- what is kept without some masts -/
def KpL (ms : List PySem.Str) (chs : Chs) (cls : Cls') (lot : List PySem.Str) : Prop := ∃ chs2 cls2, Less8 ms chs cls chs2 cls2 ∧ KeptOf chs2 cls2 lot
theorem KeptOf.nodup {chs : Chs} {cls : Cls'} {lot : List PySem.Str} (h : KeptOf chs cls lot) : lot.Nodup := by obtain ⟨_, _, _, x, _⟩ := h; exact x
theorem KeptOf.sub8 {chs : Chs} {cls : Cls'} {lot : List PySem.Str} (h : KeptOf chs cls lot) {x : PySem.Str} (hx : x ∈ lot) : x ∈ keysT cls := by
  obtain ⟨ys, pm, _, _, hm⟩ := h
  exact pm.mem_iff.mp (gr_sub _ _ x ((hm x).mp hx))
theorem kept_same8 {chs : Chs} {cls : Cls'} (ok : OkC chs cls) {lot lot' : List PySem.Str} (h : KeptOf chs cls lot) (h' : KeptOf chs cls lot') {x : PySem.Str} (hx : x ∈ lot) : x ∈ lot' :=
  keep_of ok.ndc ok.ndc h h' hx (h.sub8 hx) (fun y hy _ l => ⟨hy, l⟩) fun P P' nP nP' hP xP s => gr_fewer nP nP' (fun y hy => (hP y hy).1) xP s
theorem KpL.same {ms : List PySem.Str} {chs : Chs} {cls : Cls'} {lot lot' : List PySem.Str} (nd : (keysT cls).Nodup) (h : KpL ms chs cls lot) (h' : KpL ms chs cls lot') {x : PySem.Str} (hx : x ∈ lot) : x ∈ lot' := by
  obtain ⟨c2, l2, a, b⟩ := h
  obtain ⟨c3, l3, d, e⟩ := h'
  exact kept_same8 d.ok ((a.like nd d).kept b) e hx
theorem KpL.nodup {ms : List PySem.Str} {chs : Chs} {cls : Cls'} {lot : List PySem.Str} (h : KpL ms chs cls lot) : lot.Nodup := by
  obtain ⟨_, _, _, b⟩ := h
  exact b.nodup
theorem KpL.len {ms : List PySem.Str} {chs : Chs} {cls : Cls'} {lot lot' : List PySem.Str} (nd : (keysT cls).Nodup) (h : KpL ms chs cls lot) (h' : KpL ms chs cls lot') : lot.length = lot'.length :=
  Nat.le_antisymm (len_sub h.nodup fun _ hx => h.same nd h' hx) (len_sub h'.nodup fun _ hx => h'.same nd h hx)
theorem less_nil {chs : Chs} {cls : Cls'} (ok : OkC chs cls) : Less8 [] chs cls chs cls :=
  ⟨ok, by rw [List.filter_eq_self.mpr fun _ _ => by simp], .refl _, fun x hx => ⟨x, hx, rfl, rfl, fun m => by simp⟩⟩
/-- how many are lost without some masts -/
def LostR (ms : List PySem.Str) (chs : Chs) (cls : Cls') (k : Int) : Prop := ∃ lot, KpL ms chs cls lot ∧ k = (cls.length : Int) - (lot.length : Int)
theorem LostR.uniq {ms : List PySem.Str} {chs : Chs} {cls : Cls'} {k j : Int} (nd : (keysT cls).Nodup) (h : LostR ms chs cls k) (h' : LostR ms chs cls j) : k = j := by
  obtain ⟨l, a, rfl⟩ := h
  obtain ⟨l', b, rfl⟩ := h'
  rw [a.len nd b]
/-- the first row with the most lost -/
def WorstR (Ls : List (List PySem.Str)) (chs : Chs) (cls : Cls') (k : Int) (ms : List PySem.Str) : Prop := ∃ P Q, Ls = P ++ ms :: Q ∧ LostR ms chs cls k ∧ (∀ m ∈ P, ∀ j, LostR m chs cls j → j < k) ∧ ∀ m ∈ Q, ∀ j, LostR m chs cls j → j ≤ k
/-- the calls that are kept without any of the rows -/
def SureR (Ls : List (List PySem.Str)) (chs : Chs) (cls : Cls') (xs : List PySem.Str) : Prop := ∃ p : PySem.Str → Bool, xs = (keysT cls).filter p ∧ ∀ x ∈ keysT cls, (p x = true ↔ ∀ ms ∈ Ls, ∀ lot, KpL ms chs cls lot → x ∈ lot)
end Mc
namespace Mc
open PySem L2 PySem.Spec PyProof.Rows Evl
/-! slices, sums, reversals, sorted copies of sequences, as pure values -/
theorem cut_take (xs : List V) (n : Nat) : cutV xs none (some (n : Nat)) = xs.take n := by
  unfold cutV
  rw [show HT.sIx xs.length 0 none = 0 from rfl, HT.sIx_nat, List.drop_zero, Nat.sub_zero]
  by_cases h : n ≤ xs.length
  · rw [Nat.min_eq_left h]
  · rw [Nat.min_eq_right (by omega), List.take_of_length_le (Nat.le_refl _), List.take_of_length_le (by omega)]
theorem cut_drop (xs : List V) (n : Nat) : cutV xs (some (n : Nat)) none = xs.drop n := by
  unfold cutV
  rw [show HT.sIx xs.length xs.length none = xs.length from rfl, HT.sIx_nat]
  by_cases h : n ≤ xs.length
  · rw [Nat.min_eq_left h]
    exact List.take_of_length_le (by rw [List.length_drop]; exact Nat.le_refl _)
  · rw [Nat.min_eq_right (by omega), Nat.sub_self, List.take_zero, List.drop_eq_nil_of_le (by omega)]
theorem cut_last (xs : List V) : cutV xs none (some (-1)) = xs.dropLast := by
  unfold cutV
  rw [show HT.sIx xs.length 0 none = 0 from rfl, List.drop_zero, Nat.sub_zero, List.dropLast_eq_take]
  have : HT.sIx xs.length xs.length (some (-1)) = xs.length - 1 := by
    show (if (-1 : Int) < 0 then (-1 + (xs.length : Int)).toNat else min (-1 : Int).toNat xs.length) = _
    rw [if_pos (by decide)]; omega
  rw [this]
section
variable {K : PySem.W.Frag} {σ : L2.St} {H : Hp} {ta tb te : TE} {a : Addr} {xs ys : List V} {tl th : TO} {lo hi : Option Int}
theorem el_cat (ha : EvL ta σ H xs) (hb : EvL tb σ H ys) (hz : xs.length + ys.length ≤ 100000) : EvL (tOp rCat ta tb) σ H (xs ++ ys) := fun H1 e Q q =>
  ha H1 e _ fun p H2 hp e2 h2 => hb H2 (e.trans e2) _ fun r H3 hr e3 h3 => ⟨p, r, xs, ys, rfl, rfl, e3 _ _ h2, h3, sz_of hz, fun g hg => q g _ (fresh_back (e2.trans e3) hg) ((e2.trans e3).trans (Ex.new hg)) upd_same⟩
/-- the first, the second one a list that stands -/
theorem el_cat1 (ha : Ev ta σ H (.ref a)) (h : H a = some (.lst xs)) (hb : EvL tb σ H ys) (hz : xs.length + ys.length ≤ 100000) : EvL (tOp rCat ta tb) σ H (xs ++ ys) := fun H1 e Q q =>
  ha H1 e _ fun H2 e2 => hb H2 (e.trans e2) _ fun r H3 hr e3 h3 => ⟨a, r, xs, ys, rfl, rfl, ((e.trans e2).trans e3) _ _ h, h3, sz_of hz, fun g hg => q g _ (fresh_back (e2.trans e3) hg) ((e2.trans e3).trans (Ex.new hg)) upd_same⟩
theorem el_cat2 (ha : EvL ta σ H xs) (hb : Ev tb σ H (.ref a)) (h : H a = some (.lst ys)) (hz : xs.length + ys.length ≤ 100000) : EvL (tOp rCat ta tb) σ H (xs ++ ys) := fun H1 e Q q =>
  ha H1 e _ fun p H2 hp e2 h2 => hb H2 (e.trans e2) _ fun H3 e3 => ⟨p, a, xs, ys, rfl, rfl, e3 _ _ h2, ((e.trans e2).trans e3) _ _ h, sz_of hz, fun g hg => q g _ (fresh_back (e2.trans e3) hg) ((e2.trans e3).trans (Ex.new hg)) upd_same⟩
theorem eu_catA (ha : EvU ta σ H xs) (hb : EvU tb σ H ys) (nx : xs ≠ []) (ny : ys ≠ []) (hz : xs.length + ys.length ≤ 100000) : EvU (tOp (rCatA K) ta tb) σ H (xs ++ ys) := fun H1 e Q q =>
  ha H1 e _ fun p H2 hp e2 h2 => hb H2 (e.trans e2) _ fun r H3 hr e3 h3 => ⟨p, r, xs, ys, rfl, rfl, st_of (e3 _ _ h2), st_of h3, sz_of hz, fun z => absurd z nx, fun _ z => absurd z ny, fun _ _ g hg => q g _ (fresh_back (e2.trans e3) hg) ((e2.trans e3).trans (Ex.new hg)) upd_same⟩
theorem eu_slT (h : Ev te σ H (.ref a)) (h1 : EvO tl σ H lo) (h2 : EvO th σ H hi) (hs : SqT K H a xs) (nw : ¬ (HT.sIx xs.length 0 lo = 0 ∧ HT.sIx xs.length xs.length hi = xs.length)) : EvU (tSl (rSlT K) te tl th) σ H (cutV xs lo hi) := fun H1 e _ q =>
  h H1 e _ fun H2 e2 => h1 H2 (e.trans e2) _ fun H3 e3 => h2 H3 ((e.trans e2).trans e3) _ fun H4 e4 => ⟨a, xs, rfl, ex_t (((e.trans e2).trans e3).trans e4) hs, nw, fun p hp => q p _ (fresh_back ((e2.trans e3).trans e4) hp) (((e2.trans e3).trans e4).trans (Ex.new hp)) upd_same⟩
/-- tuple(xs) of a list -/
theorem eu_tupL (h : Ev te σ H (.ref a)) (hs : SqL K H a xs) : EvU (tThen te (kTup K)) σ H xs := fun H1 e _ q =>
  h H1 e _ fun H2 e2 => .inl ⟨a, xs, rfl, ex_l (e.trans e2) hs, fun p hp => q p _ (fresh_back e2 hp) (e2.trans (Ex.new hp)) upd_same⟩
theorem el_revL (h : Ev te σ H (.ref a)) (hs : SqL K H a xs) : EvL (tRevL K te) σ H xs.reverse := fun H1 e _ q =>
  h H1 e _ fun H2 e2 => ⟨a, xs, rfl, ex_l (e.trans e2) hs, fun p hp => q p _ (fresh_back e2 hp) (e2.trans (Ex.new hp)) upd_same⟩
/-- sorted(xs) of a new list of ints -/
theorem el_srtI {ns zs : List Int} (h : EvL te σ H (ns.map V.int)) (hz : ns.length < 64) (pm : zs.Perm ns) (srt : zs.Pairwise (· ≤ ·)) : EvL (tCB (rSorted K) (tCons te tNil)) σ H (zs.map V.int) := fun H1 e Q q =>
  h H1 e _ fun l H2 hl e2 h2 => ⟨l, ns, rfl, sq_of h2, hz, fun ys p pm2 s hp => by
    have : ys = zs := List.Perm.eq_of_pairwise (le := (· ≤ ·)) (fun a b _ _ h k => Int.le_antisymm h k) s srt (pm2.trans pm.symm)
    rw [this]
    exact q p _ (fresh_back e2 hp) (e2.trans (Ex.new hp)) upd_same⟩
theorem mem_sortI (ns : List Int) : ∃ zs : List Int, zs.Perm ns ∧ zs.Pairwise (· ≤ ·) :=
  ⟨ns.mergeSort (fun a b => decide (a ≤ b)), List.mergeSort_perm _ _, (List.pairwise_mergeSort (le := fun a b => decide (a ≤ b)) (fun a b c h1 h2 => by simp at *; omega) (fun a b => by simp; omega) ns).imp fun h => by simpa using h⟩
theorem inV_int {x : Int} {xs : List Int} : inV (.int x) (xs.map V.int) = decide (x ∈ xs) := by
  unfold inV
  induction xs with
  | nil => rfl
  | cons y ys ih =>
    rw [List.map_cons, List.any_cons, ih]
    by_cases e : x = y
    · subst e
      have : eqV (V.int x) (V.int x) = true := by simp [eqV]
      simp [this]
    · have : eqV (V.int y) (V.int x) = false := by
        simp [eqV]
        exact fun z => e z.symm
      simp [this, e]
theorem flat_ints (xs : List Int) : (xs.map V.int).all flatV = true := by
  rw [List.all_map, List.all_eq_true]
  exact fun x _ => rfl
end
end Mc
namespace Mc
open PySem L2 PySem.Spec PyProof.Rows Gd Evl Cmb
/-! lost_calls, worst_falls, sure_calls -/
abbrev sWorst : Stmt := top 29
abbrev sSure : Stmt := top 30
theorem lup_head (ks : List PySem.Str) (n : Nat) : ∃ R, lotsUp ks n = [] :: R := by
  unfold lotsUp
  rw [List.range_succ_eq_map, List.flatMap_cons]
  have e : cmb 0 ks = [[]] := by cases ks <;> rfl
  rw [e]
  exact ⟨_, rfl⟩
theorem less_of {ms : List PySem.Str} {chs chs2 : Chs} {cls cls2 : Cls'} (ok : OkC chs2 cls2) (p1 : chs2.Perm (chs.filter fun x => !decide (x.1 ∈ ms))) (p2 : (keysT cls2).Perm (keysT cls)) (less : LessC ms cls cls2) : Less8 ms chs cls chs2 cls2 :=
  ⟨ok, p1, p2, fun x hx => by
    obtain ⟨z, hz, e1, e2, e3, _⟩ := less x hx
    exact ⟨z, hz, e1, e2, fun m => by rw [e3.mem_iff, List.mem_filter]; simp⟩⟩
theorem lenK {cls cls2 : Cls'} (p2 : (keysT cls2).Perm (keysT cls)) : cls2.length = cls.length := by
  have := p2.length_eq
  unfold keysT at this
  rwa [List.length_map, List.length_map] at this
theorem at08 (v : V) (l : List V) : atI (v :: l) 0 = some v := by
  unfold atI
  rw [show (0 : Int) = ((0 : Nat) : Int) from rfl, ixN_nat (by simp : 0 < (v :: l).length)]
  rfl
theorem q_asgJ8 {te : TE} {tz : TS} {D : Ends} {σ : L2.St} {H : Hp} {i : Nat} (R : V → Hp → Prop) (tail : ∀ v H', R v H' → tz D (σ.set i (some v)) H') (b : (∀ v H', R v H' → tz D (σ.set i (some v)) H') → te σ H fun v H' => tz D (σ.set i (some v)) H') : tSeq (tAsg te (gName i)) tz D σ H := b tail
/-- the worst of the first j rows -/
def BW (L : List (List PySem.Str)) (chs : Chs) (cls : Cls') (j : Nat) (k : Int) (ms : List PySem.Str) : Prop := (j = 0 ∧ ms = [] ∧ LostR [] chs cls k) ∨ WorstR (L.take j) chs cls k ms
theorem BW.yes {L : List (List PySem.Str)} {chs : Chs} {cls : Cls'} {j : Nat} {k k0 : Int} {ms m0 : List PySem.Str} (nd : (keysT cls).Nodup) (hL : ∃ R, L = [] :: R) (hj : L[j]? = some m0) (h : BW L chs cls j k ms) (h0 : LostR m0 chs cls k0) (gt : k0 > k) : BW L chs cls (j + 1) k0 m0 := by
  rcases h with ⟨rfl, rfl, h1⟩ | ⟨P, Q, e, h1, h2, h3⟩
  · obtain ⟨R, rfl⟩ := hL
    cases hj
    have := h0.uniq nd h1
    omega
  · refine .inr ⟨L.take j, [], by rw [List.take_add_one, hj]; rfl, h0, fun m hm i hi => ?_, fun m hm => nomatch hm⟩
    rw [e] at hm
    rcases List.mem_append.mp hm with z | z
    · have := h2 m z i hi; omega
    · rcases List.mem_cons.mp z with z | z
      · rw [z] at hi; have := hi.uniq nd h1; omega
      · have := h3 m z i hi; omega
theorem BW.no {L : List (List PySem.Str)} {chs : Chs} {cls : Cls'} {j : Nat} {k k0 : Int} {ms m0 : List PySem.Str} (nd : (keysT cls).Nodup) (hL : ∃ R, L = [] :: R) (hj : L[j]? = some m0) (h : BW L chs cls j k ms) (h0 : LostR m0 chs cls k0) (gt : ¬ k0 > k) : BW L chs cls (j + 1) k ms := by
  rcases h with ⟨rfl, rfl, h1⟩ | ⟨P, Q, e, h1, h2, h3⟩
  · obtain ⟨R, rfl⟩ := hL
    exact .inr ⟨[], [], rfl, h1, fun m hm => (nomatch hm), fun m hm => nomatch hm⟩
  · refine .inr ⟨P, Q ++ [m0], by rw [List.take_add_one, hj, e, List.append_assoc]; rfl, h1, h2, fun m hm i hi => ?_⟩
    rcases List.mem_append.mp hm with z | z
    · exact h3 m z i hi
    · rw [List.mem_singleton.mp z] at hi; have := hi.uniq nd h0; omega
def spLost (K : PySem.W.Frag) (CS CC : Addr) : Sp := fun vs H Q _ => ∃ (sc : Addr) (chs : Chs) (cls : Cls'), vs = [.ref sc] ∧ SceneH K CS CC H sc chs cls ∧ (∃ dx a b, H sc = some (.ins CS dx [("channels", .ref a), ("calls", .ref b)]) ∧ H b = some (.dK (kvT vO cls))) ∧ OkC chs cls ∧
  ∀ (lot : List PySem.Str) (H' : Hp), KeptOf chs cls lot → Same H H' → Q (.int ((cls.length : Int) - (lot.length : Int))) H'
def spWorst (K : PySem.W.Frag) (CS CC : Addr) : Sp := fun vs H Q _ => ∃ (sc : Addr) (n : Int) (chs : Chs) (cls : Cls'), vs = [.ref sc, .int n] ∧ SceneH K CS CC H sc chs cls ∧ ScnX CS H sc chs cls ∧ OkC chs cls ∧ chs.length ≤ 8 ∧ 0 ≤ n ∧ n ≤ (chs.length : Int) ∧
  ∀ (t tm : Addr) (k : Int) (ms : List PySem.Str) (H' : Hp), Ex H H' → H' t = some (.tup [.int k, .ref tm]) → H' tm = some (.tup (ms.map V.str)) → WorstR (lotsUp (keysT chs) n.toNat) chs cls k ms → Q (.ref t) H'
/-- worst_falls of a number that is wrong: BadName(number) -/
def spWorstX (CS CB : Addr) : Sp := fun vs H _ E => ∃ (sc : Addr) (n : Int) (chs : Chs), vs = [.ref sc, .int n] ∧ (∃ dx a b, H sc = some (.ins CS dx [("channels", .ref a), ("calls", .ref b)]) ∧ H a = some (.dK (kvT vI chs))) ∧ ¬ (0 ≤ n ∧ n ≤ (chs.length : Int)) ∧ ∀ d H', Same H H' → H' d = some (.xd [("name", .int n)]) → E (.ref CB) (some d) H'
def CalBd (P : Program) (w : World) (K : PySem.W.Frag) (mg : PySem.Str → Option Value) (base : Heap) (CB : Addr) (f : PySem.Str) : Prop :=
  ∃ (fI : Addr) (fd : FuncData), PySem.W.findIn K (.ref CB) "__init__" = some (some (.ref fI)) ∧ PySem.W.isFn K (.ref fI) = true ∧ Binds K fd ["self", f] [] ∧ FnOk P w K mg base CX0 1 fI fd ["self", f] (spBadI CB f)
def spSure (K : PySem.W.Frag) (CS CC : Addr) : Sp := fun vs H Q _ => ∃ (sc : Addr) (n : Int) (chs : Chs) (cls : Cls'), vs = [.ref sc, .int n] ∧ SceneH K CS CC H sc chs cls ∧ ScnX CS H sc chs cls ∧ OkC chs cls ∧ chs.length ≤ 8 ∧ 0 ≤ n ∧ n ≤ 100 ∧
  ∀ (t : Addr) (xs : List PySem.Str) (H' : Hp), Ex H H' → H' t = some (.tup (xs.map V.str)) → SureR (lotsUp (keysT chs) n.toNat) chs cls xs → Q (.ref t) H'
section
variable {P : Program} {w : World} {K : PySem.W.Frag} {mg : PySem.Str → Option Value} {base : Heap}
theorem scLost : FnScope ["scene"] ["scene"] (defScope sLost) := ⟨rfl, rfl, rfl, by decide +kernel, rfl, by decide +kernel, by decide +kernel⟩
theorem ok_lost {f CS CC : Addr} {fd : FuncData} (F : Fun K "lost_calls" "lost_calls" sLost f fd) (T : TxWo K mg CS CC) (c_kept : Cal P w K mg base 7 "kept" ["scene"] (spKept K CS CC)) : FnOk P w K mg base CX0 8 f fd ["scene"] (spLost K CS CC) := by
  refine F.ok scLost (fun vs H Q E h => ?_) (fun cdv A outer s H vs Q E hr h => ?_)
  · obtain ⟨sc, chs, cls, rfl, _⟩ := h
    rfl
  · obtain ⟨sc, chs, cls, rfl, hC, ⟨dx, a, b, h1, h3⟩, ok, q⟩ := h
    refine ⟨_, (pss_one (ps_ret (pe_op op_sub (pe_callB call_lenD (by rfl) T.len PySem.boot_len (pa_cons (pe_fld (pv 0) rfl) pa_nil)) (pe_callB call_len_seq (by rfl) T.len PySem.boot_len (pa_cons (pe_cal c_kept (hr.mono (by decide)) rfl (pa_cons (pv 0) pa_nil)) pa_nil))))), ?_⟩
    refine ⟨_, rfl, sc, CS, dx, _, _, rfl, h1, T.clS, T.nCa, rfl, b, _, rfl, h3, ?_⟩
    refine ⟨_, rfl, sc, chs, cls, rfl, hC, ok, fun t lot H' hk ht s => ⟨t, lot.map V.str, rfl, .inr (SqT.of ht), _, _, rfl, rfl, ?_⟩⟩
    have e1 : ((kvT vO cls).length : Int) = (cls.length : Int) := by unfold kvT; rw [List.length_map]
    have e2 : ((lot.map V.str).length : Int) = (lot.length : Int) := by rw [List.length_map]
    show Q (.int (((kvT vO cls).length : Int) - ((lot.map V.str).length : Int))) H'
    rw [e1, e2]
    exact q lot H' hk s
theorem scWst : FnScope ["scene", "most", "worst", "masts", "lost"] ["scene", "most"] (defScope sWorst) := ⟨rfl, rfl, rfl, by decide +kernel, rfl, by decide +kernel, by decide +kernel⟩
theorem ok_worst {f CS CC : Addr} {fd : FuncData} (F : Fun K "worst_falls" "worst_falls" sWorst f fd) (T : TxWo K mg CS CC) (c_is_number : Cal P w K mg base 1 "is_number" ["thing", "low", "high"] spIsNum) (c_lost_calls : Cal P w K mg base 8 "lost_calls" ["scene"] (spLost K CS CC)) (c_without : Cal P w K mg base 6 "without" ["scene", "masts"] (spWithout K CS CC))
    (c_lots_up_to : Cal P w K mg base 1 "lots_up_to" ["names", "most"] (spLup K)) : FnOk P w K mg base CX0 9 f fd ["scene", "most"] (spWorst K CS CC) := by
  refine F.ok scWst (fun vs H Q E h => ?_) (fun cdv A outer s H vs Q E hr h => ?_)
  · obtain ⟨sc, n, chs, cls, rfl, _⟩ := h
    rfl
  · obtain ⟨sc, n, chs, cls, rfl, hC, hX, ok, hl8, n0, n1, q⟩ := h
    have hu := hu_of hr
    refine ⟨_, (pss_cons (ps_if (pt_not (pt_val (pe_cal c_is_number (hr.mono (by decide)) rfl (pa_cons (pv 1) (pa_cons pe_int (pa_cons (pe_callB call_lenD (by rfl) T.len PySem.boot_len (pa_cons (pe_fld (pv 0) rfl) pa_nil)) pa_nil))))))
        (pss_one ps_no)
        pss_nil)
      (pss_cons (ps_set (i := 2) scWst.nd rfl (Or.inl rfl) (pe_tup (pa_cons (pe_cal c_lost_calls (hr.mono (by decide)) rfl (pa_cons (pv 0) pa_nil)) (pa_cons (pe_tup pa_nil) pa_nil))))
      (pss_cons (ps_for PassesOwn.never rfl (pi_list (pe_cal c_lots_up_to (hr.mono (by decide)) rfl (pa_cons (pe_fld (pv 0) rfl) (pa_cons (pv 1) pa_nil)))) (pg_name (i := 3) scWst.nd rfl (Or.inl rfl))
        (pss_cons (ps_set (i := 4) scWst.nd rfl (Or.inl rfl) (pe_cal c_lost_calls (hr.mono (by decide)) rfl (pa_cons (pe_cal c_without (hr.mono (by decide)) rfl (pa_cons (pv 0) (pa_cons (pv 3) pa_nil))) pa_nil)))
        (pss_one (ps_if (pt_cmpR op_gt (pv 4) (pe_ix ix_tup (pv 2) pe_int (fun _ _ => rfl)) (nomark _))
          (pss_one (ps_set (i := 2) scWst.nd rfl (Or.inl rfl) (pe_tup (pa_cons (pv 4) (pa_cons (pv 3) pa_nil)))))
          pss_nil))))
      (pss_one (ps_ret (pv 2)))))), ?_⟩
    obtain ⟨dx, a, b, h1, h2, h3⟩ := hX.here
    have el : ((kvT vI chs).length : Int) = (chs.length : Int) := by unfold kvT; rw [List.length_map]
    refine ⟨_, rfl, _, rfl, sc, CS, dx, _, _, rfl, h1, T.clS, T.nCh, rfl, a, _, rfl, h2, n, 0, _, rfl, _, rfl, ?_⟩
    dsimp only
    have eb : (decide (0 ≤ n) && decide (n ≤ ((kvT vI chs).length : Int))) = true := by rw [el, decide_eq_true n0, decide_eq_true n1]; rfl
    rw [eb]
    refine ite2 (fun z => absurd (show false = true from z) (by decide)) (fun _ => ?_)
    dsimp only [tNext]
    -- what is lost as things are
    refine q_asgJ8 (fun v H' => ∃ (t tm : Addr) (k : Int), v = .ref t ∧ H' t = some (.tup [.int k, .ref tm]) ∧ H' tm = some (.tup (([] : List PySem.Str).map V.str)) ∧ LostR [] chs cls k ∧ Ex H H') (fun v H1 hv => ?_) fun q1 => ?_
    rotate_left
    · refine ⟨_, rfl, sc, chs, cls, rfl, hC, ⟨dx, a, b, h1, h3⟩, ok, fun lot H1 hk x1 => ⟨(by show 0 ≤ sizeLine; decide), fun tm htm => ⟨(by show 2 ≤ sizeLine; decide), fun t ht => ?_⟩⟩⟩
      have x2 := Ex.trans x1 (Ex.new (o := .tup []) htm)
      have nt : tm ≠ t := fun e => by rw [← e, upd_same] at ht; cases ht
      exact q1 _ _ ⟨t, tm, _, rfl, upd_same, (by rw [upd_ne nt]; exact upd_same), ⟨lot, ⟨chs, cls, less_nil ok, hk⟩, rfl⟩, x2.trans (Ex.new ht)⟩
    obtain ⟨t0, tm0, k0, rfl, ht0, htm0, lo0, x1⟩ := hv
    refine ⟨_, rfl, sc, CS, dx, _, _, rfl, x1 _ _ h1, T.clS, T.nCh, rfl, _, rfl, a, n, chs, rfl, .inl (x1 _ _ h2), hX.sch, hl8, n0, by omega, fun p as H2 x2 hp hp2 hT2 => ⟨p, rfl, ⟨_, SqL.of hp2⟩, ?_⟩⟩
    have x02 := x1.trans x2
    have ll : as.length = (lotsUp (keysT chs) n.toNat).length := Paired.length hT2
    refine for_list (K := K) (xs := as.map V.ref) (fun j σ' H' => ∃ (t tm : Addr) (k : Int) (ms : List PySem.Str) (v3 v4 : Option V), σ' = [some (.ref sc), some (.int n), some (.ref t), v3, v4] ∧ Ex H2 H' ∧ H' t = some (.tup [.int k, .ref tm]) ∧ H' tm = some (.tup (ms.map V.str)) ∧ BW (lotsUp (keysT chs) n.toNat) chs cls j k ms)
      ⟨t0, tm0, k0, [], _, _, rfl, Ex.refl _, x2 _ _ ht0, x2 _ _ htm0, .inl ⟨rfl, rfl, lo0⟩⟩ (fun j σ' H' _ ⟨_, _, _, _, _, _, _, x, _⟩ => SqL.of (x _ _ hp2)) ?_ ?_
    · rintro j x σ' H3 hx ⟨t, tm, k, ms, v3, v4, rfl, x3, ht, htm, hB⟩
      rw [List.getElem?_map] at hx
      obtain ⟨ma, hma, rfl⟩ := Option.map_eq_some_iff.mp hx
      obtain ⟨m0, hm0, hma2⟩ := TupsAt.get hT2 hma
      have hma3 := x3 _ _ hma2
      have x03 := x02.trans x3
      have hX3 := hX.same x03
      dsimp only [gName]
      refine q_asgJ8 (fun v H' => ∃ k0 : Int, v = .int k0 ∧ LostR m0 chs cls k0 ∧ Ex H3 H') (fun v H4 hv => ?_) fun q1 => ?_
      rotate_left
      · refine ⟨_, rfl, _, rfl, sc, ma, m0, chs, cls, rfl, hC.same x03, ⟨dx, a, b, x03 _ _ h1, .inl (x03 _ _ h2), x03 _ _ h3⟩, ok, .inl hma3, fun sc2 chs2 cls2 H4 _ hS2 hX2 ok2 p1 p2 less x4 => ?_⟩
        obtain ⟨dx2, a2, b2, g1, g2, g3⟩ := hX2.here
        exact ⟨sc2, chs2, cls2, rfl, hS2, ⟨dx2, a2, b2, g1, g3⟩, ok2, fun lot H5 hk x5 => q1 _ _ ⟨_, rfl, ⟨lot, ⟨chs2, cls2, less_of ok2 p1 p2 less, hk⟩, by rw [lenK p2]⟩, Ex.trans x4 x5⟩⟩
      obtain ⟨k1, rfl, lo1, x4⟩ := hv
      have ht4 := x4 _ _ ht
      refine s_if (b := decide (k1 > k)) ?_ (fun e H5 x5 => ?_) fun e H5 x5 => ?_
      · exact et_test (ev_op (ev_var rfl) (ev_op (ev_var rfl) ev_c (rv_ixT (st_of ht4) (at08 _ _))) rv_I0)
      · exact s_asgU (eu_tup (ea_cons (ev_var rfl) (ea_cons (ev_var rfl) ea_nil)) (by show 2 ≤ 100000; decide)) fun p6 H6 hp6 x6 hp66 => ⟨p6, ma, k1, m0, _, _, rfl, x3.trans (x4.trans (x5.trans x6)), hp66, x6 _ _ (x5 _ _ (x4 _ _ hma3)), hB.yes ok.ndc (lup_head _ _) hm0 lo1 (of_decide_eq_true e)⟩
      · exact ⟨t, tm, k, ms, _, _, rfl, x3.trans (x4.trans x5), x5 _ _ ht4, x5 _ _ (x4 _ _ htm), hB.no ok.ndc (lup_head _ _) hm0 lo1 (of_decide_eq_false e)⟩
    · rintro σ' H3 ⟨t, tm, k, ms, v3, v4, rfl, x3, ht, htm, hB⟩
      refine ⟨_, rfl, q t tm k ms H3 (x02.trans x3) ht htm ?_⟩
      rw [List.length_map, ll] at hB
      rcases hB with ⟨z, _⟩ | hB
      · obtain ⟨R, e⟩ := lup_head (keysT chs) n.toNat
        rw [e] at z; cases z
      · rw [List.take_length] at hB; exact hB
theorem ok_worstX {f CS CC CB : Addr} {fd : FuncData} (F : Fun K "worst_falls" "worst_falls" sWorst f fd) (T : TxWo K mg CS CC) (TB : OexB K CB) (mgB : mg "BadName" = some (.ref CB)) (c_is_number : Cal P w K mg base 1 "is_number" ["thing", "low", "high"] spIsNum) (cB : CalBd P w K mg base CB "name") :
    FnOk P w K mg base (L2.CX P w) 4 f fd ["scene", "most"] (spWorstX CS CB) := by
  obtain ⟨fI, fdI, iC, tI, bI, FI⟩ := cB
  refine F.okX scWst (fun vs H Q E h => ?_) (fun cdv A outer s H vs Q E hr h => ?_)
  · obtain ⟨sc, n, chs, rfl, _⟩ := h
    rfl
  · obtain ⟨sc, n, chs, rfl, ⟨dx, a, b, h1, h2⟩, hn, q⟩ := h
    refine ⟨_, (pss_cons (ps_if (pt_not (pt_val (pe_cal c_is_number (hr.mono (by decide)) (by rfl) (pa_cons (pv 1) (pa_cons pe_int (pa_cons (pe_callB call_lenD (by rfl) T.len PySem.boot_len (pa_cons (pe_fld (pv 0) rfl) pa_nil)) pa_nil))))))
        (pss_one (ps_raise rfl (takes_of rfl rfl rfl rfl) (pmk_B TB iC tI FI (hr.mono (by decide)) bI rfl mgB (pa_cons (pv 1) pa_nil))))
        pss_nil)
      (pss_cons ps_no (pss_cons ps_no (pss_one ps_no)))), ?_⟩
    have el : ((kvT vI chs).length : Int) = (chs.length : Int) := by unfold kvT; rw [List.length_map]
    refine ⟨_, rfl, _, rfl, sc, CS, dx, _, _, rfl, h1, T.clS, T.nCh, rfl, a, _, rfl, h2, n, 0, _, rfl, _, rfl, ?_⟩
    dsimp only
    have eb : (decide (0 ≤ n) && decide (n ≤ ((kvT vI chs).length : Int))) = false := by
      rw [el]
      by_cases c : 0 ≤ n
      · rw [decide_eq_true c, decide_eq_false fun d => hn ⟨c, d⟩]; rfl
      · rw [decide_eq_false c]; rfl
    rw [eb]
    refine ite2 (fun _ => ?_) (fun z => absurd (show true = false from by simpa using z) (by decide))
    refine ⟨_, rfl, mkB_one fun d hd => ?_⟩
    exact q d _ (Same.new hd) upd_same
abbrev nmSu : List PySem.Str := ["scene", "most", "sure", "masts", "lot", "name"]
theorem scSu : FnScope nmSu ["scene", "most"] (defScope sSure) := ⟨rfl, rfl, rfl, by decide +kernel, rfl, by decide +kernel, by decide +kernel⟩
theorem ok_sure {f CS CC : Addr} {fd : FuncData} (F : Fun K "sure_calls" "sure_calls" sSure f fd) (T : TxWo K mg CS CC) (hlist : mg "list" = none) (htup : mg "tuple" = none) (c_kept : Cal P w K mg base 7 "kept" ["scene"] (spKept K CS CC)) (c_without : Cal P w K mg base 6 "without" ["scene", "masts"] (spWithout K CS CC))
    (c_lots_up_to : Cal P w K mg base 1 "lots_up_to" ["names", "most"] (spLup K)) : FnOk P w K mg base CX0 9 f fd ["scene", "most"] (spSure K CS CC) := by
  refine F.ok scSu (fun vs H Q E h => ?_) (fun cdv A outer s H vs Q E hr h => ?_)
  · obtain ⟨sc, n, chs, cls, rfl, _⟩ := h
    rfl
  · obtain ⟨sc, n, chs, cls, rfl, hC, hX, ok, hl8, n0, n1, q⟩ := h
    have hu := hu_of hr
    refine ⟨_, (pss_cons (ps_set (i := 2) scSu.nd rfl (Or.inl rfl) (pe_callTy (cr_lstD rfl) (by rfl) hlist boot_list (pa_cons (pe_fld (pv 0) rfl) pa_nil)))
      (pss_cons (ps_for PassesOwn.never rfl (pi_list (pe_cal c_lots_up_to (hr.mono (by decide)) rfl (pa_cons (pe_fld (pv 0) rfl) (pa_cons (pv 1) pa_nil)))) (pg_name (i := 3) scSu.nd rfl (Or.inl rfl))
        (pss_cons (ps_set (i := 4) scSu.nd rfl (Or.inr rfl) (pe_cal c_kept (hr.mono (by decide)) rfl (pa_cons (pe_cal c_without (hr.mono (by decide)) rfl (pa_cons (pv 0) (pa_cons (pv 3) pa_nil))) pa_nil)))
        (pss_one (ps_setLc (i := 2) (own := [("name", 5)]) (g := gName 5) rfl scSu.nd rfl rfl (sw_true rfl rfl rfl (by decide +kernel)) (pi_list (pv 2)) (blkOk_by (own := [("name", 5)]) (N := nmSu) (sc := defScope sSure) (by decide +kernel)) (fun _ _ _ _ _ => pg_name (i := 5) scSu.nd rfl (Or.inl rfl)) (fun _ _ _ _ _ => pts_one (pt_cmpR (op_inK (K := K) rfl) (pv 5) (pv 4) (by rfl))) (fun _ _ _ _ _ => (pv 5))))))
      (pss_one (ps_ret (pe_tupleOf (by rfl) htup (pv 2)))))), ?_⟩
    obtain ⟨dx, a, b, h1, h2, h3⟩ := hX.here
    have kl : (keysT cls).length < 64 := by unfold keysT; rw [List.length_map]; exact ok.lenc
    refine q_asgL (el_lstD (g := vO) (ev_fld (ev_var rfl) h1 T.clS T.nCa rfl) (.inl h3)) fun p0 H1 hp0 x1 hp01 => ?_
    refine ⟨_, rfl, sc, CS, dx, _, _, rfl, x1 _ _ h1, T.clS, T.nCh, rfl, _, rfl, a, n, chs, rfl, .inl (x1 _ _ h2), hX.sch, hl8, n0, n1, fun p as H2 x2 hp hp2 hT2 => ⟨p, rfl, ⟨_, SqL.of hp2⟩, ?_⟩⟩
    have x02 := x1.trans x2
    have ll : as.length = (lotsUp (keysT chs) n.toNat).length := Paired.length hT2
    refine for_list (K := K) (xs := as.map V.ref) (fun j σ' H' => ∃ (t : Addr) (xs : List PySem.Str) (v3 v4 : Option V), σ' = [some (.ref sc), some (.int n), some (.ref t), v3, v4, none] ∧ Ex H2 H' ∧ H' t = some (.lst (xs.map V.str)) ∧ SureR ((lotsUp (keysT chs) n.toNat).take j) chs cls xs)
      ⟨p0, keysT cls, _, _, rfl, Ex.refl _, x2 _ _ hp01, fun _ => true, (List.filter_eq_self.mpr fun _ _ => rfl).symm, fun x _ => ⟨fun _ m hm => (nomatch hm), fun _ => rfl⟩⟩ (fun j σ' H' _ ⟨_, _, _, _, _, x, _⟩ => SqL.of (x _ _ hp2)) ?_ ?_
    · rintro j x σ' H3 hx ⟨t, xs, v3, v4, rfl, x3, ht, hS⟩
      rw [List.getElem?_map] at hx
      obtain ⟨ma, hma, rfl⟩ := Option.map_eq_some_iff.mp hx
      obtain ⟨m0, hm0, hma2⟩ := TupsAt.get hT2 hma
      have hma3 := x3 _ _ hma2
      have x03 := x02.trans x3
      dsimp only [gName]
      refine q_asgJ8 (fun v H' => ∃ (l : Addr) (lot : List PySem.Str), v = .ref l ∧ H' l = some (.tup (lot.map V.str)) ∧ KpL m0 chs cls lot ∧ Ex H3 H') (fun v H4 hv => ?_) fun q1 => ?_
      rotate_left
      · refine ⟨_, rfl, _, rfl, sc, ma, m0, chs, cls, rfl, hC.same x03, ⟨dx, a, b, x03 _ _ h1, .inl (x03 _ _ h2), x03 _ _ h3⟩, ok, .inl hma3, fun sc2 chs2 cls2 H4 _ hS2 hX2 ok2 p1 p2 less x4 => ?_⟩
        exact ⟨sc2, chs2, cls2, rfl, hS2, ok2, fun l lot H5 hk hl x5 => q1 _ _ ⟨l, lot, rfl, hl, ⟨chs2, cls2, less_of ok2 p1 p2 less, hk⟩, Ex.trans x4 x5⟩⟩
      obtain ⟨l, lot, rfl, hl, hk, x4⟩ := hv
      obtain ⟨pr, exs, hpr⟩ := hS
      have hxl : xs.length < 64 := by rw [exs]; exact Nat.lt_of_le_of_lt (List.length_filter_le _ _) kl
      refine s_asgL (el_fL (c := V.str) (fun x => decide (x ∈ lot)) V.str (ev_var rfl) (SqL.of (x4 _ _ ht)) (by omega) (fun i y hy H' x' => et_test (ev_inST (ev_var rfl) (ev_var rfl) (SqT.of (x' _ _ hl)))) fun i y hy _ H' x' => ev_var rfl) fun t2 H5 ht2 x5 ht25 => ?_
      refine ⟨t2, _, _, _, rfl, x3.trans (x4.trans x5), ht25, fun x => pr x && decide (x ∈ lot), by rw [exs, List.filter_filter]; exact congrArg (fun f => (keysT cls).filter f) (funext fun x => Bool.and_comm _ _), fun x hx => ?_⟩
      rw [Bool.and_eq_true, hpr x hx, decide_eq_true_eq, List.take_add_one, hm0]
      constructor
      · rintro ⟨g1, g2⟩ m hm lot' hk'
        rcases List.mem_append.mp hm with z | z
        · exact g1 m z lot' hk'
        · rw [List.mem_singleton.mp z] at hk'; exact hk.same ok.ndc hk' g2
      · exact fun g => ⟨fun m hm => g m (List.mem_append_left _ hm), g m0 (List.mem_append_right _ (by simp)) lot hk⟩
    · rintro σ' H3 ⟨t, xs, v3, v4, rfl, x3, ht, hS⟩
      rw [List.length_map, ll, List.take_length] at hS
      have hxl : xs.length < 64 := by
        obtain ⟨pr, exs, _⟩ := hS
        rw [exs]; exact Nat.lt_of_le_of_lt (List.length_filter_le _ _) kl
      refine s_retU (D := { nx := fun _ H' => Q .non H', rt := Q }) (eu_tupL (ev_var rfl) (SqL.of ht)) fun t6 H6 ht6 x6 ht66 => ?_
      exact q t6 xs H6 (x02.trans (x3.trans x6)) ht66 hS
end
end Mc
namespace Mc
open PySem L2 PySem.Spec PyProof.Rows
/-! ### data that can be compared, equal to itself -/
structure DOk (n : Nat) (d : PyData) : Prop where
  lay : d.canLay0 = true
  dep : d.depth ≤ n
  eq : PyData.eqv d d = true
theorem DOk.mono {n m : Nat} {d : PyData} (h : DOk n d) (k : n ≤ m) : DOk m d := ⟨h.lay, Nat.le_trans h.dep k, h.eq⟩
theorem DOk.non {n : Nat} : DOk n .none := ⟨rfl, by rw [PyData.depth]; exact Nat.zero_le _, by rw [PyData.eqv]⟩
theorem DOk.int {n : Nat} {i : Int} : DOk n (.int i) := ⟨rfl, by rw [PyData.depth]; exact Nat.zero_le _, by rw [PyData.eqv]; exact beq_self_eq_true i⟩
theorem DOk.str {n : Nat} {x : PySem.Str} (h : PyData.canLay0 (.str x) = true) : DOk n (.str x) := ⟨h, by rw [PyData.depth]; exact Nat.zero_le _, by rw [PyData.eqv]; exact beq_self_eq_true x⟩
theorem lays {n : Nat} : ∀ {ds : List PyData}, (∀ d ∈ ds, DOk n d) → PyData.canLayAll0 ds = true
  | [], _ => rfl
  | d :: ds, h => by
    show (PyData.canLay0 d && PyData.canLayAll0 ds) = true
    rw [(h d (by simp)).lay, lays fun x hx => h x (by simp [hx])]
    rfl
theorem deps {n : Nat} : ∀ {ds : List PyData}, (∀ d ∈ ds, DOk n d) → PyData.depthAll ds ≤ n
  | [], _ => Nat.zero_le _
  | d :: ds, h => by
    show max (PyData.depth d) (PyData.depthAll ds) ≤ n
    exact Nat.max_le.mpr ⟨(h d (by simp)).dep, deps fun x hx => h x (by simp [hx])⟩
theorem eqs {n : Nat} : ∀ {ds : List PyData}, (∀ d ∈ ds, DOk n d) → PyData.eqvAll ds ds = true
  | [], _ => rfl
  | d :: ds, h => by
    show (PyData.eqv d d && PyData.eqvAll ds ds) = true
    rw [(h d (by simp)).eq, eqs fun x hx => h x (by simp [hx])]
    rfl
theorem DOk.tup {n : Nat} {ds : List PyData} (h : ∀ d ∈ ds, DOk n d) : DOk (n + 1) (.tuple ds) :=
  ⟨by rw [PyData.canLay0]; exact lays h, by rw [PyData.depth]; exact Nat.succ_le_succ (deps h), by rw [PyData.eqv]; exact eqs h⟩
theorem DOk.lst {n : Nat} {ds : List PyData} (h : ∀ d ∈ ds, DOk n d) : DOk (n + 1) (.list ds) :=
  ⟨by rw [PyData.canLay0]; exact lays h, by rw [PyData.depth]; exact Nat.succ_le_succ (deps h), by rw [PyData.eqv]; exact eqs h⟩
theorem DOk.shaped {n : Nat} {d : PyData} (h : DOk n d) (k : n ≤ 64 := by decide) : SeqAt.shaped d = true := by
  unfold SeqAt.shaped
  rw [h.lay, decide_eq_true (Nat.le_trans h.dep k)]
  rfl
/-- two data of one form that are equal -/
theorem eqv_tup2 (a b c d : Int) : PyData.eqv (.tuple [.int a, .int b]) (.tuple [.int c, .int d]) = decide ((a, b) = (c, d)) := by
  rw [PyData.eqv]
  show (PyData.eqv (.int a) (.int c) && (PyData.eqv (.int b) (.int d) && true)) = _
  rw [PyData.eqv, PyData.eqv, Bool.and_true]
  by_cases h1 : a = c <;> by_cases h2 : b = d <;> simp [h1, h2]
theorem dpA1 {K : PySem.W.Frag} {H : Hp} {v : V} {d : PyData} (h : Dp K H v d) : DpAll K H [v] [d] := .cons h .nil
theorem dpA2 {K : PySem.W.Frag} {H : Hp} {v u : V} {d e : PyData} (h : Dp K H v d) (k : Dp K H u e) : DpAll K H [v, u] [d, e] := .cons h (.cons k .nil)
theorem neD_same {K : PySem.W.Frag} {H : Hp} {n : Nat} {x y : V} {d : PyData} {Q : VK} (ok : DOk n d) (hn : n ≤ 64) (h1 : Dp K H x d) (h2 : Dp K H y d) (q : Q (.bl false) H) : rNeD K x y H Q :=
  ⟨d, d, h1, h2, ok.shaped hn, ok.shaped hn, by rw [ok.eq]; exact q⟩
theorem eqD_same {K : PySem.W.Frag} {H : Hp} {n : Nat} {x y : V} {d : PyData} {Q : VK} (ok : DOk n d) (hn : n ≤ 64) (h1 : Dp K H x d) (h2 : Dp K H y d) (q : Q (.bl true) H) : rEqD K x y H Q :=
  ⟨d, d, h1, h2, ok.shaped hn, ok.shaped hn, by rw [ok.eq]; exact q⟩
theorem okInts (ns : List Int) : DOk 1 (pdI ns) := DOk.lst fun d hd => by
  obtain ⟨i, _, rfl⟩ := List.mem_map.mp hd
  exact DOk.int
end Mc
namespace Mc
open PySem L2 PySem.Spec PyProof.Rows Evl
/-! == and != of plain data: it tells whether they are the same -/
mutual
def sdD : PyData → Bool
  | .none => true
  | .bool _ => false
  | .int _ => true
  | .str x => PyData.strOk x
  | .list xs => sdA xs
  | .tuple xs => sdA xs
  | .dict _ => false
def sdA : List PyData → Bool
  | [] => true
  | x :: xs => sdD x && sdA xs
end
mutual
theorem sdD_lay : ∀ d : PyData, sdD d = true → d.canLay0 = true
  | .none, _ => rfl
  | .bool _, _ => rfl
  | .int _, _ => rfl
  | .str x, h => by rw [sdD] at h; rw [PyData.canLay0]; exact h
  | .list xs, h => by rw [sdD] at h; rw [PyData.canLay0]; exact sdA_lay xs h
  | .tuple xs, h => by rw [sdD] at h; rw [PyData.canLay0]; exact sdA_lay xs h
  | .dict _, h => by rw [sdD] at h; cases h
theorem sdA_lay : ∀ ds : List PyData, sdA ds = true → PyData.canLayAll0 ds = true
  | [], _ => by rw [PyData.canLayAll0]
  | x :: xs, h => by
    rw [sdA, Bool.and_eq_true] at h
    rw [PyData.canLayAll0, sdD_lay x h.1, sdA_lay xs h.2]; rfl
end
mutual
theorem eqv_sd : ∀ d e : PyData, sdD d = true → sdD e = true → (PyData.eqv d e = true ↔ d = e)
  | .bool _, _, h, _ => by rw [sdD] at h; cases h
  | .dict _, _, h, _ => by rw [sdD] at h; cases h
  | .none, e, _, k => by
    cases e <;> simp [PyData.eqv]
  | .int i, e, _, k => by
    cases e <;> simp [PyData.eqv]
    rw [sdD] at k; cases k
  | .str x, e, _, k => by
    cases e <;> simp [PyData.eqv]
  | .list xs, e, h, k => by
    cases e <;> simp [PyData.eqv]
    rw [sdD] at h k
    exact eqvA_sd xs _ h k
  | .tuple xs, e, h, k => by
    cases e <;> simp [PyData.eqv]
    rw [sdD] at h k
    exact eqvA_sd xs _ h k
theorem eqvA_sd : ∀ d e : List PyData, sdA d = true → sdA e = true → (PyData.eqvAll d e = true ↔ d = e)
  | [], e, _, _ => by
    cases e <;> simp [PyData.eqvAll]
  | x :: xs, [], _, _ => by simp [PyData.eqvAll]
  | x :: xs, y :: ys, h, k => by
    rw [sdA, Bool.and_eq_true] at h k
    rw [PyData.eqvAll, Bool.and_eq_true, eqv_sd x y h.1 k.1, eqvA_sd xs ys h.2 k.2]
    simp
end
mutual
theorem dp_ex {K : PySem.W.Frag} {H H' : Hp} (e : Ex H H') : ∀ (d : PyData) (v : V), Dp K H v d → Dp K H' v d
  | .none, _, h => by cases h; exact .non
  | .bool b, _, h => by cases h; exact .bl b
  | .int i, _, h => by cases h; exact .int i
  | .str x, _, h => by cases h; exact .str x
  | .list xs, _, h => by
    cases h with
    | lst a b => exact .lst (ex_l e a) (dpA_ex e xs _ b)
  | .tuple xs, _, h => by
    cases h with
    | tup a b => exact .tup (ex_t e a) (dpA_ex e xs _ b)
  | .dict _, _, h => by cases h
theorem dpA_ex {K : PySem.W.Frag} {H H' : Hp} (e : Ex H H') : ∀ (ds : List PyData) (vs : List V), DpAll K H vs ds → DpAll K H' vs ds
  | [], _, h => by cases h; exact .nil
  | d :: ds, _, h => by
    cases h with
    | cons a b => exact .cons (dp_ex e d _ a) (dpA_ex e ds _ b)
end
theorem eqv_is {d e : PyData} {b : Bool} (sd : sdD d = true) (se : sdD e = true) (hb : b = true ↔ d = e) : PyData.eqv d e = b := by
  cases w : PyData.eqv d e with
  | true => exact (hb.mpr ((eqv_sd d e sd se).mp w)).symm
  | false =>
    cases b with
    | false => rfl
    | true => rw [(eqv_sd d e sd se).mpr (hb.mp rfl)] at w; cases w
theorem shp_sd {d : PyData} (sd : sdD d = true) (nd : d.depth ≤ 64) : SeqAt.shaped d = true := by
  unfold SeqAt.shaped; rw [sdD_lay d sd, decide_eq_true nd]; rfl
theorem rv_eqDD {K : PySem.W.Frag} {H : Hp} {x y : V} {d e : PyData} {b : Bool} (hx : Dp K H x d) (hy : Dp K H y e) (sd : sdD d = true) (se : sdD e = true) (nd : d.depth ≤ 64) (ne : e.depth ≤ 64) (hb : b = true ↔ d = e) : RV (rEqD K) x y H (.bl b) := fun H1 e1 Q q =>
  ⟨d, e, dp_ex e1 d x hx, dp_ex e1 e y hy, shp_sd sd nd, shp_sd se ne, by rw [eqv_is sd se hb]; exact q H1 (Ex.refl _)⟩
theorem rv_neDD {K : PySem.W.Frag} {H : Hp} {x y : V} {d e : PyData} {b : Bool} (hx : Dp K H x d) (hy : Dp K H y e) (sd : sdD d = true) (se : sdD e = true) (nd : d.depth ≤ 64) (ne : e.depth ≤ 64) (hb : b = true ↔ d = e) : RV (rNeD K) x y H (.bl (!b)) := fun H1 e1 Q q =>
  ⟨d, e, dp_ex e1 d x hx, dp_ex e1 e y hy, shp_sd sd nd, shp_sd se ne, by rw [eqv_is sd se hb]; exact q H1 (Ex.refl _)⟩
/-! forms of data -/
theorem sdA_map {α : Type} {f : α → PyData} {xs : List α} (h : ∀ x ∈ xs, sdD (f x) = true) : sdA (xs.map f) = true := by
  induction xs with
  | nil => rfl
  | cons x xs ih =>
    rw [List.map_cons, sdA, h x (by simp), ih fun y hy => h y (by simp [hy])]; rfl
theorem depA_map {α : Type} {f : α → PyData} {xs : List α} {n : Nat} (h : ∀ x ∈ xs, (f x).depth ≤ n) : PyData.depthAll (xs.map f) ≤ n := by
  induction xs with
  | nil => rw [List.map_nil, PyData.depthAll]; exact Nat.zero_le _
  | cons x xs ih =>
    rw [List.map_cons, PyData.depthAll]
    exact Nat.max_le.mpr ⟨h x (by simp), ih fun y hy => h y (by simp [hy])⟩
theorem dpA_paired {α : Type} {K : PySem.W.Frag} {H : Hp} {f : α → PyData} {R : α → V → Prop} (hR : ∀ x v, R x v → Dp K H v (f x)) : ∀ {xs : List α} {vs : List V}, Paired R xs vs → DpAll K H vs (xs.map f)
  | _, _, .nil => .nil
  | _, _, .cons r t => .cons (hR _ _ r) (dpA_paired hR t)
theorem dpA_map {α : Type} {K : PySem.W.Frag} {H : Hp} {f : α → PyData} {g : α → V} (xs : List α) (h : ∀ x ∈ xs, Dp K H (g x) (f x)) : DpAll K H (xs.map g) (xs.map f) := by
  induction xs with
  | nil => exact .nil
  | cons x xs ih => exact .cons (h x (by simp)) (ih fun y hy => h y (by simp [hy]))
theorem pdI_inj {xs ys : List Int} : pdI xs = pdI ys ↔ xs = ys := by
  unfold pdI
  constructor
  · intro h
    injection h with h
    exact (List.map_inj_right (fun a b e => by injection e)).mp h
  · intro h; rw [h]
theorem sd_pdI (xs : List Int) : sdD (pdI xs) = true := by
  unfold pdI
  rw [sdD]; exact sdA_map fun _ _ => by rw [sdD]
theorem dep_pdI (xs : List Int) : (pdI xs).depth ≤ 1 := by
  unfold pdI
  rw [PyData.depth]
  exact Nat.succ_le_succ (depA_map fun _ _ => by rw [PyData.depth]; exact Nat.le_refl _)
/-- lists of ints -/
theorem rv_eqIL {K : PySem.W.Frag} {H : Hp} {a b : Addr} {xs ys : List Int} (ha : SqL K H a (xs.map V.int)) (hb : SqL K H b (ys.map V.int)) : RV (rEqD K) (.ref a) (.ref b) H (.bl (decide (xs = ys))) :=
  rv_eqDD (dp_ints ha) (dp_ints hb) (sd_pdI _) (sd_pdI _) (Nat.le_trans (dep_pdI _) (by decide)) (Nat.le_trans (dep_pdI _) (by decide)) (by rw [decide_eq_true_eq]; exact pdI_inj.symm)
theorem rv_neIL {K : PySem.W.Frag} {H : Hp} {a b : Addr} {xs ys : List Int} (ha : SqL K H a (xs.map V.int)) (hb : SqL K H b (ys.map V.int)) : RV (rNeD K) (.ref a) (.ref b) H (.bl (!decide (xs = ys))) :=
  rv_neDD (dp_ints ha) (dp_ints hb) (sd_pdI _) (sd_pdI _) (Nat.le_trans (dep_pdI _) (by decide)) (Nat.le_trans (dep_pdI _) (by decide)) (by rw [decide_eq_true_eq]; exact pdI_inj.symm)
end Mc
namespace Mc
open PySem L2 PySem.Spec PyProof.Rows Evl
/-! x in t, x not in t: t a tuple of data -/
def rInDT (K : PySem.W.Frag) : R2 := fun x y H Q => ∃ d ds b, Dp K H x d ∧ Dp K H y (.tuple ds) ∧ sdD d = true ∧ sdA ds = true ∧ d.depth ≤ 62 ∧ (b = true ↔ d ∈ ds) ∧ Q (.bl b) H
def rNinDT (K : PySem.W.Frag) : R2 := fun x y H Q => ∃ d ds b, Dp K H x d ∧ Dp K H y (.tuple ds) ∧ sdD d = true ∧ sdA ds = true ∧ d.depth ≤ 62 ∧ (b = true ↔ d ∈ ds) ∧ Q (.bl (!b)) H
theorem sdA_mem : ∀ {ds : List PyData}, sdA ds = true → ∀ d ∈ ds, sdD d = true
  | [], _, d, hd => nomatch hd
  | e :: ds, h, d, hd => by
    rw [sdA, Bool.and_eq_true] at h
    rcases List.mem_cons.mp hd with rfl | hd
    · exact h.1
    · exact sdA_mem h.2 d hd
theorem any_eqv {d : PyData} {ds : List PyData} {b : Bool} (sd : sdD d = true) (se : sdA ds = true) (hb : b = true ↔ d ∈ ds) : (ds.any fun z => PyData.eqv z d) = b := by
  cases b with
  | true =>
    exact List.any_eq_true.mpr ⟨d, hb.mp rfl, (eqv_sd d d sd sd).mpr rfl⟩
  | false =>
    rw [← Bool.not_eq_true, List.any_eq_true]
    rintro ⟨z, hz, e⟩
    have := (eqv_sd z d (sdA_mem se z hz) sd).mp e
    rw [this] at hz
    exact absurd (hb.mpr hz) (by decide)
section
variable {X : Cx} {K : PySem.W.Frag}
theorem op_inDT (hK : X.K = K) (hu : X.A.units + 64 < cLine) : OpR X (compareOp .In) (rInDT K) := by
  subst hK
  intro pins s σ H x y v u Q I rx ry h
  obtain ⟨d, ds, b, hd, he, sd, se, nd, hb, q⟩ := h
  obtain ⟨as, r1⟩ := Dp.reads I d x v hd rx
  obtain ⟨bs, r2⟩ := Dp.reads I (.tuple ds) y u he ry
  refine SeqAt.in_tuple_reads r2 r1 (sdA_lay ds se) (sdD_lay d sd) (by have := Nat.min_le_right (PyData.depthAll ds) d.depth; omega) ?_
  rw [any_eqv sd se hb]
  exact ⟨.bl _, H, I, rfl, q⟩
theorem op_ninDT (hK : X.K = K) (hu : X.A.units + 64 < cLine) : OpR X (compareOp .NotIn) (rNinDT K) := by
  subst hK
  intro pins s σ H x y v u Q I rx ry h
  obtain ⟨d, ds, b, hd, he, sd, se, nd, hb, q⟩ := h
  obtain ⟨as, r1⟩ := Dp.reads I d x v hd rx
  obtain ⟨bs, r2⟩ := Dp.reads I (.tuple ds) y u he ry
  refine SeqAt.notIn_tuple_reads r2 r1 (sdA_lay ds se) (sdD_lay d sd) (by have := Nat.min_le_right (PyData.depthAll ds) d.depth; omega) ?_
  rw [any_eqv sd se hb]
  exact ⟨.bl _, H, I, rfl, q⟩
end
end Mc
namespace Mc
open PySem L2 PySem.Spec PyProof.Rows Evl
/-! < of pairs (a number, a list of texts); x not in a list of data -/
/-- (a number, a list of texts), (a list of texts, a number) -/
def pD8 (l : Int) (xs : List PySem.Str) : PyData := .tuple [.int l, .list (xs.map PyData.str)]
def qD8 (xs : List PySem.Str) (l : Int) : PyData := .tuple [.list (xs.map PyData.str), .int l]
theorem depS8 : ∀ xs : List PySem.Str, PyData.depthAll (xs.map PyData.str) = 0
  | [] => by simp [PyData.depthAll]
  | x :: xs => by
    have := depS8 xs
    simp [PyData.depthAll, PyData.depth] at this ⊢
    exact this
theorem dep_pD8 (l : Int) (xs : List PySem.Str) : (pD8 l xs).depth = 2 := by
  have := depS8 xs
  simp [pD8, PyData.depth, PyData.depthAll, this]
theorem dep_qD8 (l : Int) (xs : List PySem.Str) : (qD8 xs l).depth = 2 := by
  have := depS8 xs
  simp [qD8, PyData.depth, PyData.depthAll, this]
theorem str_inj8 : ∀ {xs ys : List PySem.Str}, xs.map PyData.str = ys.map PyData.str → xs = ys
  | [], [], _ => rfl
  | [], _ :: _, h => nomatch h
  | _ :: _, [], h => nomatch h
  | x :: xs, y :: ys, h => by
    injection h with h1 h2
    injection h1 with h1
    rw [h1, str_inj8 h2]
theorem qD8_inj {xs ys : List PySem.Str} {l m : Int} (h : qD8 xs l = qD8 ys m) : xs = ys ∧ l = m := by
  unfold qD8 at h
  injection h with h
  injection h with h1 h2
  injection h1 with h1
  injection h2 with h2 _
  injection h2 with h2
  exact ⟨str_inj8 h1, h2⟩
theorem sdS8 : ∀ {xs : List PySem.Str}, (∀ x ∈ xs, PyData.strOk x = true) → sdA (xs.map PyData.str) = true
  | [], _ => by simp [sdA]
  | x :: xs, h => by
    show sdA (PyData.str x :: xs.map PyData.str) = true
    rw [sdA, sdD, h x List.mem_cons_self, sdS8 fun y hy => h y (List.mem_cons_of_mem _ hy)]
    rfl
theorem sd_qD8 {xs : List PySem.Str} {l : Int} (h : ∀ x ∈ xs, PyData.strOk x = true) : sdD (qD8 xs l) = true := by
  unfold qD8
  rw [sdD, sdA, sdD, sdS8 h, sdA, sdD, sdA]
  rfl
theorem dpS8 (K : PySem.W.Frag) (H : Hp) : ∀ xs : List PySem.Str, DpAll K H (xs.map V.str) (xs.map PyData.str)
  | [] => .nil
  | x :: xs => .cons (.str x) (dpS8 K H xs)
theorem dp_pD8 {K : PySem.W.Frag} {H : Hp} {t p : Addr} {l : Int} {xs : List PySem.Str} (ht : SqT K H t [.int l, .ref p]) (hp : SqL K H p (xs.map V.str)) : Dp K H (.ref t) (pD8 l xs) :=
  .tup ht (.cons (.int l) (.cons (.lst hp (dpS8 K H xs)) .nil))
theorem dp_qD8 {K : PySem.W.Frag} {H : Hp} {t p : Addr} {l : Int} {xs : List PySem.Str} (ht : SqT K H t [.ref p, .int l]) (hp : SqL K H p (xs.map V.str)) : Dp K H (.ref t) (qD8 xs l) :=
  .tup ht (.cons (.lst hp (dpS8 K H xs)) (.cons (.int l) .nil))
def lt8 (l : Int) (xs : List PySem.Str) (m : Int) (ys : List PySem.Str) : Bool := PySem.W.DatumOrd.lt (l, xs) (m, ys)
def rLt8 (K : PySem.W.Frag) : R2 := fun x y H Q => ∃ (l m : Int) (xs ys : List PySem.Str), Dp K H x (pD8 l xs) ∧ Dp K H y (pD8 m ys) ∧ Q (.bl (lt8 l xs m ys)) H
def rNinDL (K : PySem.W.Frag) : R2 := fun x y H Q => ∃ d ds b, Dp K H x d ∧ Dp K H y (.list ds) ∧ sdD d = true ∧ sdA ds = true ∧ d.depth ≤ 62 ∧ (b = true ↔ d ∈ ds) ∧ Q (.bl (!b)) H
/-- rows in their order: the shorter first, then by the first difference -/
theorem lt8_asc {xs ys : List PySem.Str} (hl : xs.length = ys.length) : lt8 xs.length xs ys.length ys = true ↔ Cmb.LexR (fun a b => a.cps.toList < b.cps.toList) xs ys := by
  have e : lt8 xs.length xs ys.length ys = PySem.W.listLt xs ys := by
    show (if (xs.length : Int) = (ys.length : Int) then PySem.W.DatumOrd.lt xs ys else _) = _
    rw [if_pos (by rw [hl])]
    rfl
  rw [e]
  clear e
  induction xs generalizing ys with
  | nil =>
    cases ys with
    | nil => exact ⟨fun h => (nomatch h), fun h => (nomatch h)⟩
    | cons => cases hl
  | cons x xs ih =>
    cases ys with
    | nil => cases hl
    | cons y ys =>
      have ih := ih (ys := ys) (Nat.succ.inj hl)
      rw [PySem.W.listLt]
      by_cases h : x = y
      · subst h
        rw [if_pos rfl]
        exact ⟨fun h => .tail (ih.mp h), fun h => by
          cases h with
          | head h => exact absurd h (List.lt_irrefl _)
          | tail h => exact ih.mpr h⟩
      · rw [if_neg h]
        exact ⟨fun h => .head (of_decide_eq_true h), fun k => by
          cases k with
          | head k => exact decide_eq_true k
          | tail k => exact absurd rfl h⟩
theorem lt8_len {xs ys : List PySem.Str} (hl : xs.length ≠ ys.length) : lt8 xs.length xs ys.length ys = decide (xs.length < ys.length) := by
  show (if (xs.length : Int) = (ys.length : Int) then _ else PySem.W.DatumOrd.lt (xs.length : Int) (ys.length : Int)) = _
  rw [if_neg (by omega)]
  show decide ((xs.length : Int) < (ys.length : Int)) = _
  simp
section
variable {X : Cx} {K : PySem.W.Frag}
theorem op_lt8 (hK : X.K = K) (hu : X.A.units + 64 < cLine) : OpR X (compareOp .Lt) (rLt8 K) := by
  subst hK
  intro pins s σ H x y v u Q I rx ry h
  obtain ⟨l, m, xs, ys, hd, he, q⟩ := h
  obtain ⟨as, r1⟩ := Dp.reads I _ x v hd rx
  obtain ⟨bs, r2⟩ := Dp.reads I _ y u he ry
  refine PySem.W.lt_data r1 r2 (PySem.W.DatumOrd.alike (l, xs) (m, ys)) (by intro e; cases e) (by rw [dep_pD8, dep_pD8]; omega) ?_
  rw [show PySem.W.dataLt (pD8 l xs) (pD8 m ys) = lt8 l xs m ys from PySem.W.DatumOrd.lt_eq (l, xs) (m, ys)]
  exact ⟨.bl _, H, I, rfl, q⟩
theorem op_ninDL (hK : X.K = K) (hu : X.A.units + 64 < cLine) : OpR X (compareOp .NotIn) (rNinDL K) := by
  subst hK
  intro pins s σ H x y v u Q I rx ry h
  obtain ⟨d, ds, b, hd, he, sd, se, nd, hb, q⟩ := h
  obtain ⟨as, r1⟩ := Dp.reads I d x v hd rx
  obtain ⟨bs, r2⟩ := Dp.reads I (.list ds) y u he ry
  refine SeqAt.notIn_list_reads r2 r1 (sdA_lay ds se) (sdD_lay d sd) (by have := Nat.min_le_right (PyData.depthAll ds) d.depth; omega) ?_
  rw [any_eqv sd se hb]
  exact ⟨.bl _, H, I, rfl, q⟩
end
end Mc
namespace Mc
open PySem L2 PySem.Spec PyProof.Rows Gd Evl Cmb
/-! rows of masts in their order -/
def Lt8 (a b : List PySem.Str) : Prop := lt8 a.length a b.length b = true
theorem asc_pw {ks : List PySem.Str} (nd : ks.Nodup) (h : sortedS ks = true) : ks.Pairwise fun a b => a.cps.toList < b.cps.toList := by
  refine ((srt_pw h).and nd).imp fun {a b} ⟨x, y⟩ => ltN_tri x (Ne.symm y)
theorem lex_asym : ∀ {a b : List PySem.Str}, LexR (fun a b => a.cps.toList < b.cps.toList) a b → LexR (fun a b => a.cps.toList < b.cps.toList) b a → False
  | _, _, .head h, .head k => List.lt_asymm h k
  | _, _, .head h, .tail _ => List.lt_irrefl _ h
  | _, _, .tail _, .head k => List.lt_irrefl _ k
  | _, _, .tail h, .tail k => lex_asym h k
theorem lex_irr {a : List PySem.Str} (h : LexR (fun a b => a.cps.toList < b.cps.toList) a a) : False := lex_asym h h
theorem Lt8.asym {a b : List PySem.Str} (h : Lt8 a b) : lt8 b.length b a.length a = false := by
  by_cases e : a.length = b.length
  · cases k : lt8 b.length b a.length a with
    | false => rfl
    | true => exact (lex_asym ((lt8_asc e).mp h) ((lt8_asc e.symm).mp k)).elim
  · unfold Lt8 at h
    rw [lt8_len e] at h
    rw [lt8_len (Ne.symm e)]
    have := of_decide_eq_true h
    exact decide_eq_false (by omega)
theorem lt8_irr (a : List PySem.Str) : lt8 a.length a a.length a = false := by
  cases k : lt8 a.length a a.length a with
  | false => rfl
  | true => exact (lex_irr ((lt8_asc rfl).mp k)).elim
theorem mem_lup {ks ms : List PySem.Str} {n : Nat} : ms ∈ lotsUp ks n ↔ ms.Sublist ks ∧ ms.length ≤ n := by
  unfold lotsUp
  rw [List.mem_flatMap]
  constructor
  · rintro ⟨r, hr, h⟩
    obtain ⟨a, b⟩ := mem_cmb.mp h
    have := List.mem_range.mp hr
    exact ⟨a, by omega⟩
  · rintro ⟨a, b⟩
    have := a.length_le
    exact ⟨ms.length, List.mem_range.mpr (by omega), mem_cmb.mpr ⟨a, rfl⟩⟩
theorem flat_pw {f : Nat → List (List PySem.Str)} (h1 : ∀ r, (f r).Pairwise Lt8) (h2 : ∀ r s a b, r < s → a ∈ f r → b ∈ f s → Lt8 a b) : ∀ n, ((List.range n).flatMap f).Pairwise Lt8
  | 0 => .nil
  | n + 1 => by
    rw [List.range_succ, List.flatMap_append]
    simp only [List.flatMap_cons, List.flatMap_nil, List.append_nil]
    refine List.pairwise_append.mpr ⟨flat_pw h1 h2 n, h1 n, fun a ha b hb => ?_⟩
    obtain ⟨r, hr, h⟩ := List.mem_flatMap.mp ha
    exact h2 r n a b (List.mem_range.mp hr) h hb
theorem lup_asc {ks : List PySem.Str} (nd : ks.Nodup) (srt : sortedS ks = true) (n : Nat) : (lotsUp ks n).Pairwise Lt8 := by
  refine flat_pw (fun r => ?_) (fun r s a b hrs ha hb => ?_) _
  · have h := cmb_asc r ks (asc_pw nd srt)
    refine (List.Pairwise.imp_of_mem fun {a b} ha hb l => ?_) h
    have e : a.length = b.length := by rw [(mem_cmb.mp ha).2, (mem_cmb.mp hb).2]
    exact (lt8_asc e).mpr l
  · have e1 := (mem_cmb.mp ha).2
    have e2 := (mem_cmb.mp hb).2
    unfold Lt8
    rw [lt8_len (by omega)]
    exact decide_eq_true (by omega)
theorem sub_filter {ks l : List PySem.Str} (s : l.Sublist ks) (nd : ks.Nodup) : ks.filter (fun x => decide (x ∈ l)) = l := by
  induction s with
  | slnil => rfl
  | @cons l ks x s ih =>
    obtain ⟨n1, n2⟩ := List.nodup_cons.mp nd
    have hx : x ∉ l := fun h => n1 (s.subset h)
    rw [List.filter_cons, if_neg (by simp [hx]), ih n2]
  | @cons_cons l ks x s ih =>
    obtain ⟨n1, n2⟩ := List.nodup_cons.mp nd
    rw [List.filter_cons, if_pos (by simp)]
    refine congrArg (x :: ·) ((List.filter_congr fun y hy => ?_).trans (ih n2))
    have : y ≠ x := fun e => n1 (e ▸ hy)
    simp [this]
theorem mem_lots {ks ms : List PySem.Str} (nd : ks.Nodup) : ms ∈ lotsOf ks ↔ ms.Sublist ks :=
  ⟨lotsOf_sub, fun s => by
    have := lotsOf_filter (fun x => decide (x ∈ ms)) ks
    rwa [sub_filter s nd] at this⟩
/-- a row behind another with as many lost does not come ahead of it -/
theorem WorstR.least {ks ms L : List PySem.Str} {n : Nat} {chs : Chs} {cls : Cls'} {k : Int} (nd : ks.Nodup) (srt : sortedS ks = true) (ndc : (keysT cls).Nodup) (h : WorstR (lotsUp ks n) chs cls k ms) (hL : L ∈ lotsUp ks n) (lo : LostR L chs cls k) : lt8 L.length L ms.length ms = false := by
  obtain ⟨P, Q, e, h1, h2, h3⟩ := h
  have pw := lup_asc nd srt n
  rw [e] at hL pw
  rcases List.mem_append.mp hL with z | z
  · have := h2 L z k lo; omega
  · rcases List.mem_cons.mp z with z | z
    · rw [z]; exact lt8_irr _
    · exact Lt8.asym ((List.pairwise_cons.mp (List.pairwise_append.mp pw).2.1).1 L z)
theorem WorstR.mem {Ls : List (List PySem.Str)} {ms : List PySem.Str} {chs : Chs} {cls : Cls'} {k : Int} (h : WorstR Ls chs cls k ms) : ms ∈ Ls := by
  obtain ⟨P, Q, e, _⟩ := h
  rw [e]; simp
theorem WorstR.lost {Ls : List (List PySem.Str)} {ms : List PySem.Str} {chs : Chs} {cls : Cls'} {k : Int} (h : WorstR Ls chs cls k ms) : LostR ms chs cls k := by
  obtain ⟨P, Q, e, h1, _⟩ := h
  exact h1
theorem WorstR.le {Ls : List (List PySem.Str)} {ms L : List PySem.Str} {chs : Chs} {cls : Cls'} {k j : Int} (ndc : (keysT cls).Nodup) (h : WorstR Ls chs cls k ms) (hL : L ∈ Ls) (lo : LostR L chs cls j) : j ≤ k := by
  obtain ⟨P, Q, e, h1, h2, h3⟩ := h
  rw [e] at hL
  rcases List.mem_append.mp hL with z | z
  · exact Int.le_of_lt (h2 L z j lo)
  · rcases List.mem_cons.mp z with z | z
    · rw [z] at lo; exact Int.le_of_eq (lo.uniq ndc h1)
    · exact h3 L z j lo
end Mc
namespace Mc
open PySem L2 PySem.Spec PyProof.Rows Evl
abbrev sSEq : Stmt := inClass (top 22) 1
structure TxEq (K : PySem.W.Frag) (mg : PySem.Str → Option Value) (CS : Addr) : Prop where
  clS : Cls K CS
  nCh : NoAttr K CS "channels"
  nCa : NoAttr K CS "calls"
  isi : mg "isinstance" = none
  sc : mg "Scene" = some (.ref CS)
  ha : PySem.W.findIn K (.ref CS) "__class__" = some (some (.builtin "object.__class__"))
  hn : PySem.W.specialIn K (.builtin "object.__class__") "__get__" = some (some (.builtin "getset_descriptor.__get__"))
  tk : PySem.W.takesIn K (.builtin "object.__class__") = some true
  hm : PySem.W.mroIn K CS (.type "object") = some true
/-- == of two scenes that are alike -/
def spSEq (CS : Addr) : Sp := fun vs H Q _ => ∃ (p q : Addr) (chs : Chs) (cls : Cls'), vs = [.ref p, .ref q] ∧ ScnX CS H p chs cls ∧ ScnX CS H q chs cls ∧ (keysT chs).Nodup ∧ (keysT cls).Nodup ∧ ∀ H', Same H H' → Q (.bl true) H'
def rEqV' (K : PySem.W.Frag) : R2 := rEqV K
theorem op_eqVK {X : Cx} {K : PySem.W.Frag} (h : X.K = K) (hu : X.A.units + 64 < cLine) : OpR X (compareOp .Eq) (rEqV K) := by subst h; exact op_eqV hu
theorem call_isiK' {X : Cx} {K : PySem.W.Frag} (h : X.K = K) : CallR X (.builtin "isinstance") (rIsi K) := by subst h; exact call_isi
section
variable {P : Program} {w : World} {K : PySem.W.Frag} {mg : PySem.Str → Option Value} {base : Heap}
theorem scSEq : FnScope ["self", "other"] ["self", "other"] (defScope sSEq) := ⟨rfl, rfl, rfl, by decide +kernel, rfl, by decide +kernel, by decide +kernel⟩
theorem ok_seq {f CS : Addr} {fd : FuncData} (F : Fun K "__eq__" "Scene.__eq__" sSEq f fd) (T : TxEq K mg CS) : FnOk P w K mg base CX0 1 f fd ["self", "other"] (spSEq CS) := by
  refine F.ok scSEq (fun vs H Q E h => ?_) (fun cdv A outer s H vs Q E hr h => ?_)
  · obtain ⟨p, q, chs, cls, rfl, _⟩ := h
    rfl
  · obtain ⟨p, q, chs, cls, rfl, hp, hq, n1, n2, k⟩ := h
    have hu := hu_of hr
    refine ⟨_, (pss_one (ps_ret (pe_and (pe_callB (call_isiK' (K := K) rfl) (by rfl) T.isi boot_isinstance (pa_cons (pv 1) (pa_cons (pe_glob (v := .ref CS) (by rfl) T.sc rfl) pa_nil))) (pe_and (pe_cmpR (op_eqVK (K := K) rfl hr.units) (pe_fld (pv 0) rfl) (pe_fld (pv 1) rfl) (nomark _)) (pe_one (pe_cmpR (op_eqVK (K := K) rfl hr.units) (pe_fld (pv 0) rfl) (pe_fld (pv 1) rfl) (nomark _))))))), ?_⟩
    obtain ⟨dx, a, b, h1, h2, h3⟩ := hp.here
    obtain ⟨dy, c, d, g1, g2, g3⟩ := hq.here
    have e1 : EqR K H (EqV K H 1) (.ref a) (.ref c) := .inr ⟨a, c, _, _, rfl, rfl, h2, g2, rfl, fun z hz => by
      obtain ⟨y, hy, rfl⟩ := List.mem_map.mp hz
      exact ⟨_, (by rw [val_T, getT_mem n1 hy]; rfl), .inl ⟨rfl, rfl⟩⟩⟩
    have e2 : EqR K H (EqV K H 1) (.ref b) (.ref d) := .inr ⟨b, d, _, _, rfl, rfl, h3, g3, rfl, fun z hz => by
      obtain ⟨y, hy, rfl⟩ := List.mem_map.mp hz
      exact ⟨_, (by rw [val_T, getT_mem n2 hy]; rfl), .inr (.inl ⟨_, rfl, rfl⟩)⟩⟩
    have isi : PySem.W.kitOne K (.ref CS) (.ref CS) = some true := if_pos (by simp)
    refine ⟨_, rfl, .ref q, .ref CS, .ref CS, .ref CS, true, rfl, .own CS, .base (.ins g1 T.clS T.ha T.hn T.tk T.hm), isi, ?_⟩
    refine ⟨true, rfl, ?_⟩
    refine ⟨_, rfl, p, CS, dx, _, _, rfl, h1, T.clS, T.nCh, rfl, _, rfl, q, CS, dy, _, _, rfl, g1, T.clS, T.nCh, rfl, 1, by decide, e1, true, rfl, ?_⟩
    exact ⟨_, rfl, p, CS, dx, _, _, rfl, h1, T.clS, T.nCa, rfl, _, rfl, q, CS, dy, _, _, rfl, g1, T.clS, T.nCa, rfl, 1, by decide, e2, k H fun _ _ z => z⟩
end
end Mc
namespace Mc
open PySem L2 PySem.Spec PyProof.Rows Evl
abbrev sCEq : Stmt := inClass (top 21) 1
structure TxCe (K : PySem.W.Frag) (mg : PySem.Str → Option Value) (CC : Addr) : Prop where
  cl : Cls K CC
  nW : NoAttr K CC "worth"
  nH : NoAttr K CC "heard"
  isi : mg "isinstance" = none
  cc : mg "Call" = some (.ref CC)
  ha : PySem.W.findIn K (.ref CC) "__class__" = some (some (.builtin "object.__class__"))
  hn : PySem.W.specialIn K (.builtin "object.__class__") "__get__" = some (some (.builtin "getset_descriptor.__get__"))
  tk : PySem.W.takesIn K (.builtin "object.__class__") = some true
  hm : PySem.W.mroIn K CC (.type "object") = some true
/-- == of two calls -/
def spCEq (K : PySem.W.Frag) (CC : Addr) : Sp := fun vs H Q _ => ∃ (p q : Addr) (w1 w2 : Int) (h1 h2 : List PySem.Str), vs = [.ref p, .ref q] ∧ CallH K CC H p w1 h1 ∧ CallH K CC H q w2 h2 ∧ (∀ x ∈ h1, PyData.strOk x = true) ∧ (∀ x ∈ h2, PyData.strOk x = true) ∧ ∀ H', Ex H H' → Q (.bl (decide (w1 = w2) && decide (h1 = h2))) H'
section
variable {P : Program} {w : World} {K : PySem.W.Frag} {mg : PySem.Str → Option Value} {base : Heap}
theorem call_isiK2 {X : Cx} {K : PySem.W.Frag} (h : X.K = K) : CallR X (.builtin "isinstance") (rIsi K) := by subst h; exact call_isi
theorem scCEq : FnScope ["self", "other"] ["self", "other"] (defScope sCEq) := ⟨rfl, rfl, rfl, by decide +kernel, rfl, by decide +kernel, by decide +kernel⟩
theorem ok_ceq {f CC : Addr} {fd : FuncData} (F : Fun K "__eq__" "Call.__eq__" sCEq f fd) (T : TxCe K mg CC) : FnOk P w K mg base CX0 1 f fd ["self", "other"] (spCEq K CC) := by
  refine F.ok scCEq (fun vs H Q E h => ?_) (fun cdv A outer s H vs Q E hr h => ?_)
  · obtain ⟨p, q, w1, w2, h1, h2, rfl, _⟩ := h
    rfl
  · obtain ⟨p, q, w1, w2, h1, h2, rfl, ⟨dx, a, p1, p2⟩, ⟨dy, b, q1, q2⟩, o1, o2, k⟩ := h
    have hu := hu_of hr
    refine ⟨_, (pss_one (ps_ret (pe_and (pe_callB (call_isiK2 (K := K) rfl) (by rfl) T.isi boot_isinstance (pa_cons (pv 1) (pa_cons (pe_glob (v := .ref CC) (by rfl) T.cc rfl) pa_nil))) (pe_and (pe_cmpR op_eq (pe_fld (pv 0) rfl) (pe_fld (pv 1) rfl) (nomark _)) (pe_one (pe_cmpR (op_eqD hr.units) (pe_fld (pv 0) rfl) (pe_fld (pv 1) rfl) (nomark _))))))), ?_⟩
    have isi : PySem.W.kitOne K (.ref CC) (.ref CC) = some true := if_pos (by simp)
    refine ⟨_, rfl, .ref q, .ref CC, .ref CC, .ref CC, true, rfl, .own CC, .base (.ins q1 T.cl T.ha T.hn T.tk T.hm), isi, ?_⟩
    refine ⟨true, rfl, ?_⟩
    refine ⟨_, rfl, p, CC, dx, _, _, rfl, p1, T.cl, T.nW, rfl, _, rfl, q, CC, dy, _, _, rfl, q1, T.cl, T.nW, rfl, rfl, ?_⟩
    refine ⟨_, rfl, ?_⟩
    by_cases e : w1 = w2
    · rw [decide_eq_true (show V.int w1 = V.int w2 by rw [e])]
      refine ⟨_, rfl, p, CC, dx, _, _, rfl, p1, T.cl, T.nH, rfl, _, rfl, q, CC, dy, _, _, rfl, q1, T.cl, T.nH, rfl, ?_⟩
      refine rv_eqST (st_of p2) (st_of q2) o1 o2 H (Ex.refl _) _ fun H' x => ?_
      have := k H' x
      rw [decide_eq_true e] at this
      exact this
    · rw [decide_eq_false (show ¬ V.int w1 = V.int w2 from fun z => e (by injection z))]
      have := k H (Ex.refl _)
      rw [decide_eq_false e] at this
      exact this
end
end Mc
/-! == and != of dicts whose values have their own == -/
namespace PySem.W
open Lean Elab Tactic Meta PySem PySem.Calls PyProof.Rows PyProof.V PySem.Spec
section
variable {prog : Program} {w : World} {K : Type} [DecidableEq K] {knd : KeyKind prog w K} {A : Around} {E : Value → Shared → Prop} {s : Shared}
/-- all pairs are found equal, while objects may be made -/
theorem samePairsQ {nm : String} {a b : Addr} {ka kb : List (K × Value)} {Q : Bool → Shared → Prop} (ha : (a == sysModules) = false) (hb : (b == sysModules) = false)
    (da : s.heap.DictOf knd a ka) (db : s.heap.DictOf knd b kb) (hl : ka.length = kb.length) (I : Shared → Prop) (hI : ∀ s', I s' → s'.heap.get? a = s.heap.get? a ∧ s'.heap.get? b = s.heap.get? b) (h0 : I s)
    (hits : ∀ k v, (k, v) ∈ ka → ∃ y, valueAt kb k = some y ∧ ∀ s', I s' → wpAny (model prog w) A (eqBool v y) (fun r s2 => r = true ∧ I s2) E s') (h : ∀ s', I s' → Q true s') :
    wpAny (model prog w) A (Builtin.Dict.samePairs nm a b) Q E s := by
  obtain ⟨oa, es, ep, hoa, _, hda, hka, hpa, _⟩ := da
  obtain ⟨ob, es', ep', hob, _, hdb, hkb, hpb, _⟩ := db
  have hla : ka.length = es.size := by rw [← hpa.length]; exact Array.length_toList
  have hlb : kb.length = es'.size := by rw [← hpb.length]; exact Array.length_toList
  have hfind : ∀ k, findBy knd.is es' k = valueAt kb k := fun k => by
    rw [← hpb.find k]
    clear hlb hpb hkb hdb hob
    obtain ⟨l⟩ := es'
    simp [findBy]
  have atA : ∀ s', I s' → s'.heap.get? a = some oa := fun s' i => (hI s' i).1.trans hoa
  have atB : ∀ s', I s' → s'.heap.get? b = some ob := fun s' i => (hI s' i).2.trans hob
  unfold Builtin.Dict.samePairs Builtin.Dict.showsAll
  rw [if_neg (show ¬ (a == sysModules) = true by rw [ha]; exact Bool.false_ne_true), if_neg (show ¬ (b == sysModules) = true by rw [hb]; exact Bool.false_ne_true)]
  refine wpAny_bind (wpAny_pure (wpAny_bind (wpAny_pure ?_)))
  refine wpAny_bind (wpAny_dictEntries hoa hda ?_)
  dsimp only
  refine wpAny_bind (wpAny_dictEntries hob hdb ?_)
  have hsz : es.size = es'.size := by rw [← hla, ← hlb]; exact hl
  rw [if_neg (by rw [hsz]; simp)]
  refine wpAny_bind (wpAny_dictEpoch hoa hda ?_)
  refine wpAny_bind ?_
  rw [Std.Legacy.Range.forIn_eq_forIn_range']
  simp only [Std.Legacy.Range.size, Nat.sub_zero, Nat.add_sub_cancel, Nat.div_one]
  refine wpAny_forIn_list _
    (fun rest q s' => I s' ∧ q = (none, ()) ∧ ∃ i, rest = List.range' i (es.size - i) ∧ i ≤ es.size)
    _ ?_ ?_ _ _ ⟨h0, rfl, 0, by simp, Nat.zero_le _⟩
  · rintro x rest q s' ⟨i0, rfl, i, hr, hi⟩
    have hlt : i < es.size := by
      rcases Nat.lt_or_ge i es.size with h | h
      · exact h
      · rw [Nat.sub_eq_zero_of_le h] at hr; simp at hr
    obtain ⟨rfl, hrest⟩ : x = i ∧ rest = List.range' (i + 1) (es.size - (i + 1)) := by
      have e : es.size - i = (es.size - (i + 1)) + 1 := by omega
      rw [e, List.range'_succ] at hr
      injection hr with h1 h2
      exact ⟨h1, h2⟩
    refine wpAny_bind (wpAny_dictEntries (atA s' i0) hda ?_)
    rw [Array.getElem?_eq_getElem hlt]
    have hlt' : x < ka.length := by rw [hla]; exact hlt
    obtain ⟨k, v, hkv⟩ : ∃ k v, ka[x] = (k, v) := ⟨_, _, rfl⟩
    obtain ⟨hkey, hval⟩ := hpa.get? (i := x) (e := es[x]) (k := k) (v := v) (by rw [Array.getElem?_toList]; exact Array.getElem?_eq_getElem hlt) (by rw [List.getElem?_eq_getElem hlt', hkv])
    obtain ⟨k', hk', hh⟩ := hka es[x] (Array.getElem_mem hlt)
    have ekk : k' = k := knd.inj _ _ _ hk' hkey
    rw [ekk] at hh
    show wpAny _ _ (holding [es[x].key, es[x].val] _ >>= _) _ _ _
    rw [hh]
    obtain ⟨y, hy, he⟩ := hits k v (by rw [← hkv]; exact List.getElem_mem hlt')
    refine wpAny_bind (wpAny_holding (wpAny_bind (wpAny_dictFind_of hkey (atB s' i0) hdb hkb ?_)))
    cases hj : es'.findIdx? fun e => knd.is k e.key with
    | none =>
      have hn : valueAt kb k = none := by rw [← hfind k, findBy_of_findIdx?, hj]
      rw [hn] at hy; exact nomatch hy
    | some j =>
      obtain ⟨hjlt, _, _⟩ := Array.findIdx?_eq_some_iff_getElem.mp hj
      have hv' : valueAt kb k = some es'[j].val := by
        rw [← hfind k, findBy_of_findIdx?, hj]
        simp [Array.getElem?_eq_getElem hjlt]
      refine wpAny_bind (wpAny_dictEntries (atB s' i0) hdb ?_)
      rw [Array.getElem?_eq_getElem hjlt]
      have ey : es'[j].val = y := Option.some.inj (hv'.symm.trans hy)
      rw [← ey, ← hval] at he
      refine wpAny_holding (wpAny_mono (he s' i0) (fun r s2 z => ?_) fun _ _ z => z)
      obtain ⟨rfl, i2⟩ := z
      show wpAny _ _ (if (!true) = true then _ else _) _ _ _
      rw [if_neg (by decide)]
      refine wpAny_bind (wpAny_dictEpoch (atA s2 i2) hda ?_)
      rw [if_neg (by simp)]
      exact wpAny_pure ⟨i2, rfl, x + 1, hrest, hlt⟩
  · rintro q s' ⟨i0, rfl, _⟩
    exact wpAny_pure (h s' i0)
theorem rcQ_dicts {a b : Addr} {ka kb : List (K × Value)} (ha : (a == sysModules) = false) (hb : (b == sysModules) = false)
    (da : s.heap.DictOf knd a ka) (db : s.heap.DictOf knd b kb) (hu : A.units < cLine) (hl : ka.length = kb.length) (I : Shared → Prop) (hI : ∀ s', I s' → s'.heap.get? a = s.heap.get? a ∧ s'.heap.get? b = s.heap.get? b) (h0 : I s)
    (hits : ∀ k v, (k, v) ∈ ka → ∃ y, valueAt kb k = some y ∧ ∀ s', I s' → wpAny (model prog w) A.in1 (eqBool v y) (fun r s2 => r = true ∧ I s2) E s') (Q : Value → Shared → Prop) (h : ∀ s', I s' → Q (.bool true) s') : wpAny (model prog w) A (richCompare .Eq (.ref a) (.ref b)) Q E s := by
  refine wpAny_richCompare_same_room (op := .Eq) da.typeIs db.typeIs PySem.F.slot_dict_eq (wpAny_call_entry PySem.F.slot_dict_eq da.typeIs PySem.F.entry_dict_eq ?_ (PySem.F.args_dict_eq_2 _ _)) hu
  show wpAny _ _ (Builtin.Dict.dictSlotArgs "__eq__" ⟨[.ref a, .ref b], []⟩ >>= _) _ _ s
  refine wpAny_bind ?_
  unfold Builtin.Dict.dictSlotArgs
  refine wpAny_bind (wpAny_notOrdered_dict da.typeIs ?_)
  show wpAny _ _ (pure (Value.ref a, Value.ref b)) _ _ s
  refine wpAny_pure ?_
  refine wpAny_bind (wpAny_isInstance (T := "dict") db.typeIs PySem.F.sub_dict_dict ?_)
  simp only [Bool.not_true, Bool.false_eq_true, if_false]
  refine wpAny_bind (wpAny_pure (wpAny_bind (wpAny_pure ?_)))
  refine wpAny_bind (samePairsQ ha hb da db hl I hI h0 hits fun s' i => ?_)
  refine wpAny_pure ⟨_, rfl, ?_, ?_⟩
  · exact fun x => nomatch x
  · exact h s' i
end
end PySem.W
namespace Mc
open PySem L2 PySem.Spec PyProof.Rows
/-- two dicts whose values are found equal, key by key -/
def rEqDQ (D : Eqv) : R2 := fun x y H Q => ∃ (a b : Addr) (ks ls : List (L2.Key × V)), x = .ref a ∧ y = .ref b ∧ a ≠ b ∧ H a = some (.dK ks) ∧ H b = some (.dK ls) ∧ ks.length = ls.length ∧
  (∀ p ∈ ks, ∃ v, valV ls p.1 = some v ∧ ∀ oa ob, D p.2 v (upd (upd H a (.frz oa (.dK ks))) b (.frz ob (.dK ls)))) ∧ ∀ H', Ext H H' → Q (.bl true) H'
theorem kv_back {k : L2.Key} {v : Value} : ∀ {ks : List (L2.Key × V)} {va : List (L2.Key × Value)}, KV ks va → (k, v) ∈ va → ∃ p ∈ ks, p.1 = k ∧ RelV p.2 v
  | _, _, .nil, h => nomatch h
  | _, _, .cons r t, h => by
    rcases List.mem_cons.mp h with z | z
    · exact ⟨_, List.mem_cons_self, by rw [r.1, ← z], by rw [show v = (k, v).2 from rfl, z]; exact r.2⟩
    · obtain ⟨p, h1, h2⟩ := kv_back t z
      exact ⟨p, List.mem_cons_of_mem _ h1, h2⟩
section
variable {X : Cx} {n : Nat} {D : Eqv}
theorem op_eqDQ (hD : Mon D) (h : EqG X n D) (hr : Room (n + 1) X.A) : OpR X (compareOp .Eq) (rEqDQ D) := by
  intro pins s σ H x y v u Q I rx ry hq
  obtain ⟨a, b, ks, ls, rfl, rfl, hne, ea, eb, hl, hp, q⟩ := hq
  obtain rfl : v = Value.ref a := rx
  obtain rfl : u = Value.ref b := ry
  obtain ⟨oa, I1⟩ := I.lock ea trivial
  obtain ⟨ob, I2⟩ := I1.lock (d := b) (u := .dK ls) (by rw [upd_ne (Ne.symm hne)]; exact eb) trivial
  have fa : upd (upd H a (.frz oa (.dK ks))) b (.frz ob (.dK ls)) a = some (.frz oa (.dK ks)) := by rw [upd_ne hne, upd_same]
  have fb : upd (upd H a (.frz oa (.dK ks))) b (.frz ob (.dK ls)) b = some (.frz ob (.dK ls)) := upd_same
  have hp' := fun p hm => hp p hm
  generalize hH2 : upd (upd H a (.frz oa (.dK ks))) b (.frz ob (.dK ls)) = H2 at I2 fa fb
  obtain ⟨ya, ga, _, _, _, va, _, _, ra, ma⟩ := I2.frzK fa
  obtain ⟨yb, gb, _, _, _, vb, _, _, rb, mb⟩ := I2.frzK fb
  have hl' : va.length = vb.length := by rw [← show ks.length = va.length from Paired.length ra, ← show ls.length = vb.length from Paired.length rb]; exact hl
  have back : ∀ s' H', Inv X pins σ H' s' → Ext H2 H' → Inv X pins σ (upd (upd H' b (.dK ls)) a (.dK ks)) s' ∧ Ext H (upd (upd H' b (.dK ls)) a (.dK ks)) := fun s' H' J e => by
    have j1 := J.unlock (e _ _ fb) (I1.nofrz (u := .dK ls) (by rw [upd_ne (Ne.symm hne)]; exact eb) trivial)
    have j2 := j1.unlock (d := a) (od := oa) (u := .dK ks) (by rw [upd_ne hne]; exact e _ _ fa) (I.nofrz (u := .dK ks) ea trivial)
    refine ⟨j2, fun c o z => ?_⟩
    by_cases c1 : c = a
    · rw [c1, upd_same]; rw [c1, ea] at z; exact z
    · rw [upd_ne c1]
      by_cases c2 : c = b
      · rw [c2, upd_same]; rw [c2, eb] at z; exact z
      · rw [upd_ne c2]; exact e _ _ (by rw [← hH2, upd_ne c2, upd_ne c1]; exact z)
  show wpAny (model X.prog X.w) X.A (richCompare .Eq (.ref a) (.ref b)) (EP X pins σ Q) X.xe s
  have stay : ∀ s', (∃ H', Inv X pins σ H' s' ∧ Ext H2 H') → s'.heap.get? a = s.heap.get? a ∧ s'.heap.get? b = s.heap.get? b := fun s' ⟨H', J, e⟩ => by
    obtain ⟨_, g1, _⟩ := J.frzK (e _ _ fa)
    obtain ⟨_, g2, _⟩ := J.frzK (e _ _ fb)
    exact ⟨g1.trans ga.symm, g2.trans gb.symm⟩
  refine PySem.W.rcQ_dicts (knd := mixKind X.prog X.w) ya yb (let ⟨o, es, z⟩ := ma; ⟨o, es, _, z⟩) (let ⟨o, es, z⟩ := mb; ⟨o, es, _, z⟩) hr.units0 hl' (fun s' => ∃ H', Inv X pins σ H' s' ∧ Ext H2 H') stay ⟨H2, I2, Ext.rfl'⟩ (fun k v hkv => ?_) _ fun s' ⟨H', J, e⟩ => ?_
  · obtain ⟨p, hpm, pk, pr⟩ : ∃ p ∈ ks, p.1 = k ∧ RelV p.2 v := kv_back ra hkv
    obtain ⟨v', e', hd⟩ := hp p hpm
    have rr : RelO (some v') (valueAt vb p.1) := by rw [← e']; exact rb.val p.1
    obtain ⟨y, hy, ry⟩ := rr.some_of
    refine ⟨y, by rw [← pk]; exact hy, fun s' ⟨H', J, e⟩ => ?_⟩
    refine wpAny_mono (h X.A.in1 pins s' σ H' p.2 v' v y (Sub.in1 ⟨hr, rfl⟩) J pr ry (hD _ _ _ _ e (by rw [← hH2]; exact hd oa ob))) (fun r s2 z => ?_) fun _ _ z => z
    obtain ⟨hr', H2', J2, e2⟩ := z
    exact ⟨hr', H2', J2, e.trans e2⟩
  · obtain ⟨j, x⟩ := back s' H' J e
    exact ⟨.bl true, _, j, rfl, q _ x⟩
end
end Mc
namespace Mc
open PySem L2 PySem.Spec PyProof.Rows Evl
/-! Scene ==: the same masts, and calls that are alike -/
def RC8 (K : PySem.W.Frag) (CC : Addr) (a b : Addr) (H : Hp) : Prop := ∃ (w : Int) (h : List PySem.Str), CallH K CC H a w h ∧ CallH K CC H b w h ∧ ∀ x ∈ h, PyData.strOk x = true
theorem CallH.ext {K : PySem.W.Frag} {CC : Addr} {H H' : Hp} {o : Addr} {w : Int} {h : List PySem.Str} (c : CallH K CC H o w h) (e : Ext H H') : CallH K CC H' o w h := by
  obtain ⟨dx, t, a, b⟩ := c.here
  exact ⟨dx, t, e _ _ a, e _ _ b⟩
theorem mon_rc8 {K : PySem.W.Frag} {CC : Addr} : Mon (DIns CC (RC8 K CC)) := mon_ins fun _ _ _ _ e ⟨w, h, c1, c2, o⟩ => ⟨w, h, c1.ext e, c2.ext e, o⟩
def rEq8 (K : PySem.W.Frag) (CC : Addr) : R2 := fun x y H Q => rEqV K x y H Q ∨ rEqDQ (DIns CC (RC8 K CC)) x y H Q
/-- == of two scenes with the same masts and calls that are alike -/
def spSEq8 (K : PySem.W.Frag) (CS CC : Addr) : Sp := fun vs H Q _ => ∃ (p q : Addr) (chs : Chs) (cls cls' : Cls'), vs = [.ref p, .ref q] ∧ ScnX CS H p chs cls ∧ ScnX CS H q chs cls' ∧ CallsH K CC H cls ∧ CallsH K CC H cls' ∧ (keysT chs).Nodup ∧ (keysT cls).Nodup ∧
  cls'.map (fun x => (x.1, x.2.2)) = cls.map (fun x => (x.1, x.2.2)) ∧ (∀ x ∈ cls, ∀ m ∈ x.2.2.2, PyData.strOk m = true) ∧ ∀ H', Ext H H' → Q (.bl true) H'
structure TxE8 (K : PySem.W.Frag) (CC f_ceq : Addr) (fdC : FuncData) : Prop where
  eq : PySem.W.findIn K (.ref CC) "__eq__" = some (some (.ref f_ceq))
  isf : PySem.W.isFn K (.ref f_ceq) = true
  bE : Binds K fdC ["self", "other"] []
section
variable {P : Program} {w : World} {K : PySem.W.Frag} {mg : PySem.Str → Option Value} {base : Heap}
theorem op_eq8K {X : Cx} {CC f_ceq : Addr} {fdC : FuncData} (hP : X.prog = P) (hw : X.w = w) (hK : X.K = K) (hmg : X.mg = mg) (hb0 : X.base = base) (T : TxE8 K CC f_ceq fdC) (FE : FnOk P w K mg base CX0 1 f_ceq fdC ["self", "other"] (spCEq K CC)) (hr : Room 2 X.A) : OpR X (compareOp .Eq) (rEq8 K CC) := by
  subst hP hw hK hmg hb0
  have G : EqG X 1 (DIns CC (RC8 X.K CC)) := eqG_ins (FE.imp fun vs H Q E ⟨a, b, e, ⟨w, h, c1, c2, o⟩, q⟩ => ⟨a, b, w, w, h, h, e, c1, c2, o, o, fun H' x => by
    rw [decide_eq_true rfl, decide_eq_true rfl]; exact q H' x⟩) T.eq T.isf T.bE (E := E0) (fun pins σ H s e s' I h => nomatch h)
  intro pins s σ H x y v u Q I rx ry h
  rcases h with h | h
  · exact op_eqV hr.units pins s σ H x y v u Q I rx ry h
  · exact op_eqDQ mon_rc8 G hr pins s σ H x y v u Q I rx ry h
theorem ok_seq8 {f CS CC f_ceq : Addr} {fd fdC : FuncData} (F : Fun K "__eq__" "Scene.__eq__" sSEq f fd) (T : TxEq K mg CS) (TE : TxE8 K CC f_ceq fdC) (FE : FnOk P w K mg base CX0 1 f_ceq fdC ["self", "other"] (spCEq K CC)) : FnOk P w K mg base CX0 3 f fd ["self", "other"] (spSEq8 K CS CC) := by
  refine F.ok scSEq (fun vs H Q E h => ?_) (fun cdv A outer s H vs Q E hr h => ?_)
  · obtain ⟨p, q, chs, cls, cls', rfl, _⟩ := h
    rfl
  · obtain ⟨p, q, chs, cls, cls', rfl, hp, hq, hC, hC', n1, n2, em, ly, k⟩ := h
    have hu := hu_of hr
    refine ⟨_, (pss_one (ps_ret (pe_and (pe_callB (call_isiK' (K := K) rfl) (by rfl) T.isi boot_isinstance (pa_cons (pv 1) (pa_cons (pe_glob (v := .ref CS) (by rfl) T.sc rfl) pa_nil))) (pe_and (pe_cmpR (op_eqVK (K := K) rfl hr.units) (pe_fld (pv 0) rfl) (pe_fld (pv 1) rfl) (nomark _)) (pe_one (pe_cmpR (op_eq8K (P := P) (w := w) (K := K) (mg := mg) (base := base) rfl rfl rfl rfl rfl TE FE hr) (pe_fld (pv 0) rfl) (pe_fld (pv 1) rfl) (nomark _))))))), ?_⟩
    obtain ⟨dx, a, b, h1, h2, h3⟩ := hp.here
    obtain ⟨dy, c, d, g1, g2, g3⟩ := hq.here
    have e1 : EqR K H (EqV K H 1) (.ref a) (.ref c) := .inr ⟨a, c, _, _, rfl, rfl, h2, g2, rfl, fun z hz => by
      obtain ⟨y, hy, rfl⟩ := List.mem_map.mp hz
      exact ⟨_, (by rw [val_T, getT_mem n1 hy]; rfl), .inl ⟨rfl, rfl⟩⟩⟩
    have isi : PySem.W.kitOne K (.ref CS) (.ref CS) = some true := if_pos (by simp)
    refine ⟨_, rfl, .ref q, .ref CS, .ref CS, .ref CS, true, rfl, .own CS, .base (.ins g1 T.clS T.ha T.hn T.tk T.hm), isi, ?_⟩
    refine ⟨true, rfl, ?_⟩
    refine ⟨_, rfl, p, CS, dx, _, _, rfl, h1, T.clS, T.nCh, rfl, _, rfl, q, CS, dy, _, _, rfl, g1, T.clS, T.nCh, rfl, 1, by decide, e1, true, rfl, ?_⟩
    refine ⟨_, rfl, p, CS, dx, _, _, rfl, h1, T.clS, T.nCa, rfl, _, rfl, q, CS, dy, _, _, rfl, g1, T.clS, T.nCa, rfl, ?_⟩
    have en : keysT cls' = keysT cls := by
      have := congrArg (List.map Prod.fst) em
      rw [List.map_map, List.map_map] at this
      exact this
    have n2' : (keysT cls').Nodup := by rw [en]; exact n2
    have ll : cls.length = cls'.length := by
      have := congrArg List.length em
      rw [List.length_map, List.length_map] at this
      exact this.symm
    by_cases e : b = d
    · subst e
      have ek : kvT vO cls = kvT vO cls' := by
        have := h3.symm.trans g3
        injection this with z
        injection z
      exact .inl ⟨1, by decide, .inr ⟨b, b, _, _, rfl, rfl, h3, h3, rfl, fun z hz => by
        obtain ⟨y, hy, rfl⟩ := List.mem_map.mp hz
        exact ⟨_, (by rw [val_T, getT_mem n2 hy]; rfl), .inr (.inl ⟨_, rfl, rfl⟩)⟩⟩, k H Ext.rfl'⟩
    · refine .inr ⟨b, d, _, _, rfl, rfl, e, h3, g3, by unfold kvT; rw [List.length_map, List.length_map]; exact ll, fun z hz => ?_, fun H' x => k H' x⟩
      obtain ⟨y, hy, rfl⟩ := List.mem_map.mp hz
      have hy' : (y.1, y.2.2) ∈ cls'.map fun x => (x.1, x.2.2) := by rw [em]; exact List.mem_map.mpr ⟨y, hy, rfl⟩
      obtain ⟨y', hm', ey⟩ := List.mem_map.mp hy'
      obtain ⟨e1, e2⟩ := Prod.mk.inj ey
      refine ⟨.ref y'.2.1, ?_, fun oa ob => ?_⟩
      · show valV (kvT vO cls') (Sum.inr y.1) = _
        rw [val_T, ← e1, getT_mem n2' hm']; rfl
      · have off : ∀ {u o}, H u = some o → (∀ kvs, o ≠ .dK kvs) → upd (upd H b (.frz oa (.dK (kvT vO cls)))) d (.frz ob (.dK (kvT vO cls'))) u = some o := fun {u o} z n => by
          rw [upd_ne fun e => by rw [e, g3] at z; exact n _ (Option.some.inj z).symm, upd_ne fun e => by rw [e, h3] at z; exact n _ (Option.some.inj z).symm]; exact z
        obtain ⟨dx1, t1, a1, a2⟩ := (hC y hy).here
        obtain ⟨dx2, t2, b1, b2⟩ := (hC' y' hm').here
        refine ⟨y.2.1, y'.2.1, dx1, dx2, _, _, rfl, rfl, off a1 (fun _ => by simp), off b1 (fun _ => by simp), y.2.2.1, y.2.2.2, ⟨dx1, t1, off a1 (fun _ => by simp), off a2 (fun _ => by simp)⟩, ?_, ly y hy⟩
        rw [← e2]
        exact ⟨dx2, t2, off b1 (fun _ => by simp), off b2 (fun _ => by simp)⟩
end
end Mc
namespace Mc
open PySem L2 PySem.Spec PyProof.Rows Gd Evl
/-- _law_lots, its lists told as new -/
def spLots8 (K : PySem.W.Frag) : Sp := fun vs H Q _ => ∃ (l : Addr) (ns : List PySem.Str), vs = [.ref l] ∧ H l = some (.lst (ns.map V.str)) ∧ ns.length ≤ 8 ∧
  ∀ (p : Addr) (as : List Addr) (H' : Hp), Same H H' → H' p = some (.lst (as.map V.ref)) → LLs H' as (lotsOf ns) → (∀ a ∈ as, H a = none) → Q (.ref p) H'
theorem lots8 {K : PySem.W.Frag} {vs : List V} {H : Hp} {Q : VK} {E : XK} (h : spLots K vs H Q E) : spLots8 K vs H Q E := by
  obtain ⟨l, ns, a, b, c, q⟩ := h
  exact ⟨l, ns, a, b, c, fun p as H' x y z _ => q p as H' x y z⟩
section
variable {P : Program} {w : World} {K : PySem.W.Frag} {mg : PySem.Str → Option Value} {base : Heap}
theorem ok_lots8 {f : Addr} {fd : FuncData} (F : Fun K "_law_lots" "_law_lots" sLots f fd) : FnOk P w K mg base CX0 1 f fd ["names"] (spLots8 K) := by
  refine F.ok scLots (fun vs H Q E h => ?_) (fun cdv A outer s H vs Q E hr h => ?_)
  · obtain ⟨l, ns, rfl, _⟩ := h
    rfl
  · obtain ⟨l, ns, rfl, hl, hn, q⟩ := h
    refine ⟨_, (pss_cons (ps_set (i := 1) scLots.nd rfl (Or.inl rfl) (pe_lst (pa_cons (pe_lst pa_nil) pa_nil)))
      (pss_cons (ps_for PassesOwn.never rfl (pi_list (pv 0)) (pg_name (i := 2) scLots.nd rfl (Or.inr rfl))
        (pss_one (ps_set (i := 1) scLots.nd rfl (Or.inl rfl) (pe_op op_cat (pv 1) (pe_lc (own := [("lot", 3)]) (g := gName 3) (tt := tYes) rfl scLots.nd (pi_list (pv 1)) (blkOk_by (own := [("lot", 3)]) (N := ["names", "found", "name", "lot"]) (sc := defScope sLots) (by decide +kernel)) (fun _ _ _ _ _ => pg_name (i := 3) scLots.nd rfl (Or.inl rfl)) (fun _ _ _ _ _ => pts_nil) (fun _ _ _ _ _ => (pe_op op_cat (pv 3) (pe_lst (pa_cons (pv 2) pa_nil)))))))))
      (pss_one (ps_ret (pv 1))))), ?_⟩
    refine ⟨(by show 0 ≤ sizeLine; decide), fun p0 hp0 => ⟨(by show 1 ≤ sizeLine; decide), fun p1 hp1 => ?_⟩⟩
    have s1 : Same H (upd (upd H p0 (.lst [])) p1 (.lst [.ref p0])) := Same.two hp0 hp1
    have a1 : LLs (upd (upd H p0 (.lst [])) p1 (.lst [.ref p0])) [p0] [[]] := ⟨rfl, fun i a r x y => by
      cases i with
      | zero =>
        cases Option.some.inj x
        cases Option.some.inj y
        rw [upd_ne fun e => by rw [← e, upd_same] at hp1; cases hp1]
        exact upd_same
      | succ i => cases x⟩
    have h1 : upd (upd H p0 (.lst [])) p1 (.lst [.ref p0]) p1 = some (.lst ([p0].map V.ref)) := upd_same
    generalize upd (upd H p0 (.lst [])) p1 (.lst [.ref p0]) = H1 at s1 a1 h1 ⊢
    refine ⟨_, rfl, l, rfl, ⟨_, SqL.of (s1 _ _ hl)⟩, for_list (K := K) (xs := ns.map V.str) (fun j σ H' => ∃ p as v2, σ = [some (.ref l), some (.ref p), v2, none] ∧ Same H H' ∧ H' p = some (.lst (as.map V.ref)) ∧ LLs H' as (lotsOf (ns.take j)) ∧ ∀ a ∈ as, H a = none) ⟨p1, [p0], none, rfl, s1, h1, a1, fun a ha => by rw [List.mem_singleton.mp ha]; exact hp0⟩ (fun j σ H' _ ⟨_, _, _, _, k, _⟩ => SqL.of (k _ _ hl)) ?_ ?_⟩
    · rintro j x σ H2 hx ⟨p, as, v2, rfl, s2, hp, hL, hF⟩
      rw [List.getElem?_map] at hx
      cases e : ns[j]? with
      | none => rw [e] at hx; cases hx
      | some m =>
        rw [e] at hx
        obtain rfl := Option.some.inj hx
        have hj := (List.getElem?_eq_some_iff.mp e).1
        have len2 : (lotsOf (ns.take j)).length ≤ 256 := by
          rw [lotsOf_len, List.length_take]
          exact Nat.pow_le_pow_right (n := 2) (by decide) (show _ ≤ 8 by omega)
        refine ⟨_, rfl, _, rfl, p, rfl, ⟨_, SqL.of hp⟩, fun D hD => lc_n (j := 3) (c := V.ref) (ys := as) (R := fun H' a b => ∀ r, H2 a = some (.lst (r.map V.str)) → H' b = some (.lst ((r ++ [m]).map V.str))) walk_list (by rw [List.length_map]) hD (fun H' s => SqL.of (s _ _ hp)) (by rw [hL.1, sizeLine_eq]; omega) (by intro H3 H4 y a r na k r' hr'; exact k _ _ na (r r' hr')) ?_ ?_⟩
        · intro i a H' k ha s3 hk
          have hi := (List.getElem?_eq_some_iff.mp ha).1
          obtain ⟨r, er⟩ : ∃ r, (lotsOf (ns.take j))[i]? = some r := ⟨_, List.getElem?_eq_getElem (by rw [← hL.1]; exact hi)⟩
          have har := hL.2 i a r ha er
          have lr : r.length ≤ 8 := by
            have := (lotsOf_sub (List.mem_of_getElem? er)).length_le
            rw [List.length_take] at this
            omega
          refine ⟨_, rfl, _, rfl, (by show 1 ≤ sizeLine; decide), fun q1 hq1 => ?_⟩
          have s4 : Same H' (upd H' q1 (.lst [.str m])) := Same.new hq1
          refine ⟨a, q1, r.map V.str, [V.str m], rfl, rfl, s4 _ _ (s3 _ _ har), upd_same, by rw [List.length_map, sizeLine_eq]; simp; omega, fun q2 hq2 => ?_⟩
          have n21 : q2 ≠ q1 := fun e => by rw [e, upd_same] at hq2; cases hq2
          refine hk _ q2 (s4.trans (Same.new hq2)) (by rw [upd_ne n21] at hq2; exact hq2) fun r' hr' => ?_
          rw [har] at hr'
          have e3 : r.map V.str = r'.map V.str := by injection hr' with e; injection e
          rw [upd_same, List.map_append, ← e3]
          rfl
        · intro H3 bs s3 hD3 lb hb
          refine ⟨p, D, as.map V.ref, bs.map V.ref, rfl, rfl, s3 _ _ hp, hD3, by rw [List.length_map, List.length_map, lb, hL.1, sizeLine_eq]; omega, fun q3 hq3 => ?_⟩
          have s4 : Same H3 (upd H3 q3 (.lst (as.map V.ref ++ bs.map V.ref))) := Same.new hq3
          refine ⟨q3, as ++ bs, some (.str m), rfl, (s2.trans s3).trans s4, by rw [upd_same, List.map_append], ?_, fun a ha => (List.mem_append.mp ha).elim (hF a) fun hb' => by
            obtain ⟨i, hi⟩ := List.mem_iff_getElem?.mp hb'
            exact fresh_back s2 (hb i a _ hi (List.getElem?_eq_getElem (by have := (List.getElem?_eq_some_iff.mp hi).1; rw [← lb]; exact this))).2.2⟩
          rw [List.take_add_one, e]
          show LLs _ _ (lotsOf (ns.take j ++ [m]))
          rw [lotsOf_snoc]
          refine ((hL.same s3).same s4).app ⟨by rw [List.length_map, lb, hL.1], fun i b r x y => ?_⟩
          rw [List.getElem?_map] at y
          cases er : (lotsOf (ns.take j))[i]? with
          | none => rw [er] at y; cases y
          | some r0 =>
            rw [er] at y
            obtain rfl : r0 ++ [m] = r := Option.some.inj y
            have hi := (List.getElem?_eq_some_iff.mp x).1
            have ha : as[i]? = some (as[i]'(by rw [← lb]; exact hi)) := List.getElem?_eq_getElem _
            exact s4 _ _ ((hb i b _ x ha).1 r0 (hL.2 i _ r0 ha er))
    · rintro σ H2 ⟨p, as, v2, rfl, s2, hp, hL, hF⟩
      rw [List.length_map, List.take_length] at hL
      exact ⟨_, rfl, q p as H2 s2 hp hL hF⟩
end
end Mc
namespace Mc
open PySem L2 PySem.Spec PyProof.Rows
abbrev sWrong : Stmt := top 0
def cnt (st : List (PySem.Str × PySem.Str)) (m : PySem.Str) : Nat := (st.filter fun x => decide (x.2 = m)).length
theorem cnt_snoc (st : List (PySem.Str × PySem.Str)) (x : PySem.Str × PySem.Str) (m : PySem.Str) : cnt (st ++ [x]) m = if x.2 = m then cnt st m + 1 else cnt st m := by
  unfold cnt
  rw [List.filter_append, List.length_append, List.filter_cons]
  by_cases e : x.2 = m
  · rw [if_pos e, if_pos (decide_eq_true e)]; rfl
  · rw [if_neg e, if_neg (by simp [e])]; rfl
end Mc
namespace Mc
open PySem L2 PySem.Spec PyProof.Rows
abbrev sSgs : Stmt := top 38
abbrev Tt := List (PySem.Str × PySem.Str)
def mkT (ns : List PySem.Str) (T : PySem.Str → PySem.Str) : Tt := ns.map fun c => (c, T c)
structure Snd (X : Sc PySem.Str) (ns : List PySem.Str) (t : Tt) : Prop where
  keys : keysT t = ns
  hd : ∀ x ∈ t, x.2 ∈ X.heard x.1
  cap : ∀ m, cnt t m ≤ X.cap m
theorem cnt_mk (ns : List PySem.Str) (T : PySem.Str → PySem.Str) (m : PySem.Str) : cnt (mkT ns T) m = (ns.filter fun c => decide (T c = m)).length := by
  unfold cnt mkT
  rw [List.filter_map, List.length_map]; rfl
theorem Right.sub {X : Sc PySem.Str} {ns : List PySem.Str} {c : PySem.Str} {T : PySem.Str → PySem.Str} (h : Right X (ns ++ [c]) T) : Right X ns T :=
  ⟨fun x hx => h.1 x (List.mem_append_left _ hx), fun m => Nat.le_trans (by rw [List.filter_append, List.length_append]; exact Nat.le_add_right _ _) (h.2 m)⟩
theorem Snd.right {X : Sc PySem.Str} {ns : List PySem.Str} {t : Tt} (h : Snd X ns t) (nd : ns.Nodup) : Seatable X ns := by
  have e : t = mkT ns fun c => (getT t c).getD c := by
    unfold mkT
    rw [← h.keys]
    unfold keysT
    rw [List.map_map]
    refine (List.map_id t).symm.trans (List.map_congr_left fun x hx => ?_)
    show x = (x.1, (getT t x.1).getD x.1)
    rw [getT_mem (by rw [h.keys]; exact nd) (v := x.2) hx]; rfl
  refine ⟨fun c => (getT t c).getD c, fun c hc => ?_, fun m => ?_⟩
  · obtain ⟨v, hv⟩ := getT_key (l := t) (k := c) (by rw [h.keys]; exact hc)
    show (getT t c).getD c ∈ _
    rw [hv]
    exact h.hd _ (getT_in hv)
  · rw [← cnt_mk, ← e]; exact h.cap m
theorem Snd.add {X : Sc PySem.Str} {ns : List PySem.Str} {t : Tt} (h : Snd X ns t) {c m : PySem.Str} (hm : m ∈ X.heard c) (hc : cnt t m < X.cap m) : Snd X (ns ++ [c]) (t ++ [(c, m)]) := by
  refine ⟨?_, fun x hx => ?_, fun m' => ?_⟩
  · unfold keysT; rw [List.map_append]; have := h.keys; unfold keysT at this; rw [this]; rfl
  · rcases List.mem_append.mp hx with hx | hx
    · exact h.hd x hx
    · cases List.mem_singleton.mp hx; exact hm
  · rw [cnt_snoc]
    by_cases e : m = m'
    · rw [if_pos e, ← e]; exact hc
    · rw [if_neg e]; exact h.cap m'
theorem Right.cnt_lt {X : Sc PySem.Str} {ns : List PySem.Str} {c : PySem.Str} {T : PySem.Str → PySem.Str} (h : Right X (ns ++ [c]) T) : cnt (mkT ns T) (T c) < X.cap (T c) := by
  have := h.2 (T c)
  rw [List.filter_append, List.length_append, List.filter_cons, if_pos (decide_eq_true rfl)] at this
  rw [cnt_mk]
  exact this
theorem mk_snoc (ns : List PySem.Str) (c : PySem.Str) (T : PySem.Str → PySem.Str) : mkT (ns ++ [c]) T = mkT ns T ++ [(c, T c)] := by unfold mkT; rw [List.map_append]; rfl
structure AllS (X : Sc PySem.Str) (ns : List PySem.Str) (L : List Tt) : Prop where
  snd : ∀ t ∈ L, Snd X ns t
  all : ∀ T, Right X ns T → mkT ns T ∈ L
theorem alls0 (X : Sc PySem.Str) : AllS X [] [[]] := ⟨fun t ht => by cases List.mem_singleton.mp ht; exact ⟨rfl, fun x hx => (nomatch hx), fun m => Nat.zero_le _⟩, fun T _ => List.mem_singleton.mpr rfl⟩
theorem AllS.iff {X : Sc PySem.Str} {ns : List PySem.Str} {L : List Tt} (h : AllS X ns L) (nd : ns.Nodup) : L ≠ [] ↔ Seatable X ns := by
  constructor
  · intro n
    cases L with
    | nil => exact absurd rfl n
    | cons t L => exact (h.snd t (by simp)).right nd
  · rintro ⟨T, hT⟩ e
    have := h.all T hT
    rw [e] at this; cases this
structure MidS (X : Sc PySem.Str) (ns : List PySem.Str) (c : PySem.Str) (L : List Tt) (j : Nat) (L2 : List Tt) : Prop where
  snd : ∀ t ∈ L2, Snd X (ns ++ [c]) t
  all : ∀ T, Right X (ns ++ [c]) T → mkT ns T ∈ L.take j → mkT (ns ++ [c]) T ∈ L2
  len : L2.length ≤ 4 * j
structure InnS (X : Sc PySem.Str) (ns : List PySem.Str) (c : PySem.Str) (L : List Tt) (j : Nat) (t : Tt) (hs : List PySem.Str) (k : Nat) (L2 : List Tt) : Prop where
  snd : ∀ t ∈ L2, Snd X (ns ++ [c]) t
  all : ∀ T, Right X (ns ++ [c]) T → mkT ns T ∈ L.take j → mkT (ns ++ [c]) T ∈ L2
  now : ∀ T, Right X (ns ++ [c]) T → mkT ns T = t → T c ∈ hs.take k → mkT (ns ++ [c]) T ∈ L2
  len : L2.length ≤ 4 * j + k
theorem InnS.yes {X : Sc PySem.Str} {ns : List PySem.Str} {c m : PySem.Str} {L : List Tt} {j : Nat} {t : Tt} {hs : List PySem.Str} {k : Nat} {L2 : List Tt} (h : InnS X ns c L j t hs k L2) (ht : Snd X ns t) (hm : hs[k]? = some m) (hh : m ∈ X.heard c) (hc : cnt t m < X.cap m) :
    InnS X ns c L j t hs (k + 1) (L2 ++ [t ++ [(c, m)]]) := by
  refine ⟨fun t' ht' => ?_, fun T hT h1 => List.mem_append_left _ (h.all T hT h1), fun T hT h1 h2 => ?_, by rw [List.length_append]; have := h.len; simp; omega⟩
  · rcases List.mem_append.mp ht' with ht' | ht'
    · exact h.snd t' ht'
    · cases List.mem_singleton.mp ht'; exact ht.add hh hc
  · rw [List.take_add_one, hm] at h2
    rcases List.mem_append.mp h2 with h2 | h2
    · exact List.mem_append_left _ (h.now T hT h1 h2)
    · have e : T c = m := List.mem_singleton.mp h2
      rw [mk_snoc, h1, e]
      exact List.mem_append_right _ (List.mem_singleton.mpr rfl)
theorem InnS.no {X : Sc PySem.Str} {ns : List PySem.Str} {c m : PySem.Str} {L : List Tt} {j : Nat} {t : Tt} {hs : List PySem.Str} {k : Nat} {L2 : List Tt} (h : InnS X ns c L j t hs k L2) (hm : hs[k]? = some m) (hc : ¬ cnt t m < X.cap m) : InnS X ns c L j t hs (k + 1) L2 := by
  refine ⟨h.snd, h.all, fun T hT h1 h2 => ?_, Nat.le_succ_of_le h.len⟩
  rw [List.take_add_one, hm] at h2
  rcases List.mem_append.mp h2 with h2 | h2
  · exact h.now T hT h1 h2
  · have e : T c = m := List.mem_singleton.mp h2
    have := hT.cnt_lt
    rw [h1, e] at this
    exact absurd this hc
theorem InnS.done {X : Sc PySem.Str} {ns : List PySem.Str} {c : PySem.Str} {L : List Tt} {j : Nat} {t : Tt} {hs : List PySem.Str} {L2 : List Tt} (h : InnS X ns c L j t hs hs.length L2) (ht : L[j]? = some t) (hh : X.heard c = hs) (h4 : hs.length ≤ 4) : MidS X ns c L (j + 1) L2 := by
  refine ⟨h.snd, fun T hT h1 => ?_, by have := h.len; omega⟩
  rw [List.take_add_one, ht] at h1
  rcases List.mem_append.mp h1 with h1 | h1
  · exact h.all T hT h1
  · have e : mkT ns T = t := List.mem_singleton.mp h1
    exact h.now T hT e (by rw [List.take_length, ← hh]; exact hT.1 c (by simp))
theorem MidS.start {X : Sc PySem.Str} {ns : List PySem.Str} {c : PySem.Str} {L : List Tt} {j : Nat} {L2 : List Tt} (h : MidS X ns c L j L2) (t : Tt) (hs : List PySem.Str) : InnS X ns c L j t hs 0 L2 := ⟨h.snd, h.all, fun T _ _ h2 => (nomatch h2), h.len⟩
theorem MidS.done {X : Sc PySem.Str} {ns : List PySem.Str} {c : PySem.Str} {L L2 : List Tt} (h : MidS X ns c L L.length L2) (hL : AllS X ns L) : AllS X (ns ++ [c]) L2 := ⟨h.snd, fun T hT => h.all T hT (by rw [List.take_length]; exact hL.all T hT.sub)⟩
def PDs (H : Hp) (as : List Addr) (L : List Tt) : Prop := as.length = L.length ∧ ∀ (i : Nat) b t, as[i]? = some b → L[i]? = some t → H b = some (.dK (kvT vS t))
theorem PDs.keep {H H' : Hp} {as : List Addr} {L : List Tt} (h : PDs H as L) (k : ∀ b kv, H b = some (.dK kv) → H' b = some (.dK kv)) : PDs H' as L := ⟨h.1, fun i b t e1 e2 => k _ _ (h.2 i b t e1 e2)⟩
theorem PDs.snoc {H : Hp} {as : List Addr} {L : List Tt} (h : PDs H as L) {b : Addr} {t : Tt} (hb : H b = some (.dK (kvT vS t))) : PDs H (as ++ [b]) (L ++ [t]) := by
  refine ⟨by rw [List.length_append, List.length_append, h.1]; rfl, fun i c r' e1 e2 => ?_⟩
  by_cases hi : i < as.length
  · rw [List.getElem?_append_left hi] at e1
    rw [List.getElem?_append_left (by rw [← h.1]; exact hi)] at e2
    exact h.2 i c r' e1 e2
  · have hl := (List.getElem?_eq_some_iff.mp e1).1
    rw [List.length_append] at hl
    have ei : i = as.length := by simp at hl; omega
    rw [ei, List.getElem?_append_right (Nat.le_refl _), Nat.sub_self] at e1
    rw [ei, h.1, List.getElem?_append_right (Nat.le_refl _), Nat.sub_self] at e2
    cases Option.some.inj e1; cases Option.some.inj e2
    exact hb
theorem paired_imp {α β : Type} {F G : α → β → Prop} : ∀ {as : List α} {bs : List β}, Paired F as bs → (∀ a b, F a b → G a b) → Paired G as bs
  | _, _, .nil, _ => .nil
  | _, _, .cons h t, k => .cons (k _ _ h) (paired_imp t k)
theorem paired_snoc {α β : Type} {F : α → β → Prop} {a : α} {b : β} : ∀ {as : List α} {bs : List β}, Paired F as bs → F a b → Paired F (as ++ [a]) (bs ++ [b])
  | _, _, .nil, h => .cons h .nil
  | _, _, .cons h t, k => .cons h (paired_snoc t k)
def spSgs (K : PySem.W.Frag) (CS CC : Addr) : Sp := fun vs H Q _ => ∃ (sc l : Addr) (chs : Chs) (cls : Cls') (ns : List PySem.Str), vs = [.ref sc, .ref l] ∧ SceneH K CS CC H sc chs cls ∧ OkC chs cls ∧ chs.length ≤ 4 ∧ H l = some (.lst (ns.map V.str)) ∧ ns.Nodup ∧ (∀ x ∈ ns, x ∈ keysT cls) ∧ ns.length ≤ 7 ∧
  ∀ (p : Addr) (as : List Addr) (H' : Hp), Same H H' → H' p = some (.lst (as.map V.ref)) → (as ≠ [] ↔ Seatable (ScM chs cls) ns) → Q (.ref p) H'
section
variable {P : Program} {w : World} {K : PySem.W.Frag} {mg : PySem.Str → Option Value} {base : Heap}
theorem scSg : FnScope ["scene", "names", "found", "name", "late", "seating", "mast", "one"] ["scene", "names"] (defScope sSgs) := ⟨rfl, rfl, rfl, by decide +kernel, rfl, by decide +kernel, by decide +kernel⟩
theorem ok_sgs {f CK CS CC : Addr} {fd : FuncData} (F : Fun K "_law_seatings" "_law_seatings" sSgs f fd) (T : TxK K mg CK CS CC) (dict : mg "dict" = none) : FnOk P w K mg base CX0 1 f fd ["scene", "names"] (spSgs K CS CC) := by
  refine F.ok scSg (fun vs H Q E h => ?_) (fun cdv A outer s H vs Q E hr h => ?_)
  · obtain ⟨sc, l, chs, cls, ns, rfl, _⟩ := h
    rfl
  · obtain ⟨sc, l, chs, cls, ns, rfl, ⟨⟨dx2, x, y, c1, c2, c3⟩, hC⟩, ok, h4, hl, nd, hnm, hlen, q⟩ := h
    have hu := hu_of hr
    refine ⟨_, (pss_cons (ps_set (i := 2) scSg.nd rfl (Or.inl rfl) (pe_lst (pa_cons pe_dnewK pa_nil)))
      (pss_cons (ps_for PassesOwn.never rfl (pi_list (pv 1)) (pg_name (i := 3) scSg.nd rfl (Or.inl rfl))
        (pss_cons (ps_set (i := 4) scSg.nd rfl (Or.inl rfl) (pe_lst pa_nil))
        (pss_cons (ps_for PassesOwn.never rfl (pi_list (pv 2)) (pg_name (i := 5) scSg.nd rfl (Or.inr rfl))
          (pss_one (ps_for PassesOwn.never rfl (pi_tup (pe_fld (pe_dget hu (pe_fld (pv 0) rfl) (pv 3) (fun _ _ => rfl)) rfl)) (pg_name (i := 6) scSg.nd rfl (Or.inr rfl))
            (pss_one (ps_if (pt_cmpR op_lt (pe_callB call_len_seq (by rfl) T.len PySem.boot_len (pa_cons (pe_lock (pe_lc (own := [("one", 7)]) (g := gName 7) rfl scSg.nd (pi_keys (pv 5)) (blkOk_by (own := [("one", 7)]) (N := ["scene", "names", "found", "name", "late", "seating", "mast", "one"]) (sc := defScope sSgs) (by decide +kernel)) (fun _ _ _ _ _ => pg_name (i := 7) scSg.nd rfl (Or.inl rfl)) (fun _ _ _ _ _ => pts_one (pt_cmpR op_eq (pe_dget hu (pv 5) (pv 7) (fun _ _ => rfl)) (pv 6) (nomark _))) (fun _ _ _ _ _ => (pv 7)))) pa_nil)) (pe_dget hu (pe_fld (pv 0) rfl) (pv 6) (fun _ _ => rfl)) (nomark _))
              (pss_one (ps_expr (pe_bm PySem.F.plainAttrs_list PySem.F.slot_list_append PySem.F.type_list_append mt_append (pv 4) (pa_cons (pe_callTy (call_dictP rfl) (by rfl) dict boot_dict (pa_cons (pe_op op_cat (LiI.pe_listItems rfl (pv 5) (by rfl) T.list boot_list) (pe_lst (pa_cons (pe_tup (pa_cons (pv 3) (pa_cons (pv 6) pa_nil))) pa_nil))) pa_nil)) pa_nil))))
              pss_nil)))))
        (pss_one (ps_set (i := 2) scSg.nd rfl (Or.inl rfl) (pv 4))))))
      (pss_one (ps_ret (pv 2))))), ?_⟩
    intro d0 hd0
    refine ⟨(by show 1 ≤ sizeLine; decide), fun fd0 hfd0 => ?_⟩
    have d0f : d0 ≠ fd0 := ne_of_none upd_same hfd0
    have hfdH : H fd0 = none := by rw [upd_ne d0f.symm] at hfd0; exact hfd0
    have s1 : Same H (upd (upd H d0 (.dK [])) fd0 (.lst [.ref d0])) := fun b o z => by rw [upd_ne (ne_of_none z hfdH), upd_ne (ne_of_none z hd0)]; exact z
    have hf1 : (upd (upd H d0 (.dK [])) fd0 (.lst [.ref d0])) fd0 = some (.lst ([d0].map V.ref)) := upd_same
    have hp1 : PDs (upd (upd H d0 (.dK [])) fd0 (.lst [.ref d0])) [d0] [[]] := ⟨rfl, fun i b t e1 e2 => by
      cases i with
      | zero => cases Option.some.inj e1; cases Option.some.inj e2; rw [upd_ne d0f]; exact upd_same
      | succ i => cases e1⟩
    generalize upd (upd H d0 (.dK [])) fd0 (.lst [.ref d0]) = H1 at s1 hf1 hp1 ⊢
    refine ⟨_, rfl, l, rfl, ⟨_, SqL.of (s1 _ _ hl)⟩, for_list (K := K) (xs := ns.map V.str) (fun u σ H' => ∃ fd as L v3 v4 v5 v6 v7, σ = [some (.ref sc), some (.ref l), some (.ref fd), v3, v4, v5, v6, v7] ∧ Same H H' ∧ H' fd = some (.lst (as.map V.ref)) ∧ PDs H' as L ∧ AllS (ScM chs cls) (ns.take u) L ∧ L.length ≤ 4 ^ u)
      ⟨fd0, [d0], [[]], _, _, _, _, _, rfl, s1, hf1, hp1, alls0 _, Nat.le_refl _⟩ (fun u σ H' _ ⟨fd, as, L, v3, v4, v5, v6, v7, _, s, _⟩ => SqL.of (s _ _ hl)) ?_ ?_⟩
    · rintro u xx σ H2 hx ⟨fd, as, L, v3, v4, v5, v6, v7, rfl, s2, hf2, hp2, hA, hLl⟩
      rw [List.getElem?_map] at hx
      cases hc : ns[u]? with
      | none => rw [hc] at hx; cases hx
      | some c =>
        rw [hc] at hx
        cases Option.some.inj hx
        have hu6 : u < 7 := Nat.lt_of_lt_of_le (List.getElem?_eq_some_iff.mp hc).1 hlen
        have h4u : 4 ^ u ≤ 4096 := Nat.le_trans (Nat.pow_le_pow_right (by decide) (by omega : u ≤ 6)) (by decide)
        have et : ns.take (u + 1) = ns.take u ++ [c] := by rw [List.take_add_one, hc]; rfl
        have ndc : (ns.take u ++ [c]).Nodup := by rw [← et]; exact nd.sublist (List.take_sublist _ _)
        obtain ⟨cd, hcd⟩ := getT_key (hnm c (List.mem_of_getElem? hc))
        obtain ⟨o1, o2, o3, o4, o5, o6⟩ := ok.cl _ (getT_in hcd)
        obtain ⟨dx3, hh, e1, e2⟩ := (hC _ (getT_in hcd)).here
        have hX : (ScM chs cls).heard c = cd.2.2 := by show ((getT cls c).map (·.2.2)).getD [] = _; rw [hcd]; rfl
        have hs4 : cd.2.2.length ≤ 4 := by
          have : cd.2.2.length ≤ (keysT chs).length := len_sub o4 o6
          unfold keysT at this
          rw [List.length_map] at this
          omega
        refine ⟨Nat.zero_le _, fun lt hlt => ?_⟩
        have sl : Same H2 (upd H2 lt (.lst [])) := fun b o z => by rw [upd_ne (ne_of_none z hlt)]; exact z
        refine ⟨_, rfl, fd, rfl, ⟨_, SqL.of (sl _ _ hf2)⟩, for_list (K := K) (xs := as.map V.ref) (fun j σ H' => ∃ as2 L2 v5 v6 v7, σ = [some (.ref sc), some (.ref l), some (.ref fd), some (.str c), some (.ref lt), v5, v6, v7] ∧ Same H2 H' ∧ H' lt = some (.lst (as2.map V.ref)) ∧ PDs H' as2 L2 ∧ MidS (ScM chs cls) (ns.take u) c L j L2)
          ⟨[], [], _, _, _, rfl, sl, upd_same, ⟨rfl, fun i b t e => (nomatch e)⟩, ⟨fun t ht => (nomatch ht), fun T _ h => (nomatch h), Nat.le_refl _⟩⟩ (fun j σ H' _ ⟨as2, L2, v5, v6, v7, _, s, _⟩ => SqL.of (s _ _ hf2)) ?_ ?_⟩
        · rintro j xx σ H3 hx ⟨as2, L2, w5, w6, w7, rfl, s3, hl3, hp3, hM⟩
          rw [List.getElem?_map] at hx
          cases hb : as[j]? with
          | none => rw [hb] at hx; cases hx
          | some b =>
            rw [hb] at hx
            cases Option.some.inj hx
            have hjL : j < L.length := by rw [← hp2.1]; exact (List.getElem?_eq_some_iff.mp hb).1
            obtain ⟨t, ht⟩ : ∃ t, L[j]? = some t := ⟨_, List.getElem?_eq_getElem hjL⟩
            have hbt := hp2.2 j b t hb ht
            have hst := hA.snd t (List.mem_of_getElem? ht)
            have s3H := s2.trans s3
            refine ⟨_, rfl, sc, CS, dx2, _, _, rfl, s3H _ _ c1, T.clS, T.nCa, rfl, _, rfl, y, _, rfl, dgetT (f := vO) (rd_same c3 s3H) hcd, cd.1, CC, dx3, _, _, rfl, s3H _ _ e1, T.clC, T.nH, rfl, hh, rfl, ⟨_, SqT.of (s3H _ _ e2)⟩, for_tup (K := K) (xs := cd.2.2.map V.str) (fun k σ H' => ∃ as2 L2 v6 v7, σ = [some (.ref sc), some (.ref l), some (.ref fd), some (.str c), some (.ref lt), some (.ref b), v6, v7] ∧ Same H2 H' ∧ H' lt = some (.lst (as2.map V.ref)) ∧ PDs H' as2 L2 ∧ InnS (ScM chs cls) (ns.take u) c L j t cd.2.2 k L2)
              ⟨as2, L2, _, _, rfl, s3, hl3, hp3, hM.start t cd.2.2⟩ (fun k σ H' _ ⟨as2, L2, v6, v7, _, s, _⟩ => SqT.of ((s2.trans s) _ _ e2)) ?_ ?_⟩
            · rintro k xx σ H4 hx ⟨as4, L4, z6, z7, rfl, s4, hl4, hp4, hI⟩
              rw [List.getElem?_map] at hx
              cases hm : cd.2.2[k]? with
              | none => rw [hm] at hx; cases hx
              | some m =>
                rw [hm] at hx
                cases Option.some.inj hx
                have hk4 : k < 4 := Nat.lt_of_lt_of_le (List.getElem?_eq_some_iff.mp hm).1 hs4
                have hb4 := s4 _ _ hbt
                have s4H := s2.trans s4
                obtain ⟨n, hn⟩ := getT_key (o6 m (List.mem_of_getElem? hm))
                have n0 : 0 ≤ n := (ok.ch _ (getT_in hn)).2.1
                have hcap : (ScM chs cls).cap m = n.toNat := by show ((getT chs m).getD 0).toNat = _; rw [hn]; rfl
                have ndt : (keysT t).Nodup := by rw [hst.keys]; exact nd.sublist (List.take_sublist _ _)
                have lent : t.length ≤ 6 := by
                  have := congrArg List.length hst.keys
                  unfold keysT at this
                  rw [List.length_map, List.length_take] at this
                  omega
                refine ⟨b, _, hb4, trivial, fun od => ⟨_, rfl, b, od, rfl, .inl ⟨_, upd_same, fun D hD => lc_it walk_keys (fun i H' => ∃ zs : List V, H' = upd (upd H4 b (.frz od (.dK (kvT vS t)))) D (.lst zs) ∧ zs.length = cnt (t.take i) m) ⟨[], rfl, rfl⟩ (fun i H' _ ⟨zs, e, _⟩ => by rw [e]; show _ = _; rw [upd_ne (ne_of_none upd_same hD)]; exact upd_same) ?_ ?_⟩⟩⟩
                · rintro i v _ H5 hi ⟨zs, rfl, hz⟩ ⟨rfl, kk, v', hk, rfl⟩
                  obtain ⟨z, hzt, rfl, rfl⟩ := kvT_get hk
                  have bD : b ≠ D := ne_of_none (show (upd H4 b (.frz od (.dK (kvT vS t)))) b = some _ from upd_same) hD
                  have eti : t.take (i + 1) = t.take i ++ [z] := by rw [List.take_add_one, hzt]; rfl
                  refine ⟨rfl, _, rfl, _, rfl, b, _, rfl, dgetT (f := vS) (.inr ⟨od, by rw [upd_ne bD]; exact upd_same⟩) (getT_mem ndt (v := z.2) (List.mem_of_getElem? hzt)), _, rfl, rfl, _, rfl, ?_⟩
                  refine ite2 (fun h => ?_) (fun h => ?_)
                  · have e : z.2 = m := V.str.inj (of_decide_eq_true h)
                    refine ⟨_, rfl, zs, upd_same, ?_, zs ++ [_], by rw [upd_upd], ?_⟩
                    · have h1 : cnt (t.take i) m ≤ t.length := Nat.le_trans (List.length_filter_le _ _) (by rw [List.length_take]; exact Nat.min_le_right _ _)
                      rw [hz]; exact Nat.lt_of_le_of_lt (Nat.le_trans h1 lent) (by decide)
                    · rw [List.length_append, hz, eti, cnt_snoc, if_pos e]; rfl
                  · have e : ¬ z.2 = m := fun z => h (decide_eq_true (congrArg V.str z))
                    exact ⟨zs, rfl, by rw [hz, eti, cnt_snoc, if_neg e]⟩
                · rintro H5 ⟨zs, rfl, hz⟩
                  rw [show (kvT vS t).length = t.length by unfold kvT; rw [List.length_map], List.take_length] at hz
                  have bD : b ≠ D := ne_of_none (show (upd H4 b (.frz od (.dK (kvT vS t)))) b = some _ from upd_same) hD
                  have hD0 : H4 D = none := by rw [upd_ne bD.symm] at hD; exact hD
                  refine ⟨by rw [upd_ne bD]; exact upd_same, ?_⟩
                  have e0 : upd (upd (upd H4 b (.frz od (.dK (kvT vS t)))) D (.lst zs)) b (.dK (kvT vS t)) = upd H4 D (.lst zs) := by
                    funext a
                    by_cases e : a = b
                    · subst e; rw [upd_same, upd_ne bD]; exact hb4.symm
                    · rw [upd_ne e]
                      by_cases e2 : a = D
                      · subst e2; rw [upd_same, upd_same]
                      · rw [upd_ne e2, upd_ne e, upd_ne e2]
                  rw [e0]
                  have s5 : Same H4 (upd H4 D (.lst zs)) := fun b o z => by rw [upd_ne (ne_of_none z hD0)]; exact z
                  have hD5 : (upd H4 D (.lst zs)) D = some (.lst zs) := upd_same
                  generalize upd H4 D (.lst zs) = H5 at s5 hD5 ⊢
                  have s5H := s4H.trans s5
                  refine ⟨D, zs, rfl, .inl (SqL.of hD5), _, rfl, sc, CS, dx2, _, _, rfl, s5H _ _ c1, T.clS, T.nCh, rfl, _, rfl, x, _, rfl, dgetT (f := vI) (rd_same c2 s5H) hn, _, _, rfl, rfl, _, rfl, ?_⟩
                  have hl5 := s5 _ _ hl4
                  have hp5 : PDs H5 as4 L4 := hp4.keep fun b kv z => s5 _ _ z
                  have hb5 := s5 _ _ hb4
                  have lenL : L4.length ≤ 4 * 4096 + 4 := by have := hI.len; omega
                  refine ite2 (fun h => ?_) (fun h => ?_)
                  · have hlt5 : cnt t m < (ScM chs cls).cap m := by
                      have h' := of_decide_eq_true h
                      rw [hz] at h'
                      rw [hcap]; omega
                    refine ⟨_, rfl, .inl ⟨rfl, _, SqL.of hl5⟩, _, rfl, b, kvT vS t, rfl, hb5, fun H6 p ts s6 hp0 hts hpt hp6 hPr => ?_⟩
                    refine ⟨_, rfl, _, rfl, (by show 2 ≤ sizeLine; decide), fun r hr' => ⟨(by show 1 ≤ sizeLine; decide), fun e he => ?_⟩⟩
                    have lts : ts.length = t.length := by have := Paired.length hPr; unfold kvT at this; rw [List.length_map] at this; exact this
                    have pr : p ≠ r := ne_of_none hp6 hr'
                    have hpe : (upd H6 r (.tup [.str c, .str m])) p = some (.lst (ts.map V.ref)) := by rw [upd_ne pr]; exact hp6
                    have pe' : p ≠ e := ne_of_none hpe he
                    refine ⟨p, e, ts.map V.ref, [.ref r], rfl, rfl, by rw [upd_ne pe']; exact hpe, upd_same, by rw [List.length_map, lts]; exact Nat.le_trans (Nat.add_le_add_right lent 1) (by decide), fun g hg => ?_⟩
                    have he0 : H6 e = none := by rw [upd_ne (ne_of_none (show (upd H6 r (.tup [.str c, .str m])) r = some _ from upd_same) he).symm] at he; exact he
                    have s7 : Same H6 (upd (upd (upd H6 r (.tup [.str c, .str m])) e (.lst [.ref r])) g (.lst (ts.map V.ref ++ [.ref r]))) := fun a o z => by
                      have z1 : (upd H6 r (.tup [.str c, .str m])) a = some o := by rw [upd_ne (ne_of_none z hr')]; exact z
                      have z2 : (upd (upd H6 r (.tup [.str c, .str m])) e (.lst [.ref r])) a = some o := by rw [upd_ne (ne_of_none z1 he)]; exact z1
                      rw [upd_ne (ne_of_none z2 hg)]; exact z2
                    have hr7 : (upd (upd (upd H6 r (.tup [.str c, .str m])) e (.lst [.ref r])) g (.lst (ts.map V.ref ++ [.ref r]))) r = some (.tup [.str c, .str m]) := by
                      have z1 : (upd H6 r (.tup [.str c, .str m])) r = some (.tup [.str c, .str m]) := upd_same
                      have z2 : (upd (upd H6 r (.tup [.str c, .str m])) e (.lst [.ref r])) r = some (.tup [.str c, .str m]) := by rw [upd_ne (ne_of_none z1 he)]; exact z1
                      rw [upd_ne (ne_of_none z2 hg)]; exact z2
                    have hg7 : (upd (upd (upd H6 r (.tup [.str c, .str m])) e (.lst [.ref r])) g (.lst (ts.map V.ref ++ [.ref r]))) g = some (.lst ((ts ++ [r]).map V.ref)) := by rw [upd_same, List.map_append]; rfl
                    generalize (upd (upd (upd H6 r (.tup [.str c, .str m])) e (.lst [.ref r])) g (.lst (ts.map V.ref ++ [.ref r]))) = H7 at s7 hr7 hg7 ⊢
                    have s57 : Same H5 H7 := fun a o z => s7 _ _ (s6 a o z)
                    have ndtc : (keysT (t ++ [(c, m)])).Nodup := by rw [(hst.add (c := c) (m := m) (by rw [hX]; exact List.mem_of_getElem? hm) hlt5).keys]; exact ndc
                    refine ⟨g, ts ++ [r], kvT vS (t ++ [(c, m)]), rfl, SqL.of hg7, ?_, fun z hz => ?_⟩
                    · rw [kvT_app]
                      exact paired_snoc (paired_imp hPr fun a b h => SqT.of (s7 _ _ h)) (SqT.of hr7)
                    · rw [merge_T ndtc]
                      have hl8 : (upd H7 z (.dK (kvT vS (t ++ [(c, m)])))) lt = some (.lst (as4.map V.ref)) := by rw [upd_ne (ne_of_none (s57 _ _ hl5) hz)]; exact s57 _ _ hl5
                      have zl : z ≠ lt := (ne_of_none (s57 _ _ hl5) hz).symm
                      refine ⟨lt, _, _, rfl, rfl, hl8, by rw [List.length_map, hp5.1]; exact Nat.lt_of_le_of_lt lenL (by decide), as4 ++ [z], L4 ++ [t ++ [(c, m)]], _, _, rfl, fun a o q' => ?_, by rw [upd_same, List.map_append]; rfl, ?_, hI.yes hst hm (by rw [hX]; exact List.mem_of_getElem? hm) hlt5⟩
                      · have al : a ≠ lt := ne_of_none q' hlt
                        have q7 := s57 _ _ (s5 _ _ (s4 _ _ q'))
                        rw [upd_ne al, upd_ne (ne_of_none q7 hz)]; exact q7
                      · refine (hp5.keep fun a kv q' => ?_).snoc (by rw [upd_ne zl]; exact upd_same)
                        have al : a ≠ lt := fun e => by rw [e, hl5] at q'; cases q'
                        rw [upd_ne al, upd_ne (ne_of_none (s57 _ _ q') hz)]; exact s57 _ _ q'
                  · have hlt5 : ¬ cnt t m < (ScM chs cls).cap m := fun z => h (decide_eq_true (by rw [hcap] at z; rw [hz]; omega))
                    exact ⟨as4, L4, _, _, rfl, s4.trans s5, hl5, hp5, hI.no hm hlt5⟩
            · rintro σ H4 ⟨as4, L4, z6, z7, rfl, s4, hl4, hp4, hI⟩
              rw [List.length_map] at hI
              exact ⟨as4, L4, _, _, _, rfl, s4, hl4, hp4, hI.done ht hX hs4⟩
        · rintro σ H3 ⟨as2, L2, w5, w6, w7, rfl, s3, hl3, hp3, hM⟩
          rw [List.length_map, hp2.1] at hM
          refine ⟨_, rfl, lt, as2, L2, _, _, _, _, _, rfl, s2.trans s3, hl3, hp3, by rw [et]; exact hM.done hA, ?_⟩
          have := hM.len
          rw [Nat.pow_succ]; omega
    · rintro σ H2 ⟨fd, as, L, v3, v4, v5, v6, v7, rfl, s2, hf2, hp2, hA, hLl⟩
      rw [List.length_map, List.take_length] at hA
      refine ⟨_, rfl, q fd as H2 s2 hf2 ?_⟩
      rw [← hA.iff nd]
      constructor
      · intro n e; rw [e] at hp2; exact n (List.length_eq_zero_iff.mp hp2.1)
      · intro n e; rw [e] at hp2; exact n (List.length_eq_zero_iff.mp hp2.1.symm)
end
end Mc
namespace Mc
open PySem L2 PySem.Spec PyProof.Rows Gd
/-! the mathematics of the best lot -/
def rowOf (ys L : List PySem.Str) : List Int := ys.map fun x => if x ∈ L then 0 else 1
/-- of two lots, at the first place where they are not alike -/
theorem row_lt : ∀ {ys A B : List PySem.Str}, (∃ P x Q, ys = P ++ x :: Q ∧ (∀ y ∈ P, y ∈ A ↔ y ∈ B) ∧ x ∈ A ∧ x ∉ B) → rowOf ys A < rowOf ys B
  | ys, A, B, ⟨P, x, Q, e, hP, hA, hB⟩ => by
    subst e
    unfold rowOf
    rw [List.map_append, List.map_append]
    have e1 : (P.map fun x => if x ∈ A then (0 : Int) else 1) = P.map fun x => if x ∈ B then (0 : Int) else 1 := List.map_congr_left fun y hy => by
      by_cases z : y ∈ A
      · rw [if_pos z, if_pos ((hP y hy).mp z)]
      · rw [if_neg z, if_neg fun k => z ((hP y hy).mpr k)]
    rw [e1]
    generalize (P.map fun x => if x ∈ B then (0 : Int) else 1) = R
    rw [List.map_cons, List.map_cons, if_pos hA, if_neg hB]
    induction R with
    | nil => exact List.cons_lt_cons_iff.mpr (.inl (by decide))
    | cons r R ih => exact List.cons_lt_cons_iff.mpr (.inr ⟨rfl, ih⟩)
theorem first_diff : ∀ {ys A B : List PySem.Str}, (∀ y ∈ ys, y ∈ A ↔ y ∈ B) ∨ ∃ P x Q, ys = P ++ x :: Q ∧ (∀ y ∈ P, y ∈ A ↔ y ∈ B) ∧ ¬ (x ∈ A ↔ x ∈ B)
  | [], A, B => .inl fun y hy => nomatch hy
  | y :: ys, A, B => by
    by_cases h : y ∈ A ↔ y ∈ B
    · rcases first_diff (ys := ys) (A := A) (B := B) with k | ⟨P, x, Q, e, hP, hx⟩
      · exact .inl fun z hz => (List.mem_cons.mp hz).elim (fun e => e ▸ h) (k z)
      · exact .inr ⟨y :: P, x, Q, by rw [e]; rfl, fun z hz => (List.mem_cons.mp hz).elim (fun e => e ▸ h) (hP z), hx⟩
    · exact .inr ⟨[], y, ys, rfl, fun z hz => (nomatch hz), h⟩
/-- the greedy lot is before any other seatable lot of the row -/
theorem gr_best {X : Sc PySem.Str} {ys L : List PySem.Str} (nd : ys.Nodup) (sub : ∀ x ∈ L, x ∈ ys) (sL : Seatable X L) : (∀ y ∈ ys, y ∈ gr X ys ↔ y ∈ L) ∨ rowOf ys (gr X ys) < rowOf ys L := by
  rcases first_diff (ys := ys) (A := gr X ys) (B := L) with h | ⟨P, x, Q, e, hP, hx⟩
  · exact .inl h
  · refine .inr (row_lt ⟨P, x, Q, e, hP, ?_⟩)
    by_cases hg : x ∈ gr X ys
    · exact ⟨hg, fun z => hx ⟨fun _ => z, fun _ => hg⟩⟩
    · have hL : x ∈ L := Classical.byContradiction fun z => hx ⟨fun k => absurd k hg, fun k => absurd k z⟩
      exfalso
      subst e
      refine hg ((gr_iff nd).mpr (seat_sub (snoc_nd (gr_nd (List.nodup_append.mp nd).1) fun z => (List.nodup_append.mp nd).2.2 x (gr_sub _ _ x z) x (by simp) rfl) (fun y hy => ?_) sL))
      rcases List.mem_append.mp hy with z | z
      · have yP := gr_sub _ _ y z
        refine (hP y yP).mp ?_
        exact gr_keep _ z
      · rw [List.mem_singleton.mp z]; exact hL
end Mc
namespace Mc
open PySem L2 PySem.Spec PyProof.Rows LamX NdefX
/-! ### lambdas with parameters: made, kept as objects with a name, called -/
/-- the object at f is the lambda F with that body (F.body is not looked at) -/
def LmO (f : Addr) (F : NF) (bd : Expr) : HO := .ext fun h => ∃ (pm ctv : Value), h.get? f = some (PySem.W.kla_obj "<lambda>" F.qual F.params bd F.scope F.cl pm F.c ctv)
theorem lmO_ne {f : Addr} {F : NF} {bd : Expr} (ps : Array Value) : LmO f F bd ≠ .tbl ps := fun z => by
  unfold LmO at z
  cases z
theorem lmO_at {P : Program} {w : World} {H : Hp} {h : Heap} {f : Addr} {F : NF} {bd : Expr} (hok : HOk P w H h) (e : H f = some (LmO f F bd)) : ∃ (pm ctv : Value), h.get? f = some (PySem.W.kla_obj "<lambda>" F.qual F.params bd F.scope F.cl pm F.c ctv) := by
  obtain ⟨z, _, _⟩ := hok f _ e
  exact z
section
variable {X : Cx} {pins : List (Addr × Obj)} {σ : L2.St} {H : Hp} {s : Shared}
theorem inv_lm {F : NF} {bd : Expr} {t' : Nat} {pm ctv : Value} (I : Inv X pins σ H s) :
    Inv X pins σ (upd H s.heap.objs.size (LmO s.heap.objs.size F bd)) { s with heap := s.heap.push (PySem.W.kla_obj "<lambda>" F.qual F.params bd F.scope F.cl pm F.c ctv), toks := t' } := by
  refine I.laid (a := s.heap.objs.size) (fun b u e => Heap.get?_push_of_some _ e) (Nat.le_refl _) ?_
  have e : (s.heap.push (PySem.W.kla_obj "<lambda>" F.qual F.params bd F.scope F.cl pm F.c ctv)).get? s.heap.objs.size = some (PySem.W.kla_obj "<lambda>" F.qual F.params bd F.scope F.cl pm F.c ctv) := Heap.get?_push_size _ rfl
  exact ⟨⟨pm, ctv, e⟩, ⟨_, e⟩, fun h1 h2 ⟨p, t, z⟩ st => ⟨p, t, st _ z⟩⟩
/-- the lambda of X's def over that scope, its code object at c -/
abbrev lamF (X : Cx) (params : Arguments) (scope : Scope) (c : Addr) : NF := ⟨"<lambda>", X.env.qual ++ "<lambda>", params, [], scope, cloFrom X.env.cells scope.names [], c⟩
theorem lam_mk {T : List NTab} {nm : Nat → Nat → PySem.Str} {c P : Addr} {params : Arguments} {bd : Expr} {scope : Scope} {pos : Pos} {E : Value → Shared → Prop} {Q : Value → Shared → Prop} (I : Inv X pins σ H s) (TB : TabB X.base X.mg c P) (hcode : X.env.code = .ref c)
    (hm : (P, nm) ∈ T) (hn : nm pos.line pos.col = X.env.qual ++ "<lambda>") (hu : ∀ p ∈ T, p.1 = P → p.2 = nm) (hT : TabsN T H) (hdef : defaultsOf params X.env = ([], [])) (hfree : ∀ y ∈ scope.names, y.2 = .free → ∃ c, X.env.cells.lookup y.1 = some c)
    (h : ∀ (f c' : Addr) (H1 : Hp) (s' : Shared), Inv X pins σ H1 s' → ExtN H H1 → (∀ b, H1 b = none → H b = none) → TabsN T H1 → H f = none → H1 f = some (LmO f (lamF X params scope c') bd) → H1 c' = some (CodeO c' (X.env.qual ++ "<lambda>")) → Q (.ref f) s') :
    wpAny (model X.prog X.w) X.A (eval (.Lambda params bd scope pos) X.env) Q E s := by
  obtain ⟨ps, hP, ht, ha⟩ := (show TabN H P nm from hT _ hm)
  refine PySem.W.kla_eval hdef ?_
  have bP : s.heap.BuiltinsAt X.mg P := TB.bm.keeps I.bk
  have hP' : s.heap.get? P = some { cls := .none, data := .fields ps } := I.hok P _ hP
  cases hc : codeAmong pos ps.toList with
  | none =>
    refine PySem.W.kla_makeFunction (mg := X.mg) (c := c) (P := P) (ps := ps) (closure_ok hfree) I.ok.glob (I.mod.glob.keeps I.bk) hcode (TB.code.keeps I.bk) hP' ht hc TB.gP bP fun c' ctv h' tk hx hge hlt hrec htb => ?_
    obtain ⟨c2, oc, vs, t, e2, hoc, hd, hv⟩ := hrec
    cases e2
    have nC : H c' = none := I.hok.fresh hge
    have I1 := inv_table (t' := tk) (more := #[rawInt pos.line, rawInt pos.col, .ref c']) (h' := h') I hP (fun b o hb e => hx b o hb e) htb hge ⟨oc, vs, t, hoc, hd, hv⟩
    generalize eH1 : upd (upd H P (.tbl (ps ++ #[rawInt pos.line, rawInt pos.col, .ref c']))) c' (CodeO c' (X.env.qual ++ "<lambda>")) = H1 at I1
    have hE : ExtN H H1 := fun b o e n => by
      rw [← eH1, upd_ne (ne_of_none e nC), upd_ne (fun z => n ps (Option.some.inj (e.symm.trans (by rw [z]; exact hP))))]
      exact e
    have hcc : H1 c' = some (CodeO c' (X.env.qual ++ "<lambda>")) := by rw [← eH1]; exact upd_same
    have T1 : TabsN T H1 := fun p hp => by
      by_cases hb : p.1 = P
      · rw [hu p hp hb, hb]
        refine ⟨ps ++ #[rawInt pos.line, rawInt pos.col, .ref c'], by rw [← eH1, upd_ne (ne_of_none hP nC), upd_same], ?_, fun p' cv hcv => ?_⟩
        · rw [show (ps ++ #[rawInt pos.line, rawInt pos.col, .ref c']).toList = ps.toList ++ [rawInt pos.line, rawInt pos.col, .ref c'] by simp]
          exact PySem.TriplesOk_snoc _ _ _ _ ht
        · rw [show (ps ++ #[rawInt pos.line, rawInt pos.col, .ref c']).toList = ps.toList ++ [rawInt pos.line, rawInt pos.col, .ref c'] by simp] at hcv
          rcases among_app2 _ ht hcv with z | ⟨z, z1, z2⟩
          · obtain ⟨c0, e1, e2⟩ := ha p' cv z
            exact ⟨c0, e1, hE _ _ e2 codeO_ne⟩
          · exact ⟨c', z, by rw [← z1, ← z2, hn]; exact hcc⟩
      · obtain ⟨ps', a1, a2, a3⟩ := hT p hp
        refine ⟨ps', by rw [← eH1, upd_ne (ne_of_none a1 nC), upd_ne hb]; exact a1, a2, fun p' cv hcv => ?_⟩
        obtain ⟨c0, e1, e2⟩ := a3 p' cv hcv
        exact ⟨c0, e1, hE _ _ e2 codeO_ne⟩
    have nF : H1 h'.objs.size = none := I1.hok.fresh (Nat.le_refl _)
    have I2 := inv_lm (F := lamF X params scope c') (bd := bd) (t' := tk) (pm := (X.mg "__name__").getD .none) (ctv := ctv) I1
    refine h h'.objs.size c' _ _ I2 (fun b o e n => ?_) (fun b e => ?_) (T1.ext fun b o e => ?_) (I.hok.fresh (Nat.le_trans hge (Nat.le_of_lt hlt))) upd_same ?_
    · exact (upd_ne (ne_of_none (hE b o e n) nF)).trans (hE b o e n)
    · have e1 := upd_none e
      rw [← eH1] at e1
      exact upd_none (upd_none e1)
    · exact (upd_ne (ne_of_none e nF)).trans e
    · exact (upd_ne (Nat.ne_of_lt hlt)).trans hcc
  | some cv =>
    obtain ⟨c', e, hco⟩ := ha pos cv hc
    subst e
    rw [hn] at hco
    refine PySem.W.kla_makeFunctionHit (mg := X.mg) (c := c) (P := P) (ps := ps) (closure_ok hfree) I.ok.glob (I.mod.glob.keeps I.bk) hcode (TB.code.keeps I.bk) hP' ht hc bP fun ctv h' tk hx hsz => ?_
    have I1 : Inv X pins σ H { s with heap := h', toks := tk } := I.kept hx
    have nF : H h'.objs.size = none := I1.hok.fresh (Nat.le_refl _)
    have I2 := inv_lm (F := lamF X params scope c') (bd := bd) (t' := tk) (pm := (X.mg "__name__").getD .none) (ctv := ctv) I1
    exact h h'.objs.size c' _ _ I2 (fun b o e n => (upd_ne (ne_of_none e nF)).trans e) (fun b e => upd_none e) (hT.ext fun b o e => (upd_ne (ne_of_none e nF)).trans e) nF upd_same ((upd_ne (ne_of_none hco nF)).trans hco)
end
/-- the reading of a lambda: a new object -/
def tLamP (T : List NTab) (mk : Addr → NF) (bd : Expr) : TE := fun σ H Q => TabsN T H ∧ ∀ (f c' : Addr) (H1 : Hp), ExtN H H1 → (∀ b, H1 b = none → H b = none) → TabsN T H1 → H f = none → H1 f = some (LmO f (mk c') bd) → H1 c' = some (CodeO c' (mk c').qual) → Q (.ref f) H1
section
variable {X : Cx}
theorem pe_lam {T : List NTab} {nm : Nat → Nat → PySem.Str} {c P : Addr} {params : Arguments} {bd : Expr} {scope : Scope} {pos : Pos} (TB : TabB X.base X.mg c P) (hcode : X.env.code = .ref c)
    (hm : (P, nm) ∈ T) (hn : nm pos.line pos.col = X.env.qual ++ "<lambda>") (hu : ∀ p ∈ T, p.1 = P → p.2 = nm) (hdef : defaultsOf params X.env = ([], []))
    (hfree : ∀ y ∈ scope.names, y.2 = .free → X.env.scope.names.lookup y.1 = some .cell ∨ X.env.scope.names.lookup y.1 = some .free) : PE X (.Lambda params bd scope pos) (tLamP T (lamF X params scope) bd) := by
  refine ⟨fun pins s σ H Q I h => ?_⟩
  obtain ⟨hT, q⟩ := h
  exact lam_mk I TB hcode hm hn hu hT hdef (fun y hy e => I.ok.has _ (hfree y hy e)) fun f c' H1 s' I1 h1 h2 h3 h4 h5 h6 => ⟨.ref f, H1, I1, rfl, q f c' H1 h1 h2 h3 h4 h5 h6⟩
end
/-! ### what a lambda promises -/
structure LOk (P : Program) (w : World) (K : PySem.W.Frag) (mg : PySem.Str → Option Value) (base : Heap) (CX : CXT) (k : Nat) (f : Addr) (F : NF) (bd : Expr) (ps fr : List PySem.Str) (sp : List (Option V) → Sp) : Prop where
  len : ∀ ws vs H Q E, sp ws vs H Q E → vs.length = ps.length
  run : ∀ (A : Around) (outer : List Env) (s : Shared) (H : Hp) (us : List Value) (vs : List V) (ws : List (Option V)) (Q : VK) (E : XK), Room k A → Env0 P w K mg base A outer s H → H f = some (LmO f F bd) → H F.c = some (CodeO F.c F.qual) →
    CellsAt F.cl fr ws s.heap H → Vals vs us → sp ws vs H Q E → codeAny (model P w) A (.call (.ref f) ⟨us, []⟩) (CR CX outer P w H s Q E) s
section
variable {CX : CXT} {P : Program} {w : World} {K : PySem.W.Frag} {mg : PySem.Str → Option Value} {base : Heap} {N ps fr : List PySem.Str} {F : NF} {bd : Expr} {f : Addr} {k : Nat} {sp : List (Option V) → Sp}
theorem lok_of (S : NScope N ps fr F.scope) (hb : ∀ (pm ctv : Value) (us : List Value), us.length = ps.length → bindArgs (PySem.W.kla_fn "<lambda>" F.qual F.params bd F.scope F.cl pm (.ref F.c) ctv) ⟨us, []⟩ = pure (ps.zip us)) (len : ∀ ws vs H Q E, sp ws vs H Q E → vs.length = ps.length)
    (hbody : ∀ (A : Around) (outer : List Env) (s : Shared) (H : Hp) (vs : List V) (ws : List (Option V)) (Q : VK) (E : XK), Room k (A.deeper (envF F f s.heap.objs.size)) → H f = some (LmO f F bd) → H F.c = some (CodeO F.c F.qual) → ws.length = fr.length → sp ws vs H Q E →
      ∃ t, PE (ncx CX P w K mg base N F f A outer s H E) bd t ∧ t (startF N vs ws) H Q) : LOk P w K mg base CX (k + 1) f F bd ps fr sp := by
  refine ⟨len, fun A outer s H us vs ws Q E hr e0 hf hc C r hsp => ?_⟩
  have hl := len _ _ _ _ _ hsp
  have lim : s.heap.NoLimit := e0.mod.nolimit.keeps fun b o e => (e0.bs b o e).1
  obtain ⟨pm, ctv, ho⟩ := lmO_at e0.hok hf
  refine PySem.W.kla_callFunE hr.depth ho rfl S.co S.gen rfl (codeO_at e0.hok hc) ?_
  rw [hb pm ctv us (by rw [← r.length]; exact hl)]
  refine wpAny_pure (wpAny_newFunctionEnv S.nocell (fun ⟨n, _⟩ hy => S.par n (List.of_mem_zip hy).1) (fun h₁ hns hsb => ⟨lim.fresh _ hsb, ?_⟩) S.kind)
  show codeAny _ _ (.expr bd (envF F f s.heap.objs.size)) _ _
  have kp : ∀ b o, s.heap.get? b = some o → h₁.get? b = some o := fun b o e => hsb.extBut b o (Nat.ne_of_lt (Heap.lt_size e)) (Heap.get?_push_of_some _ e)
  obtain ⟨t, ht, hq⟩ := hbody A outer s H vs ws Q E (hr.deeper _) hf hc C.len hsp
  have I : Inv (ncx CX P w K mg base N F f A outer s H E) [] (startF N vs ws) H { s with heap := h₁, toks := s.toks + (ps.zip us).length } := inv_startN S hr.hd e0 hl r C hns kp
  refine PySem.W.kla_codeExpr (wpAny_mono (ht.run [] _ (startF N vs ws) H Q I hq) (fun v s' hs => ?_) fun e s' hs => hs)
  obtain ⟨v', H', J, rv, q⟩ := hs
  exact ⟨v', H', J.os, J.bare, J.base, J.hok, rv, q⟩
end
end Mc
namespace Mc
open PySem L2 PySem.Spec PyProof.Rows FbM LamX NdefX
/-! ### sorted(d, key=lambda x: ..), d a dict with text keys, the lambda gives an int and the key -/
/-- what is asked of the callable at each key -/
def CallsKey (X : Cx) (A : Around) (pins : List (Addr × Obj)) (σ : L2.St) (q : Addr) (kf : PySem.Str → Int) (ks : List PySem.Str) (H : Hp) : Prop :=
  ∀ (s' : Shared) (H' : Hp) (y : PySem.Str) (t : Tok), y ∈ ks → Inv X pins σ H' s' → Same H H' → codeAny (model X.prog X.w) A (.call (.ref q) ⟨[.str y t], []⟩) (CR CX0 X.stack X.prog X.w H' s' (fun v H2 => ∃ p, v = .ref p ∧ H' p = none ∧ H2 = upd H' p (.tup [.int (kf y), .str y])) E0) s'
section
variable {X : Cx} {pins : List (Addr × Obj)} {σ : L2.St} {H : Hp} {s : Shared} {k : Nat} {q a kS : Addr} {kf : PySem.Str → Int} {ks : List PySem.Str} {vs : List Value} {A : Around} {E : Value → Shared → Prop} {e1 : Nat} {P : PySem.Fin → Shared → Prop}
theorem kl_rest (hr : Room k A) (hcall : CallsKey X A pins σ q kf ks H) (I : Inv X pins σ H s) (ra : Rec X pins a) (rk : Rec X pins kS) (na : H a = none) (nk : H kS = none)
    (hka : kS ≠ a) (ek : s.heap.get? kS = some (seqObj "list" #[] 0)) (ea : s.heap.get? a = some (seqObj "list" #[] e1)) (hv : StrsAre vs ks) (h64 : ks.length < 64)
    (done : ∀ s' H' out c, Inv X pins σ H' s' → Same H H' → H' a = none → s'.heap.get? a = some (seqObj "list" (List.toArray out) c) → PySem.W.KeyedOut false (ks.map (kdM kf)) vs out → P (.done (.ret .none)) s') :
    wpAny (model X.prog X.w) A (ksk_rest a (.ref q) false vs.toArray e1 (.ref kS)) P E s := by
  have hlen : vs.length = ks.length := hv.len_eq
  have h16 : vs.length ≤ sizeLine := by rw [hlen, sizeLine_eq]; omega
  unfold ksk_rest
  refine wpAny_bind (wpAny_rule ?_)
  rw [List.forIn_toArray]
  refine wpAny_bind (ksk_fold (fun i s' => ∃ H' kA e, Inv X pins σ H' s' ∧ Same H H' ∧ H' a = none ∧ H' kS = none ∧ s'.heap.get? kS = some (seqObj "list" kA e) ∧ s'.heap.get? a = some (seqObj "list" #[] e1) ∧
    PySem.W.EachIs (fun v x => ∃ p, v = Value.ref p ∧ H' p = some (.tup [.int (kf x), .str x])) kA.toList (ks.take i)) vs 0 s ⟨H, #[], 0, I, fun _ _ h => h, na, nk, ek, ea, by rw [List.take_zero]; exact PySem.W.EachIs.nil⟩ ?step ?done)
  case step =>
    rintro j x s' hx ⟨H', kA, e, I', sm, na', nk', ek', ea', hk⟩
    rw [Nat.zero_add] at hk ⊢
    obtain ⟨y, t, rfl, hy⟩ := hv.item j x hx
    have hz : kA.size ≤ ks.length := by
      have h1 := hk.length
      rw [Array.length_toList, List.length_take] at h1
      omega
    have h64' : kA.size < 64 := by omega
    refine wpAny_bind (wpAny_attempt ?_)
    refine wpAny_call (codeAny_mono (hcall s' H' y t (List.mem_of_getElem? hy) I' sm) fun rr s2 hrr => ?_)
    cases rr with
    | error er => exact False.elim hrr
    | ok fl =>
      cases fl with
      | next => exact False.elim hrr
      | brk => exact False.elim hrr
      | cont => exact False.elim hrr
      | ret v =>
        obtain ⟨v', H2, os, bare, un, hok, rv', p, ev, hp, eH⟩ := (show CE X.stack X.prog X.w H' s' _ v s2 from hrr)
        subst ev
        cases rv'
        have I2 : Inv X pins σ H2 s2 := I'.call' os un hok bare (fun b z => absurd z List.not_mem_nil)
        have sm2 : Same H' H2 := fun b u e => by
          rw [eH, upd_ne (ne_of_none e hp)]
          exact e
        have keep : ∀ {b : Addr} {ob : Obj}, Rec X pins b → H' b = none → s'.heap.get? b = some ob → s2.heap.get? b = some ob := fun rb ub eb => un.keep _ _ eb ub rb.fr List.not_mem_nil
        have fr2 : ∀ {b : Addr} {ob : Obj}, H' b = none → s'.heap.get? b = some ob → H2 b = none := fun ub eb => un.free _ _ eb ub List.not_mem_nil
        have nk2 := keep rk nk' ek'
        have na2 := keep ra na' ea'
        have uk2 := fr2 nk' ek'
        have ua2 := fr2 na' ea'
        try dsimp only
        obtain ⟨h2, g2, d2, t2, o2⟩ := s2
        obtain ⟨c2, hc2⟩ : ∃ c2, (h2.update kS (Obj.mapSeq (·.push (.ref p)))).get? kS = some (seqObj "list" (kA.push (.ref p)) c2) := ⟨_, get?_update_seq nk2 (·.push (.ref p))⟩
        have sb : Heap.SameBut kS h2 (h2.update kS (Obj.mapSeq (·.push (.ref p)))) := Heap.SameBut.update ..
        refine wpAny_bind (listUpdate_at nk2 rfl ?_ (by rw [sizeLine_eq]; omega) (by rw [Array.size_push, sizeLine_eq]; omega))
        refine wpAny_pure ⟨rfl, H2, kA.push (.ref p), c2, rk.turn (t' := t2) I2 uk2 fun c ob hc e => sb.extBut c ob hc e, fun b u e => sm2 b u (sm b u e), ua2, uk2, hc2, sb.extBut _ _ hka.symm na2, ?_⟩
        have ek3 : ks.take (j + 1) = ks.take j ++ [y] := by rw [List.take_add_one, hy]; rfl
        have ea3 : (kA.push (Value.ref p)).toList = kA.toList ++ [.ref p] := by simp
        rw [ek3, ea3]
        refine PySem.W.each_snoc ⟨p, rfl, by rw [eH, upd_same]⟩ (hk.mono fun u d z => ?_)
        obtain ⟨p', ep, z⟩ := z
        exact ⟨p', ep, sm2 _ _ z⟩
  case done =>
    rintro s' ⟨H', kA, e, I', sm, na', nk', ek', ea', hk⟩
    have hk' : PySem.W.EachIs (fun v k => ∃ as, Reads s'.heap v k as) kA.toList (ks.map (kdM kf)) := by
      have e3 : ks.take (0 + vs.length) = ks := List.take_of_length_le (by omega)
      rw [e3] at hk
      refine PySem.W.each_map (kdM kf) (hk.mono fun v x z => ?_)
      obtain ⟨p, rfl, z⟩ := z
      exact ⟨[], tup_reads I'.hok z⟩
    have hsz : kA.size = vs.length := by
      have h1 := hk'.length
      rw [Array.length_toList, List.length_map] at h1
      omega
    refine wpAny_bind (listItems_at ek' rfl ?_)
    have hal : PySem.W.AllAlike (ks.map (kdM kf)) := PySem.W.AllAlike.of fun _ _ => by simp [kdM, PySem.W.alike, PySem.W.alikeAll]
    refine PySem.W.keyH_end (κ := PySem.W.dataKind s'.heap (ks.map (kdM kf))) (h₁ := rid s'.heap kS) (b := false) (fun b ob hb z => ?_) rid_none ek' ea' hka (PySem.W.SortsAt.data hk' hal (PySem.W.Sortable.tuples fun _ => ⟨_, _, rfl⟩) ?_) hsz h16 fun h' tk c kp hD => ?_
    · by_cases hbk : b = kS
      · subst hbk
        rw [rid_none] at z
        cases z
      · exact (rid_ne hbk).symm.trans z
    · intro d hd
      obtain ⟨x, _, rfl⟩ := List.mem_map.mp hd
      have h2 : (kdM kf x).depth = 1 := by simp [kdM, PyData.depth, PyData.depthAll]
      have := hr.units
      omega
    · have keep : ∀ b ob, b ≠ a → b ≠ kS → s'.heap.get? b = some ob → h'.get? b = some ob := fun b ob ha hk z => kp b ob ha ((rid_ne hk).trans z)
      have nb : ∀ {b u}, H' b = some u → b ≠ a ∧ b ≠ kS := fun {b u} z => ⟨fun e => (by rw [e, na'] at z; cases z), fun e => (by rw [e, nk'] at z; cases z)⟩
      refine done _ H' (PySem.W.sortVals (PySem.W.dataKind s'.heap (ks.map (kdM kf))) false kA.toList vs) c ?_ sm na' hD ⟨s'.heap, kA.toList, hal, rfl, hk'⟩
      obtain ⟨h1, g1, d1, t1, o1⟩ := s'
      refine I'.call' (ch := [a, kS]) rfl ⟨fun b ob z n _ hx => ?_, fun b ob z n _ hx => ⟨ob.slots, ?_⟩, fun b ob z n hx => n, fun b ob z hx => ⟨ob, ?_⟩, fun b xs z => z, fun b ob u z => z, fun b pz z => ⟨#[], by rw [z]; simp⟩⟩ (fun b u z => ?_) I'.bare fun b hb => ?_
      · exact keep b ob (fun e => hx (by simp [e])) (fun e => hx (by simp [e])) z
      · exact keep b ob (fun e => hx (by simp [e])) (fun e => hx (by simp [e])) z
      · exact keep b ob (fun e => hx (by simp [e])) (fun e => hx (by simp [e])) z
      · refine (I'.hok b u z).stay (fun cc v hc q => ?_) (fun _ q => q) fun _ _ q => q
        rcases hc with e | e
        · rw [e] at q ⊢
          exact keep b v (nb z).1 (nb z).2 q
        · exact keep cc v (nb e).1 (nb e).2 q
      · rcases List.mem_cons.mp hb with e | e
        · subst e
          exact ⟨.inr ra.ge, ra.nl, ra.ce, ra.pn⟩
        · obtain rfl := List.mem_singleton.mp e
          exact ⟨.inr rk.ge, rk.nl, rk.ce, rk.pn⟩
theorem sortedKL (hcalm : X.calm = true) (hr : Room k X.A.in1.in1) (hcall : CallsKey X X.A.in1.in1 pins σ q kf ks H) {d : Addr} {kvs : List (Key × V)} {Q : VK} (I : Inv X pins σ H s) (hd : Rd H d (.dK kvs)) (hks : kvs.map (·.1) = ks.map Sum.inr) (h64 : ks.length < 64)
    (fin : ∀ (ys : List PySem.Str) p H', Same H H' → ys.Perm ks → ys.Pairwise (rkLe kf) → H' p = none → Q (.ref p) (upd H' p (.lst (ys.map V.str)))) :
    wpAny (model X.prog X.w) X.A (call (.builtin "sorted") [.ref d] [(PySem.Str.ofString "key", .ref q)]) (EP X pins σ Q) X.xe s := by
  obtain ⟨z, lo, vs, rel, dd⟩ := dk_rd I.hok hd
  obtain ⟨ep, hat⟩ := dd.dictAt
  have hkeys : vs.map (·.1) = ks.map Sum.inr := rel.keys.symm.trans hks
  have hl : vs.length = ks.length := by
    have e := congrArg List.length hkeys
    rw [List.length_map, List.length_map] at e
    exact e
  have h16 : vs.length ≤ sizeLine := by rw [hl, sizeLine_eq]; omega
  refine call_function_entry_kw kind_sorted plain_sorted entry_sorted (ksk_s1 _ _) ?_
  unfold Builtin.«sorted»
  refine wpAny_bind (m := checkCount "sorted" 1 1 _) (wpAny_pure ?_)
  refine wpAny_bind (PySem.W.kdu_collect (A := X.A.in1) (PySem.W.kdl_dict (knd := mixKind X.prog X.w) (kvs := vs) (ep := ep) lo) (I.ok.hd hcalm) hat h16 fun h1 tk acc hk hacc => ?_)
  have hal : acc.toList.length = ks.length := by rw [Array.length_toList, hacc.1, hl]
  have hS : StrsAre acc.toList ks := strs_at hal fun j v e => by
    obtain ⟨kx, x, w1, w2⟩ := hacc.2 j v (by rw [← Array.getElem?_toList]; exact e)
    have w3 : (vs.map (·.1))[j]? = some kx := by rw [List.getElem?_map, w1]; all_goals rfl
    rw [hkeys, List.getElem?_map] at w3
    cases w4 : ks[j]? with
    | none => rw [w4] at w3; cases w3
    | some y =>
      rw [w4] at w3
      obtain rfl : Sum.inr y = kx := Option.some.inj w3
      obtain ⟨t, ev⟩ := Value.isStrOf_shape (x := y) (v := v) w2
      exact ⟨y, t, rfl, ev⟩
  have I1 : Inv X pins σ H { s with heap := h1, toks := tk } := I.kept hk
  refine wpAny_bind (wpAny_newList ?_ (by rw [hal, sizeLine_eq]; omega))
  have hoL : (h1.push (seqObj "list" acc.toList.toArray 0)).get? h1.objs.size = some (seqObj "list" acc.toList.toArray 0) := Heap.get?_push_size _ rfl
  have I2 : Inv X pins σ H { s with heap := h1.push (seqObj "list" acc.toList.toArray 0), toks := tk } := I1.kept (t' := tk) fun b u e => Heap.get?_push_of_some _ e
  have ra : Rec X pins h1.objs.size := rec_new I1 (Nat.le_refl _)
  have na : H h1.objs.size = none := I1.hok.fresh (Nat.le_refl _)
  show wpAny _ _ _ _ _ { s with heap := h1.push (seqObj "list" acc.toList.toArray 0), toks := tk }
  refine wpAny_bind (wpAny_holding (wpAny_call_entry_kw slot_list_sort ⟨_, hoL, rfl⟩ entry_list_sort ?body (ksk_l1 _ _)))
  case body =>
    rw [ksk_t1]
    unfold ksk_tree
    refine wpAny_bind (listItems_at hoL rfl ?_)
    have hz : acc.toList.toArray.size ≤ sizeLine := by rw [List.size_toArray, hal, sizeLine_eq]; omega
    refine wpAny_bind (listUpdate_at hoL rfl ?_ hz (Nat.zero_le _))
    obtain ⟨e1, ho1⟩ : ∃ e1, ((h1.push (seqObj "list" acc.toList.toArray 0)).update h1.objs.size (Obj.mapSeq fun _ => (#[] : Array Value))).get? h1.objs.size = some (seqObj "list" #[] e1) := ⟨_, get?_update_seq hoL fun _ => #[]⟩
    refine wpAny_bind (seqEpoch_at ho1 rfl ?_)
    refine wpAny_bind (wpAny_newTuple ?_ (by show acc.toList.length ≤ _; rw [hal, sizeLine_eq]; omega))
    refine wpAny_bind (wpAny_newList ?_ (Nat.zero_le _))
    refine wpAny_holding ?_
    have sb : Heap.SameBut h1.objs.size (h1.push (seqObj "list" acc.toList.toArray 0)) ((h1.push (seqObj "list" acc.toList.toArray 0)).update h1.objs.size (Obj.mapSeq fun _ => (#[] : Array Value))) := Heap.SameBut.update ..
    have I3 := ra.turn (t' := tk) I2 na fun c ob hc e => sb.extBut c ob hc e
    have I4 := I3.kept (t' := tk) fun b u e => Heap.get?_push_of_some (seqObj "tuple" acc.toList.toArray 0) e
    have I5 := I4.kept (t' := tk) fun b u e => Heap.get?_push_of_some (seqObj "list" #[] 0) e
    have lt1 : h1.objs.size < (((h1.push (seqObj "list" acc.toList.toArray 0)).update h1.objs.size (Obj.mapSeq fun _ => (#[] : Array Value))).push (seqObj "tuple" acc.toList.toArray 0)).objs.size := by
      rw [size_push', Heap.size_update, size_push']
      omega
    refine kl_rest (k := k) (kf := kf) (ks := ks) hr hcall I5 ra (rec_new I4 (Nat.le_refl _)) na (I4.hok.fresh (Nat.le_refl _)) (Nat.ne_of_gt lt1) (Heap.get?_push_size _ rfl)
      (Heap.get?_push_of_some _ (Heap.get?_push_of_some _ ho1)) hS h64 fun s' H' out c J sm na' hD ko => ?_
    have eo := PySem.W.keyedOut_each (kdM kf) ko (each_strs hS)
    have pm := List.mergeSort_perm ks (PySem.W.dataLe false (kdM kf))
    have hlo : (ks.mergeSort (PySem.W.dataLe false (kdM kf))).length ≤ sizeLine := by rw [pm.length_eq, sizeLine_eq]; omega
    refine ⟨_, rfl, wpAny_pure ⟨_, rfl, .ref h1.objs.size, upd H' h1.objs.size (.lst ((ks.mergeSort (PySem.W.dataLe false (kdM kf))).map V.str)), adopt J ra na' ⟨?_, out, c, each_vals eo, hD⟩, rfl, fin _ _ H' sm pm (kdM_sorted ks) na'⟩⟩
    rw [List.length_map]
    exact hlo
/-- sorted(e, key=lambda x: ..) -/
def tSrtL (T : List NTab) (mk : Addr → NF) (bd : Expr) (js : List Nat) (sp : Addr → Addr → List (Option V) → Sp) (ta : TE) : TE := fun σ H Q => ta σ H fun x H1 => TabsN T H1 ∧ ∀ (f c' : Addr) (H2 : Hp), ExtN H1 H2 → (∀ b, H2 b = none → H1 b = none) → TabsN T H2 → H1 f = none → H2 f = some (LmO f (mk c') bd) → H2 c' = some (CodeO c' (mk c').qual) →
  ∃ (d : Addr) (kvs : List (Key × V)) (ks : List PySem.Str) (kf : PySem.Str → Int), x = .ref d ∧ Rd H2 d (.dK kvs) ∧ kvs.map (·.1) = ks.map Sum.inr ∧ ks.length < 64 ∧
  (∀ y ∈ ks, ∀ H', Same H2 H' → sp f c' (js.map (slotAt σ)) [.str y] H' (fun v H3 => ∃ p, v = .ref p ∧ H' p = none ∧ H3 = upd H' p (.tup [.int (kf y), .str y])) E0) ∧
  ∀ (ys : List PySem.Str) p H', Same H2 H' → ys.Perm ks → ys.Pairwise (rkLe kf) → H' p = none → Q (.ref p) (upd H' p (.lst (ys.map V.str)))
variable {fr : List PySem.Str} {js : List Nat} {sp : Addr → Addr → List (Option V) → Sp} {e : Expr} {ta : TE} {p pos kpos lpos : Pos} {T : List NTab} {nm : Nat → Nat → PySem.Str} {c P' : Addr} {params : Arguments} {bd : Expr} {scope : Scope} {x0 : PySem.Str}
theorem pe_srtL (hcalm : X.calm = true) (TB : TabB X.base X.mg c P') (hcode : X.env.code = .ref c) (hm' : (P', nm) ∈ T) (hn : nm lpos.line lpos.col = X.env.qual ++ "<lambda>") (hu' : ∀ p ∈ T, p.1 = P' → p.2 = nm) (hdef : defaultsOf params X.env = ([], []))
    (hfree : ∀ y ∈ scope.names, y.2 = .free → X.env.scope.names.lookup y.1 = some .cell ∨ X.env.scope.names.lookup y.1 = some .free)
    (L : ∀ f c', LOk X.prog X.w X.K X.mg X.base CX0 k f (lamF X params scope c') bd [x0] fr (sp f c')) (cp : X.Ok → Caps X (cloFrom X.env.cells scope.names []) fr js) (hr : Room (k + 2) X.A) (hg : Gl X "sorted") (hm : X.mg "sorted" = none) (he : PE X e ta)
    (hs1 : starEach [e] X.env = (false, eval e X.env) :: starEach [] X.env := by rfl)
    (hst : backTo pos (starEach [e] X.env) = (false, eval e X.env) :: backTo pos (starEach [] X.env) := by rfl) (hpl : (backTo pos (starEach [e] X.env)).any (·.1) = false := by rfl)
    (hall : (backToKw pos (keywordEach [⟨some "key", .Lambda params bd scope lpos, kpos⟩] X.env)).all (·.1.isSome) = true := by rfl) (hno : (backToKw pos (keywordEach [⟨some "key", .Lambda params bd scope lpos, kpos⟩] X.env)).any (·.1.isNone) = false := by rfl)
    (hks : (backToKw pos (keywordEach [⟨some "key", .Lambda params bd scope lpos, kpos⟩] X.env)).filterMap (·.1) = [PySem.Str.ofString "key"] := by rfl) :
    PE X (.Call (.Name "sorted" p) [e] [⟨some "key", .Lambda params bd scope lpos, kpos⟩] pos) (tSrtL T (lamF X params scope) bd js sp ta) := by
  refine ⟨fun pins s σ H Q I h => ?_⟩
  refine wpAny_Call_Name_kw (ld_blt I hg hm rfl ?_ (by decide) (by decide))
  show wpAny _ _ (callWith pos (.builtin "sorted") [] _ _) _ _ _
  refine callWith_kw (thn ((pa_cons he pa_nil hs1).run pos pins s σ H (fun vs H1 => match vs with
    | [x] => TabsN T H1 ∧ ∀ (f c' : Addr) (H2 : Hp), ExtN H1 H2 → (∀ b, H2 b = none → H1 b = none) → TabsN T H2 → H1 f = none → H2 f = some (LmO f (lamF X params scope c') bd) → H2 c' = some (CodeO c' (lamF X params scope c').qual) →
        ∃ (d : Addr) (kvs : List (Key × V)) (ks : List PySem.Str) (kf : PySem.Str → Int), x = .ref d ∧ Rd H2 d (.dK kvs) ∧ kvs.map (·.1) = ks.map Sum.inr ∧ ks.length < 64 ∧
        (∀ y ∈ ks, ∀ H', Same H2 H' → sp f c' (js.map (slotAt σ)) [.str y] H' (fun v H3 => ∃ p, v = .ref p ∧ H' p = none ∧ H3 = upd H' p (.tup [.int (kf y), .str y])) E0) ∧
        ∀ (ys : List PySem.Str) p H', Same H2 H' → ys.Perm ks → ys.Pairwise (rkLe kf) → H' p = none → Q (.ref p) (upd H' p (.lst (ys.map V.str)))
    | _ => False) I h) fun us s1 hu => ?_) hst hpl hall hno
  obtain ⟨vs, H1, I1, r1, q1⟩ := hu
  match vs, q1 with
  | [x], q1 =>
    obtain ⟨hT, q1⟩ := q1
    refine wpAny_evalAll_cons (wpAny_bind (lam_mk I1 TB hcode hm' hn hu' hT hdef (fun y hy e => I1.ok.has _ (hfree y hy e)) fun f c' H2 s2 I2 x1 x2 T2 n1 hf hc => ?_))
    obtain ⟨d, kvs, ks, kf, rfl, hd, hk, h64, tu, fin⟩ := q1 f c' H2 x1 x2 T2 n1 hf hc
    refine wpAny_bind (wpAny_standAt (wpAny_pure ?_))
    refine wpAny_evalAll_nil ?_
    rw [hks]
    obtain rfl := Vals.ref1 r1
    have I3 := I2.tok s2.toks
    refine sortedKL hcalm hr.in1.in1 (q := f) (kf := kf) (ks := ks) (fun s' H' y t hy I' sm => ?_) I2 hd hk h64 fin
    have e0 := I'.env0
    have e1' : Env0 X.prog X.w X.K X.mg X.base X.A.in1.in1 X.stack s' H' := ⟨I2.ok.frames, e0.mod, e0.bs, e0.bsz, e0.funs, e0.frf, e0.hok, e0.bare⟩
    exact (L f c').run X.A.in1.in1 X.stack s' H' _ [.str y] _ _ E0 hr.in1.in1 e1' (sm _ _ hf) (sm _ _ hc) (cells_of I' (cp I'.ok)) (.cons ⟨t, rfl⟩ .nil) (tu y hy H' sm)
end
end Mc
namespace Mc
open PySem L2 PySem.Spec PyProof.Rows
/-! < of lists of ints -/
section
variable {X : Cx} {K : PySem.W.Frag}
def rLtIL (K : PySem.W.Frag) : R2 := fun x y H Q => ∃ (a b : Addr) (xs ys : List Int), x = .ref a ∧ y = .ref b ∧ SqL K H a (xs.map V.int) ∧ SqL K H b (ys.map V.int) ∧ Q (.bl (decide (xs < ys))) H
theorem dpI (K : PySem.W.Frag) (H : Hp) : ∀ xs : List Int, DpAll K H (xs.map V.int) (xs.map PyData.int)
  | [] => .nil
  | x :: xs => .cons (.int x) (dpI K H xs)
theorem alikeI : ∀ xs ys : List Int, PySem.W.alikeAll (xs.map PyData.int) (ys.map PyData.int) = true
  | [], _ => by simp [PySem.W.alikeAll]
  | _ :: _, [] => by simp [PySem.W.alikeAll]
  | x :: xs, y :: ys => by
    have := alikeI xs ys
    simp [PySem.W.alikeAll, PySem.W.alike] at this ⊢
    exact this
theorem depI : ∀ xs : List Int, PyData.depthAll (xs.map PyData.int) = 0
  | [] => by simp [PyData.depthAll]
  | x :: xs => by
    have := depI xs
    simp [PyData.depthAll, PyData.depth] at this ⊢
    exact this
theorem op_ltIL (hu : X.A.units + 1 < cLine) : OpR X (compareOp .Lt) (rLtIL X.K) := by
  intro pins s σ H x y v u Q I rx ry h
  obtain ⟨a, b, xs, ys, rfl, rfl, ha, hb, q⟩ := h
  obtain ⟨as, r1⟩ := Dp.reads I (.list (xs.map .int)) _ _ (.lst ha (dpI _ _ _)) rx
  obtain ⟨bs, r2⟩ := Dp.reads I (.list (ys.map .int)) _ _ (.lst hb (dpI _ _ _)) ry
  refine PySem.W.lt_data r1 r2 (by simp [PySem.W.alike]; exact alikeI xs ys) (by intro e; cases e) ?_ ?_
  · rw [show (PyData.list (xs.map PyData.int)).depth = 1 by simp [PyData.depth]; exact depI xs, show (PyData.list (ys.map PyData.int)).depth = 1 by simp [PyData.depth]; exact depI ys]
    exact hu
  · have e : PySem.W.dataLt (.list (xs.map PyData.int)) (.list (ys.map PyData.int)) = decide (xs < ys) := by
      rw [PySem.W.dataLt_list]
      exact PySem.W.dataLt_ints xs ys
    rw [e]
    exact ⟨.bl _, H, I, rfl, q⟩
theorem op_ltILK (h : X.K = K) (hu : X.A.units + 1 < cLine) : OpR X (compareOp .Lt) (rLtIL K) := by subst h; exact op_ltIL hu
end
end Mc
namespace Mc
open PySem L2 PySem.Spec PyProof.Rows Gd Evl LamX NdefX
abbrev sBest : Stmt := top 40
/-- the lambda that ranks: (-scene.calls[name].worth, name) -/
abbrev rankBd (p1 p2 p3 p4 p5 p6 p7 p8 : Pos) (k : Nat) : Expr := .Tuple [.UnaryOp .USub (.Attribute (.Subscript (.Attribute (.Name "scene" p1) "calls" p2) (.Name "name" p3) p4) "worth" p5) p6, .Name "name" p7] k p8
def spRankL (K : PySem.W.Frag) (CS CC : Addr) : List (Option V) → Sp := fun ws vs H Q _ => ∃ (sc : Addr) (chs : Chs) (cls : Cls') (y : PySem.Str), ws = [some (.ref sc)] ∧ vs = [.str y] ∧ SceneH K CS CC H sc chs cls ∧ y ∈ keysT cls ∧ ∀ p, H p = none → Q (.ref p) (upd H p (.tup [.int (rkO cls y), .str y]))
structure TxB (K : PySem.W.Frag) (mg : PySem.Str → Option Value) (CS CC : Addr) : Prop where
  clS : Cls K CS
  nCa : NoAttr K CS "calls"
  clC : Cls K CC
  nW : NoAttr K CC "worth"
  sorted : mg "sorted" = none
  int : mg "int" = none
def spBest (K : PySem.W.Frag) (CS CC : Addr) (T : List NTab) : Sp := fun vs H Q _ => ∃ (sc : Addr) (chs : Chs) (cls : Cls'), vs = [.ref sc] ∧ SceneH K CS CC H sc chs cls ∧ OkC chs cls ∧ chs.length ≤ 4 ∧ cls.length ≤ 7 ∧ TabsN T H ∧
  ∀ (p : Addr) (lot : List PySem.Str) (H' : Hp), ExtN H H' → (∀ b, H' b = none → H b = none) → TabsN T H' → H p = none → H' p = some (.lst (lot.map V.str)) → KeptOf chs cls lot → sortedS lot = true → Q (.ref p) H'
section
variable {P : Program} {w : World} {K : PySem.W.Frag} {mg : PySem.Str → Option Value} {base : Heap}
theorem atI_1 (u v : V) (l : List V) : atI (u :: v :: l) 1 = some v := by
  unfold atI
  rw [show (1 : Int) = ((1 : Nat) : Int) from rfl, ixN_nat (by simp : 1 < (u :: v :: l).length)]
  rfl
theorem atI_00 (v : V) (l : List V) : atI (v :: l) 0 = some v := by
  unfold atI
  rw [show (0 : Int) = ((0 : Nat) : Int) from rfl, ixN_nat (by simp : 0 < (v :: l).length)]
  rfl
theorem CallsH.extN {CC : Addr} {H H' : Hp} {cls : Cls'} (h : CallsH K CC H cls) (x : ExtN H H') : CallsH K CC H' cls := fun z hz => by
  obtain ⟨dx, q, a, b⟩ := (h z hz).here
  exact ⟨dx, q, x _ _ a (fun _ => by simp), x _ _ b (fun _ => by simp)⟩
theorem SceneH.extN {CS CC : Addr} {H H' : Hp} {sc : Addr} {chs : Chs} {cls : Cls'} (h : SceneH K CS CC H sc chs cls) (x : ExtN H H') : SceneH K CS CC H' sc chs cls := by
  obtain ⟨dx, a, b, h1, h2, h3⟩ := h.here
  exact ⟨⟨dx, a, b, x _ _ h1 (fun _ => by simp), h2.elim (fun z => .inl (x _ _ z fun _ => by simp)) (fun ⟨o, z⟩ => .inr ⟨o, x _ _ z fun _ => by simp⟩), h3.elim (fun z => .inl (x _ _ z fun _ => by simp)) fun ⟨o, z⟩ => .inr ⟨o, x _ _ z fun _ => by simp⟩⟩, h.calls.extN x⟩
/-- the best lot of the first j -/
def BestAt (X : Sc PySem.Str) (ys : List PySem.Str) (Ls : List (List PySem.Str)) (H : Hp) (v : V) : Prop := (v = .non ∧ ∀ L ∈ Ls, ¬ Seatable X L) ∨ ∃ (bt rl ll : Addr) (L : List PySem.Str), v = .ref bt ∧ H bt = some (.tup [.ref rl, .ref ll]) ∧ H rl = some (.lst ((rowOf ys L).map V.int)) ∧ H ll = some (.lst (L.map V.str)) ∧
  L ∈ Ls ∧ Seatable X L ∧ ∀ L' ∈ Ls, Seatable X L' → ¬ rowOf ys L' < rowOf ys L
theorem BestAt.same {X : Sc PySem.Str} {ys : List PySem.Str} {Ls : List (List PySem.Str)} {H H' : Hp} {v : V} (h : BestAt X ys Ls H v) (s : Same H H') : BestAt X ys Ls H' v := by
  rcases h with h | ⟨bt, rl, ll, L, e, h1, h2, h3, h4⟩
  · exact .inl h
  · exact .inr ⟨bt, rl, ll, L, e, s _ _ h1, s _ _ h2, s _ _ h3, h4⟩
theorem best_end {X : Sc PySem.Str} {ys L : List PySem.Str} (nd : ys.Nodup) (hL : L ∈ lotsOf ys) (sL : Seatable X L) (least : ∀ L' ∈ lotsOf ys, Seatable X L' → ¬ rowOf ys L' < rowOf ys L) (x : PySem.Str) : x ∈ L ↔ x ∈ gr X ys := by
  have sub : ∀ x ∈ L, x ∈ ys := fun x hx => (lotsOf_sub hL).subset hx
  rcases gr_best nd sub sL with h | h
  · exact ⟨fun hx => (h x (sub x hx)).mpr hx, fun hx => (h x (gr_sub _ _ x hx)).mp hx⟩
  · exfalso
    refine least _ (lotsOf_filter (fun z => decide (z ∈ gr X ys)) ys) (seat_sub (nd.filter _) (fun y hy => of_decide_eq_true (List.mem_filter.mp hy).2) (gr_seat X ys)) ?_
    have e : rowOf ys (ys.filter fun z => decide (z ∈ gr X ys)) = rowOf ys (gr X ys) := List.map_congr_left fun y hy => by
      by_cases z : y ∈ gr X ys
      · rw [if_pos z, if_pos (List.mem_filter.mpr ⟨hy, decide_eq_true z⟩)]
      · have nz : y ∉ ys.filter fun z => decide (z ∈ gr X ys) := fun k => z (of_decide_eq_true (List.mem_filter.mp k).2)
        rw [if_neg z, if_neg nz]
    rw [e]; exact h
theorem best_some {X : Sc PySem.Str} {ys : List PySem.Str} (nd : ys.Nodup) : ¬ ∀ L ∈ lotsOf ys, ¬ Seatable X L := fun h =>
  h _ (lotsOf_filter (fun z => decide (z ∈ gr X ys)) ys) (seat_sub (nd.filter _) (fun y hy => of_decide_eq_true (List.mem_filter.mp hy).2) (gr_seat X ys))
theorem lok_rank {CS CC f : Addr} {F : NF} {p1 p2 p3 p4 p5 p6 p7 p8 : Pos} {n : Nat} (T : TxB K mg CS CC) (S : NScope ["name", "scene"] ["name"] ["scene"] F.scope)
    (hb : ∀ (pm ctv : Value) (us : List Value), us.length = 1 → bindArgs (PySem.W.kla_fn "<lambda>" F.qual F.params (rankBd p1 p2 p3 p4 p5 p6 p7 p8 n) F.scope F.cl pm (.ref F.c) ctv) ⟨us, []⟩ = pure ((["name"] : List PySem.Str).zip us)) :
    LOk P w K mg base CX0 1 f F (rankBd p1 p2 p3 p4 p5 p6 p7 p8 n) ["name"] ["scene"] (spRankL K CS CC) := by
  refine lok_of (N := ["name", "scene"]) S hb (fun ws vs H Q E h => ?_) (fun A outer s H vs ws Q E hr hf hc hl h => ?_)
  · obtain ⟨sc, chs, cls, y, _, rfl, _⟩ := h
    rfl
  · obtain ⟨sc, chs, cls, y, rfl, rfl, hC, hy, q⟩ := h
    have hu := hu_of hr
    have v0 : Vis F.scope "name" := .inl (S.par "name" (by simp))
    have v1 : Vis F.scope "scene" := .inr (.inr (S.frk "scene" (by simp)))
    refine ⟨_, pe_tup (pa_cons (pe_un un_neg (pe_fld (pe_dget hu (pe_fld (pe_var (i := 1) rfl v1) rfl) (pe_var (i := 0) rfl v0) (fun _ _ => rfl)) rfl)) (pa_cons (pe_var (i := 0) rfl v0) pa_nil)), ?_⟩
    obtain ⟨dx, a, b, h1, h2, h3⟩ := hC.here
    obtain ⟨cd, ec⟩ := getT_key hy
    obtain ⟨dxc, hh, c1, c2⟩ := (hC.calls _ (getT_in ec)).here
    have ew : rkO cls y = -cd.2.1 := by unfold rkO wOf; rw [ec]; rfl
    rw [ew] at q
    exact ⟨_, rfl, sc, CS, dx, _, _, rfl, h1, T.clS, T.nCa, rfl, _, rfl, b, _, rfl, dgetT h3 ec, cd.1, CC, dxc, _, _, rfl, c1, T.clC, T.nW, rfl, cd.2.1, rfl, _, rfl, (by show 2 ≤ sizeLine; decide), q⟩
/-- a def by its body, its code object known -/
theorem fun_okC {x qual : PySem.Str} {st : Stmt} {f c : Addr} {fd : FuncData} {N ps : List PySem.Str} {k : Nat} {sp : Sp} (F : Fun K x qual st f fd) (hc : fd.code = .ref c) (S : FnScope N ps (defScope st)) (len : ∀ vs H Q E, sp vs H Q E → vs.length = ps.length)
    (hbody : ∀ (A : Around) (outer : List Env) (s : Shared) (H : Hp) (vs : List V) (Q : VK) (E : XK), Room k (A.deeper (envOfC qual (defScope st) s.heap.objs.size f (.ref c))) → sp vs H Q E →
      ∃ t, PSs (cxOf CX0 P w K mg base N qual (defScope st) f (.ref c) A outer s H E).nox (defBody st) t ∧ t { nx := fun _ H' => Q .non H', rt := Q } (L2.start N vs) H) : FnOk P w K mg base CX0 (k + 1) f fd ps sp := by
  obtain ⟨oc, od, kV, doc, pm, an, cdv, ct, osl, rfl, lk, hcd⟩ := F.ex
  obtain rfl : cdv = .ref c := hc
  refine fn_of lk hcd S len fun A outer s H vs Q E hr hsp => ?_
  obtain ⟨t, h, q⟩ := hbody A outer s H vs Q E hr hsp
  exact ⟨t, h.nox, q⟩
abbrev nmB : List PySem.Str := ["scene", "order", "best", "lot", "row", "name"]
theorem scBe : FnScope nmB ["scene"] (defScope sBest) := ⟨rfl, rfl, rfl, by decide +kernel, rfl, by decide +kernel, by decide +kernel⟩
theorem ok_best {f CS CC c P' : Addr} {fd : FuncData} (F : Fun K "_law_best" "_law_best" sBest f fd) (hcd : fd.code = .ref c) (TB : TabB base mg c P') (T : TxB K mg CS CC) (c__law_lots : Cal P w K mg base 1 "_law_lots" ["names"] (spLots K)) (c__law_seatings : Cal P w K mg base 1 "_law_seatings" ["scene", "names"] (spSgs K CS CC)) :
    FnOk P w K mg base CX0 4 f fd ["scene"] (spBest K CS CC [(P', fun _ _ => "_law_best.<locals>.<lambda>")]) := by
  refine fun_okC F hcd scBe (fun vs H Q E h => ?_) (fun A outer s H vs Q E hr h => ?_)
  · obtain ⟨sc, chs, cls, rfl, _⟩ := h
    rfl
  · obtain ⟨sc, chs, cls, rfl, hC, ok, h4, h6, hT, q⟩ := h
    have hu := hu_of hr
    refine ⟨_, (pss_cons (ps_par (i := 1) (j := 2) rfl scBe.nd rfl rfl (by decide) rfl rfl (pa_cons (pe_srtL (x0 := "name") (fr := ["scene"]) (js := [0]) (k := 1) (sp := fun _ _ => spRankL K CS CC) (nm := fun _ _ => "_law_best.<locals>.<lambda>") (T := [(P', fun _ _ => "_law_best.<locals>.<lambda>")]) rfl TB rfl (by simp) rfl (fun p hp _ => by rw [List.mem_singleton.mp hp]) rfl (ndef_free (sc := defScope sBest) (fr := ["scene"]) (by decide +kernel))
        (fun f c' => lok_rank T (nscope_by (by kernel_rfl)) (fun pm ctv us hl => match us, hl with | [_], _ => rfl)) (fun ok => Caps.made ok (ndef_free (sc := defScope sBest) (fr := ["scene"]) (by decide +kernel)) (ndef_fr (sc := defScope sBest) (fr := ["scene"]) (by decide +kernel)) rfl) (hr.mono (by decide)) (by rfl) T.sorted (pe_fld (pv 0) rfl)) (pa_cons pe_non pa_nil)) (by rfl))
      (pss_cons (ps_for PassesOwn.never rfl (pi_list (pe_cal c__law_lots (hr.mono (by decide)) rfl (pa_cons (pv 1) pa_nil))) (pg_name (i := 3) scBe.nd rfl (Or.inr rfl))
        (pss_one (ps_if (pt_cmpR (op_neNil hr.units) (pe_cal c__law_seatings (hr.mono (by decide)) rfl (pa_cons (pv 0) (pa_cons (pv 3) pa_nil))) (pe_lst pa_nil) (nomark _))
          (pss_cons (ps_setLc (i := 4) (own := [("name", 5)]) (g := gName 5) (tt := tYes) rfl scBe.nd rfl rfl (sw_true rfl rfl rfl (by decide +kernel)) (pi_list (pv 1)) (blkOk_by (own := [("name", 5)]) (N := nmB) (sc := defScope sBest) (by decide +kernel)) (fun _ _ _ _ _ => pg_name (i := 5) scBe.nd rfl (Or.inl rfl)) (fun _ _ _ _ _ => pts_nil) (fun _ _ _ _ _ => (pe_callTy call_int1 (by rfl) T.int boot_int (pa_cons (pe_cmpR (op_notInK (K := K) rfl) (pv 5) (pv 3) (by rfl)) pa_nil))))
          (pss_one (ps_if (PW.pt (pw_or (pt_cmpR op_isN (pv 2) pe_non (nomark _)) (pw_or1 (pt_cmpR (op_ltILK (K := K) rfl hu) (pv 4) (pe_ix ix_tup (pv 2) pe_int (fun _ _ => rfl)) (nomark _)))))
            (pss_one (ps_set (i := 2) scBe.nd rfl (Or.inl rfl) (pe_tup (pa_cons (pv 4) (pa_cons (pv 3) pa_nil)))))
            pss_nil)))
          pss_nil)))
      (pss_one (ps_ret (pe_callB (cr_srtSK (K := K) rfl) (by rfl) T.sorted boot_sorted (pa_cons (pe_ix ix_tup (pv 2) pe_int (fun _ _ => rfl)) pa_nil)))))), ?_⟩
    obtain ⟨dx, a, b, h1, h2, h3⟩ := hC.here
    refine ⟨_, rfl, sc, CS, dx, _, _, rfl, h1, T.clS, T.nCa, rfl, hT, fun fl c' H1 x1 n1 hT1 hf0 hf1 hc1 => ⟨b, kvT vO cls, keysT cls, rkO cls, rfl, h3.elim (fun z => .inl (x1 _ _ z fun _ => by simp)) (fun ⟨o, z⟩ => .inr ⟨o, x1 _ _ z fun _ => by simp⟩), keys_kvT, by unfold keysT; rw [List.length_map]; omega, fun y hy H' sm => ?_, fun ys p H2 sm pm pw hp => ?_⟩⟩
    · exact ⟨sc, chs, cls, y, rfl, rfl, (hC.extN x1).same sm, hy, fun p hp => ⟨p, rfl, hp, rfl⟩⟩
    have nd : ys.Nodup := pm.nodup_iff.mpr ok.ndc
    have lys : ys.length ≤ 7 := by rw [pm.length_eq]; unfold keysT; rw [List.length_map]; exact h6
    have x2 : Ex H1 (upd H2 p (.lst (ys.map V.str))) := Ex.trans sm (Ex.new hp)
    have hp3 : upd H2 p (.lst (ys.map V.str)) p = some (.lst (ys.map V.str)) := upd_same
    generalize upd H2 p (.lst (ys.map V.str)) = H3 at x2 hp3 ⊢
    refine ⟨_, _, rfl, ?_⟩
    have hC3 := (hC.extN x1).same x2
    refine ⟨_, rfl, p, ys, rfl, hp3, by omega, fun lp as H4 x4 hlp hL => ⟨lp, rfl, ⟨_, SqL.of hlp⟩, ?_⟩⟩
    have hp4 := x4 _ _ hp3
    have hC4 := hC3.same x4
    refine for_list (K := K) (xs := as.map V.ref) (fun j σ' H' => ∃ (v2 : V) (v3 v4 : Option V), σ' = [some (.ref sc), some (.ref p), some v2, v3, v4, none] ∧ Ex H4 H' ∧ BestAt (ScM chs cls) ys ((lotsOf ys).take j) H' v2)
      ⟨.non, _, _, rfl, Ex.refl _, .inl ⟨rfl, fun L hL => nomatch hL⟩⟩ (fun j σ' H' _ ⟨_, _, _, _, x, _⟩ => SqL.of (x _ _ hlp)) ?_ ?_
    · rintro j x σ' H5 hx ⟨v2, v3, v4, rfl, x5, hB⟩
      rw [List.getElem?_map] at hx
      obtain ⟨la, hla, rfl⟩ := Option.map_eq_some_iff.mp hx
      have hj : j < (lotsOf ys).length := by rw [← hL.1]; exact (List.getElem?_eq_some_iff.mp hla).1
      have hLj : (lotsOf ys)[j]? = some ((lotsOf ys)[j]'hj) := List.getElem?_eq_getElem hj
      have hlm : (lotsOf ys)[j]'hj ∈ lotsOf ys := List.getElem_mem hj
      generalize (lotsOf ys)[j]'hj = L at hLj hlm
      have hla4 := hL.2 j la L hla hLj
      have hla5 := x5 _ _ hla4
      have subL := lotsOf_sub hlm
      have ndL : L.Nodup := nd.sublist subL
      have tk : (lotsOf ys).take (j + 1) = (lotsOf ys).take j ++ [L] := by rw [List.take_add_one, hLj]; rfl
      refine ⟨_, rfl, _, rfl, sc, la, chs, cls, L, rfl, hC4.same x5, ok, h4, hla5, ndL, fun x hx => pm.mem_iff.mp (subL.subset hx), Nat.le_trans subL.length_le lys, fun g as2 H6 x6 hg6 hiff => ?_⟩
      refine ⟨Nat.zero_le _, fun e he => ⟨g, e, as2.map V.ref, rfl, rfl, SqL.of ((Ex.new he) _ _ hg6), SqL.of upd_same, _, rfl, ?_⟩⟩
      have x7 : Ex H5 (upd H6 e (.lst [])) := Ex.trans x6 (Ex.new he)
      generalize upd H6 e (.lst []) = H7 at x7 ⊢
      have hB7 := hB.same x7
      have hla7 := x7 _ _ hla5
      have hp7 := x7 _ _ (x5 _ _ hp4)
      by_cases hs : Seatable (ScM chs cls) L
      · have hne : as2 ≠ [] := hiff.mpr hs
        refine itP (by cases as2 with | nil => exact absurd rfl hne | cons _ _ => rfl) ?_
        refine q_asgL (i := 4) (xs := (rowOf ys L).map V.int) ?_ fun rw_ H8 hrw x8 hrw8 => ?_
        · rw [show (rowOf ys L).map V.int = ys.map fun x => V.int (if x ∈ L then 0 else 1) by unfold rowOf; rw [List.map_map]; rfl]
          refine el_mL (c := V.str) (ys := ys) (fun x => V.int (if x ∈ L then 0 else 1)) (ev_var rfl) (SqL.of hp7) (by omega) fun i y hy H' x' => ?_
          refine ev_is (ev_cb (ea_cons (ev_niSL (ev_var rfl) (ev_var rfl) (SqL.of (x' _ _ hla7))) ea_nil) (z := V.int (if (!decide (y ∈ L)) = true then 1 else 0)) fun H1 e Q q => .inr ⟨_, rfl, q H1 (Ex.refl _)⟩) ?_
          by_cases z : y ∈ L
          · simp [z]
          · simp [z]
        have hla8 := x8 _ _ hla7
        have hB8 := hB7.same x8
        have x58 := x5.trans (x7.trans x8)
        -- the new one is the best
        have new : (∀ L' ∈ (lotsOf ys).take j, Seatable (ScM chs cls) L' → ¬ rowOf ys L' < rowOf ys L) → ∀ H9, Ex H8 H9 → ∀ bt, H9 bt = some (.tup [.ref rw_, .ref la]) → BestAt (ScM chs cls) ys ((lotsOf ys).take (j + 1)) H9 (.ref bt) := fun hl H9 x9 bt hbt => by
          refine .inr ⟨bt, rw_, la, L, rfl, hbt, x9 _ _ hrw8, x9 _ _ hla8, by rw [tk]; simp, hs, fun L' hL' sL' => ?_⟩
          rw [tk] at hL'
          rcases List.mem_append.mp hL' with z | z
          · exact hl L' z sL'
          · rw [List.mem_singleton.mp z]; exact List.lt_irrefl _
        rcases hB8 with ⟨rfl, hno⟩ | ⟨bt, rl, ll, L0, rfl, hbt, hrl, hll, hL0, sL0, least⟩
        · refine s_when (b := true || false) (et_or (et_test (ev_is (ev_op (ev_var rfl) ev_c (fun H1 e Q q => ⟨rfl, q H1 (Ex.refl _)⟩)) (by simp))) fun z => nomatch z) (fun _ H9 x9 => ?_) (fun z => nomatch z)
          refine s_asgU (i := 2) (eu_tup (ea_cons (ev_var rfl) (ea_cons (ev_var rfl) ea_nil)) (by show 2 ≤ 100000; decide)) fun bt H10 _ x10 hbt => ?_
          exact ⟨_, _, _, rfl, x58.trans (x9.trans x10), new (fun L' hL' sL' => absurd sL' (hno L' hL')) H10 (x9.trans x10) bt hbt⟩
        · have ntN : decide (V.ref bt = V.non) = false := decide_eq_false (by intro z; cases z)
          refine s_when (b := false || decide (rowOf ys L < rowOf ys L0)) (et_or (et_test (ev_is (ev_op (ev_var rfl) ev_c (fun H1 e Q q => ⟨rfl, q H1 (Ex.refl _)⟩)) (by rw [ntN]))) fun _ => et_test ?_) (fun hlt H9 x9 => ?_) (fun hlt H9 x9 => ?_)
          · exact ev_op (ev_var rfl) (ev_op (ev_var rfl) ev_c (rv_ixT (SqT.of hbt) (atI_00 _ _))) fun H1 e Q q => ⟨rw_, rl, _, _, rfl, rfl, SqL.of (e _ _ hrw8), SqL.of (e _ _ hrl), q H1 (Ex.refl _)⟩
          · have hlt' : rowOf ys L < rowOf ys L0 := of_decide_eq_true (by simpa using hlt)
            refine s_asgU (i := 2) (eu_tup (ea_cons (ev_var rfl) (ea_cons (ev_var rfl) ea_nil)) (by show 2 ≤ 100000; decide)) fun bt2 H10 _ x10 hbt2 => ?_
            exact ⟨_, _, _, rfl, x58.trans (x9.trans x10), new (fun L' hL' sL' k => least L' hL' sL' (List.lt_trans k hlt')) H10 (x9.trans x10) bt2 hbt2⟩
          · have hlt' : ¬ rowOf ys L < rowOf ys L0 := of_decide_eq_false (by simpa using hlt)
            refine ⟨_, _, _, rfl, x58.trans x9, .inr ⟨bt, rl, ll, L0, rfl, x9 _ _ hbt, x9 _ _ hrl, x9 _ _ hll, by rw [tk]; exact List.mem_append_left _ hL0, sL0, fun L' hL' sL' => ?_⟩⟩
            rw [tk] at hL'
            rcases List.mem_append.mp hL' with z | z
            · exact least L' z sL'
            · rw [List.mem_singleton.mp z]; exact hlt'
      · have hne : as2 = [] := Classical.byContradiction fun z => hs (hiff.mp z)
        refine itN (by rw [hne]; decide) ?_
        refine ⟨_, _, _, rfl, x5.trans x7, ?_⟩
        rcases hB7 with ⟨e, hno⟩ | ⟨bt, rl, ll, L0, e, hbt, hrl, hll, hL0, sL0, least⟩
        · refine .inl ⟨e, fun L' hL' => ?_⟩
          rw [tk] at hL'
          rcases List.mem_append.mp hL' with z | z
          · exact hno L' z
          · rw [List.mem_singleton.mp z]; exact hs
        · refine .inr ⟨bt, rl, ll, L0, e, hbt, hrl, hll, by rw [tk]; exact List.mem_append_left _ hL0, sL0, fun L' hL' sL' => ?_⟩
          rw [tk] at hL'
          rcases List.mem_append.mp hL' with z | z
          · exact least L' z sL'
          · rw [List.mem_singleton.mp z] at sL'; exact absurd sL' hs
    · rintro σ' H5 ⟨v2, v3, v4, rfl, x5, hB⟩
      rw [List.length_map, hL.1, List.take_length] at hB
      rcases hB with ⟨_, hB⟩ | ⟨bt, rl, ll, L, rfl, hbt, hrl, hll, hLm, sL, least⟩
      · exact absurd hB (best_some nd)
      · obtain ⟨zs, pz, sz⟩ := mem_sortS L
        have subL := lotsOf_sub hLm
        have ndL : L.Nodup := nd.sublist subL
        refine s_retL (el_cb (ea_cons (ev_op (ev_var rfl) ev_c (rv_ixT (SqT.of hbt) (atI_1 _ _ _))) ea_nil) (xs := zs.map V.str) fun H6 x6 Q' q' => ⟨ll, L, rfl, SqL.of (x6 _ _ hll), by have := subL.length_le; omega, fun ys2 p2 pm2 s2 hp2 => ?aa⟩) fun p6 H6 hp6 x6 hp6' => ?bb
        case aa =>
          rw [srt_eq (pm2.trans pz.symm) s2 sz]
          exact q' p2 _ hp2 (Ex.new hp2) upd_same
        case bb =>
          have xx : Ex H1 H6 := x2.trans (x4.trans (x5.trans x6))
          refine q p6 zs H6 (x1.trans (ExtN.of xx)) (fun b0 hb0 => n1 b0 (fresh_back xx hb0)) (hT1.ext xx) (n1 p6 (fresh_back (x2.trans (x4.trans x5)) hp6)) hp6' ⟨ys, pm, pw, pz.nodup_iff.mpr ndL, fun x => ?_⟩ sz
          rw [pz.mem_iff]
          exact best_end nd hLm sL least x
end
end Mc
namespace Mc
open PySem L2 PySem.Spec PyProof.Rows Gd Evl LamX NdefX
/-! what stands over a table's growth -/
theorem Dr.extN {K : PySem.W.Frag} {M : List Addr} {d a : Addr} {H H' : Hp} (D : Dr K M d a H) (x : ExtN H H') : Dr K M d a H' := by
  obtain ⟨k0, m, ns, hl, hs⟩ := D
  refine ⟨?_, m, ns, hl, fun H2 k => ?_⟩
  · obtain ⟨j, h⟩ := k0
    exact ⟨j, x _ _ h fun _ => by simp⟩
  · classical
    have s := hs (fun b => if ∃ ps, H b = some (.tbl ps) then H b else H2 b) fun b o z nb => by
      by_cases e : ∃ ps, H b = some (.tbl ps)
      · show (if _ then H b else H2 b) = _
        rw [if_pos e]; exact z
      · show (if _ then H b else H2 b) = _
        rw [if_neg e]
        exact k b o (x _ _ z fun ps hp => e ⟨ps, by rw [z, hp]⟩) nb
    by_cases e : ∃ ps, H a = some (.tbl ps)
    · obtain ⟨ps, e2⟩ := e
      rcases s with (s | ⟨o, s⟩) | s
      · have s : (if (∃ ps, H a = some (.tbl ps)) then H a else H2 a) = _ := s
        rw [if_pos ⟨ps, e2⟩, e2] at s; cases s
      · have s : (if (∃ ps, H a = some (.tbl ps)) then H a else H2 a) = _ := s
        rw [if_pos ⟨ps, e2⟩, e2] at s; cases s
      · exact .inr s
    · rcases s with (s | ⟨o, s⟩) | s
      · have s : (if (∃ ps, H a = some (.tbl ps)) then H a else H2 a) = _ := s
        rw [if_neg e] at s; exact .inl (.inl s)
      · have s : (if (∃ ps, H a = some (.tbl ps)) then H a else H2 a) = _ := s
        rw [if_neg e] at s; exact .inl (.inr ⟨o, s⟩)
      · exact .inr s
theorem TabsN.kpD {T : List NTab} {K : PySem.W.Frag} {M : List Addr} {d a : Addr} {H H' : Hp} (t : TabsN T H) (D : Dr K M d a H) (k : Kp [d] H H') : TabsN T H' := fun p hp => by
  obtain ⟨j, hd⟩ := D.at_
  obtain ⟨ps, h1, h2, h3⟩ := t p hp
  refine ⟨ps, k _ _ h1 fun e => ?_, h2, fun pos cv hc => ?_⟩
  · rw [List.mem_singleton.mp e, hd] at h1; cases h1
  · obtain ⟨c, e1, e2⟩ := h3 pos cv hc
    refine ⟨c, e1, k _ _ e2 fun e => ?_⟩
    rw [List.mem_singleton.mp e, hd] at e2
    unfold CodeO at e2
    cases e2
theorem TabsN.updD {T : List NTab} {H : Hp} {a : Addr} {kvs : List (L2.Key × V)} {o : HO} (t : TabsN T H) (h : (H a = some (.dK kvs)) ∨ ∃ od, H a = some (.frz od (.dK kvs))) : TabsN T (upd H a o) := fun p hp => by
  obtain ⟨ps, h1, h2, h3⟩ := t p hp
  refine ⟨ps, ?_, h2, fun pos cv hc => ?_⟩
  · rw [upd_ne fun e => by rw [e] at h1; rcases h with h | ⟨od, h⟩ <;> rw [h] at h1 <;> cases h1]; exact h1
  · obtain ⟨c, e1, e2⟩ := h3 pos cv hc
    refine ⟨c, e1, ?_⟩
    rw [upd_ne fun e => by rw [e] at e2; unfold CodeO at e2; rcases h with h | ⟨od, h⟩ <;> rw [h] at e2 <;> cases e2]; exact e2
theorem ScnX.extN {CS : Addr} {H H' : Hp} {p : Addr} {chs : Chs} {cls : Cls'} (h : ScnX CS H p chs cls) (x : ExtN H H') : ScnX CS H' p chs cls := by
  obtain ⟨dx, a, b, h1, h2, h3⟩ := h.here
  exact ⟨⟨dx, a, b, x _ _ h1 (fun _ => by simp), x _ _ h2 (fun _ => by simp), x _ _ h3 (fun _ => by simp)⟩, h.sch, h.scl⟩
end Mc
namespace Mc
open PySem L2 PySem.Spec PyProof.Rows Evl
/-! comprehensions over any source; items that are new objects, told by a relation -/
section
variable {α : Type} {c : α → V} {ys : List α} {J : It} {n : Nat} {G : Hp → Prop} {te : TE} {vs : List Nat} {σ : L2.St} {H1 : Hp} {D : Addr} {Qd : Hp → Prop} {j : Nat} {tt : TT}
theorem prd_imp {α β : Type} {F G : α → β → Prop} (hFG : ∀ a b, F a b → G a b) : ∀ {xs : List α} {ys : List β}, Paired F xs ys → Paired G xs ys
  | _, _, .nil => .nil
  | _, _, .cons r t => .cons (hFG _ _ r) (prd_imp hFG t)
theorem prd_snoc {α β : Type} {F : α → β → Prop} : ∀ {xs : List α} {ys : List β} {x : α} {y : β}, Paired F xs ys → F x y → Paired F (xs ++ [x]) (ys ++ [y])
  | _, _, _, _, .nil, h => .cons h .nil
  | _, _, _, _, .cons r t, h => .cons r (prd_snoc t h)
theorem prd_get {α β : Type} {F : α → β → Prop} : ∀ {xs : List α} {ys : List β}, Paired F xs ys → ∀ {i : Nat} {x : α}, xs[i]? = some x → ∃ y, ys[i]? = some y ∧ F x y
  | _, _, .cons r t, 0, x, h => ⟨_, rfl, by cases Option.some.inj h; exact r⟩
  | _, _, .cons r t, i + 1, x, h => prd_get t (by simpa using h)
theorem prd_mem {α β : Type} {F : α → β → Prop} : ∀ {xs : List α} {ys : List β}, Paired F xs ys → ∀ {y : β}, y ∈ ys → ∃ x ∈ xs, F x y
  | _, _, .cons r t, y, h => (List.mem_cons.mp h).elim (fun e => ⟨_, .head _, e ▸ r⟩) fun h => by
    obtain ⟨x, hx, q⟩ := prd_mem t h
    exact ⟨x, .tail _ hx, q⟩
theorem lc_R (w : Walk J n G (YAt (ys.map c))) (p : α → Bool) (R : α → V → Hp → Prop) (per : ∀ y v H H', R y v H → Same H H' → R y v H') (hn : n = ys.length) (hD : H1 D = none) (hG : ∀ H', Same H1 H' → G H') (hz : ys.length ≤ sizeLine)
    (test : ∀ (i : Nat) (y : α) (H' : Hp) (k : Bool → Hp → Prop), ys[i]? = some y → Same H1 H' → (∀ H4, Same H' H4 → k (p y) H4) → tt ((wipe σ vs).set j (some (c y))) H' k)
    (turn : ∀ (i : Nat) (y : α) (H' : Hp) (k : VK), ys[i]? = some y → p y = true → Same H1 H' → (∀ v H4, Same H' H4 → R y v H4 → k v H4) → te ((wipe σ vs).set j (some (c y))) H' k)
    (hd : ∀ us H', Same H1 H' → H' D = some (.lst us) → Paired (fun y v => R y v H') (ys.filter p) us → Qd H') (hw : ∀ v, wipe ((wipe σ vs).set j (some v)) vs = wipe σ vs := by intro _; rfl)
    (perD : ∀ y v H u, R y v H → H D = some (.lst u) → ∀ u', R y v (upd H D (.lst u'))) :
    ∃ W : Nat → Nat → Hp → Prop, (∃ m, W 0 m (upd H1 D (.lst []))) ∧ ∀ i m H, W i m H →
      (J.stop i H ∧ Qd H) ∨ (J.go i H ∧ ∃ Nx : Hp → Prop, (∀ H', Nx H' → ∃ m', m' < m ∧ W (i + 1) m' H') ∧ ∀ x H', J.yld i H x H' → gName j x (wipe σ vs) H' fun σ2 H2 => wipe σ2 vs = wipe σ vs ∧ tt σ2 H2 fun b H3 =>
        if b = true then te σ2 H3 fun y H4 => ∃ acc, H4 D = some (.lst acc) ∧ acc.length < sizeLine ∧ Nx (upd H4 D (.lst (acc ++ [y]))) else Nx H3) := by
  refine lc_it w (fun i H' => Same H1 H' ∧ ∃ us, H' D = some (.lst us) ∧ Paired (fun y v => R y v H') ((ys.take i).filter p) us) ⟨Same.new hD, [], upd_same, .nil⟩ (fun i H' _ z => hG H' z.1) ?_ ?_
  · rintro i x H H' hi ⟨s1, us, d1, pr⟩ ⟨rfl, hx⟩
    rw [List.getElem?_map] at hx
    cases e : ys[i]? with
    | none => rw [e] at hx; cases hx
    | some y =>
      rw [e] at hx
      obtain rfl := Option.some.inj hx
      have et : (ys.take (i + 1)).filter p = (ys.take i).filter p ++ (if p y = true then [y] else []) := by
        rw [List.take_add_one, e, List.filter_append]
        show _ ++ [y].filter p = _
        rw [List.filter_cons]
        split <;> rfl
      refine ⟨hw _, test i y _ _ e s1 fun H3 s3 => ?_⟩
      by_cases hp : p y = true
      · rw [if_pos hp]
        refine turn i y _ _ e hp (s1.trans s3) fun v H4 s4 hv => ⟨us, s4 _ _ (s3 _ _ d1), ?_, ?_, us ++ [v], upd_same, ?_⟩
        · have h1 := List.length_filter_le p (ys.take i)
          have h3 : (ys.take i).length < ys.length := by
            have := (List.getElem?_eq_some_iff.mp e).1
            rw [List.length_take]; omega
          have := Paired.length pr
          omega
        · exact fun b o z => by
            have nb : b ≠ D := ne_of_none z hD
            rw [upd_ne nb]
            exact s4 _ _ (s3 _ _ (s1 _ _ z))
        · rw [et, if_pos hp]
          exact prd_snoc (prd_imp (fun y v h => perD _ _ _ _ (per _ _ _ _ (per _ _ _ _ h s3) s4) (s4 _ _ (s3 _ _ d1)) _) pr) (perD _ _ _ _ hv (s4 _ _ (s3 _ _ d1)) _)
      · rw [if_neg hp]
        refine ⟨s1.trans s3, us, s3 _ _ d1, ?_⟩
        rw [et, if_neg hp, List.append_nil]
        exact prd_imp (fun y v h => per _ _ _ _ h s3) pr
  · rintro H ⟨s1, us, d1, pr⟩
    subst hn
    rw [List.take_length] at pr
    exact hd us H s1 d1 pr
end
/-! ### sources -/
/-- what is walked: these values, and it stands while the heap grows -/
def EvI (wi : TI) (σ : L2.St) (H : Hp) (vals : List V) : Prop := ∀ H1, Ex H H1 → ∀ R : It → Hp → Prop, (∀ J G H2, Ex H1 H2 → Walk J vals.length G (YAt vals) → (∀ H', Ex H2 H' → G H') → R J H2) → wi σ H1 R
section
variable {K : PySem.W.Frag} {σ : L2.St} {H : Hp} {tl te : TE} {t : TT} {a : Addr} {vals : List V} {wi : TI} {Q : VK} {ta : TA}
theorem EvI.mono {H' : Hp} (e : Ex H H') (h : EvI wi σ H vals) : EvI wi σ H' vals := fun H1 a R r => h H1 (e.trans a) R r
theorem ei_L (hl : Ev tl σ H (.ref a)) (h : SqL K H a vals) : EvI (iList K tl) σ H vals := fun H1 e R r => hl H1 e _ fun H2 e2 => ⟨a, rfl, ⟨_, ex_l (e.trans e2) h⟩, r _ _ H2 e2 walk_list fun H' e3 => ex_l ((e.trans e2).trans e3) h⟩
theorem ei_T (hl : Ev tl σ H (.ref a)) (h : SqT K H a vals) : EvI (iTup K tl) σ H vals := fun H1 e R r => hl H1 e _ fun H2 e2 => ⟨a, rfl, ⟨_, ex_t (e.trans e2) h⟩, r _ _ H2 e2 walk_tup fun H' e3 => ex_t ((e.trans e2).trans e3) h⟩
/-- over a new list, a new tuple -/
theorem ei_N (hl : EvL tl σ H vals) : EvI (iList K tl) σ H vals := fun H1 e R r => hl H1 e _ fun p H2 _ e2 h2 => ⟨p, rfl, ⟨_, sq_of h2⟩, r _ _ H2 e2 walk_list fun H' e3 => sq_of (e3 _ _ h2)⟩
theorem ei_U (hl : EvU tl σ H vals) : EvI (iTup K tl) σ H vals := fun H1 e R r => hl H1 e _ fun p H2 _ e2 h2 => ⟨p, rfl, ⟨_, st_of h2⟩, r _ _ H2 e2 walk_tup fun H' e3 => st_of (e3 _ _ h2)⟩
theorem ei_K {β : Type} {g : β → V} {l : List (PySem.Str × β)} {o : Obj} (hl : Ev tl σ H (.ref a)) (h : H a = some (.frz o (.dK (kvT g l)))) : EvI (iKeys tl) σ H ((keysT l).map V.str) := fun H1 e R r => hl H1 e _ fun H2 e2 => ⟨a, o, rfl, .inl ⟨_, e2 _ _ (e _ _ h), r _ (fun H => H a = some (.frz o (.dK (kvT g l)))) H2 e2 (by rw [List.length_map]; unfold keysT; rw [List.length_map]; exact (show Walk _ _ _ _ from by have := walk_kT (g := g) (l := l) (d := a) (o := o); unfold keysT at this; rwa [List.length_map] at this)) fun H' e3 => e3 _ _ (e2 _ _ (e _ _ h))⟩⟩
theorem ei_r1 {n : Int} (h : EvA ta σ H [.int n]) (h0 : -(2 ^ 62) ≤ n) (h1 : n < 2 ^ 62) : EvI (iRng1 ta) σ H ((List.range n.toNat).map fun i => V.int (i : Nat)) := fun H1 e R r => h H1 e _ fun H2 e2 => ⟨n, rfl, h0, h1, r _ _ H2 e2 (by
  have := walk_rng (lo := 0) (n := n.toNat)
  simp only [Int.zero_add] at this
  rw [List.length_map, List.length_range]
  exact this) fun _ _ => trivial⟩
theorem ei_r2 {lo hi : Int} (h : EvA ta σ H [.int lo, .int hi]) (b : -(2 ^ 62) ≤ lo ∧ lo < 2 ^ 62 ∧ -(2 ^ 62) ≤ hi ∧ hi < 2 ^ 62) : EvI (iRng2 ta) σ H ((List.range (hi - lo).toNat).map fun i => V.int (lo + (i : Nat))) := fun H1 e R r => h H1 e _ fun H2 e2 => ⟨lo, hi, rfl, b, r _ _ H2 e2 (by rw [List.length_map, List.length_range]; exact walk_rng) fun _ _ => trivial⟩
variable {α : Type} {ys : List α} {j : Nat} {vs : List Nat} {c : α → V}
theorem el_mI (f : α → V) (hi : EvI wi σ H (ys.map c)) (hz : ys.length ≤ 100000) (turn : ∀ (i : Nat) y, ys[i]? = some y → ∀ H', Ex H H' → Ev te ((wipe σ vs).set j (some (c y))) H' (f y)) (hw : ∀ v, wipe ((wipe σ vs).set j (some v)) vs = wipe σ vs := by intro _; rfl) :
    EvL (tLc wi (gName j) tYes te vs) σ H (ys.map f) := fun H1 e Q q => hi H1 e _ fun J G H2 e2 w hG D hD =>
  lc_m (j := j) (c := c) (ys := ys) w f (by rw [List.length_map]) hD hG (sz_of hz) (fun i y H' k hy s hk => turn i y hy H' ((e.trans e2).trans s) H' (Ex.refl _) k hk) (fun H' s hD' => q D H' (fresh_back e2 hD) (e2.trans s) hD') hw
theorem el_fI (p : α → Bool) (f : α → V) (hi : EvI wi σ H (ys.map c)) (hz : ys.length ≤ 100000) (test : ∀ (i : Nat) y, ys[i]? = some y → ∀ H', Ex H H' → EvT t ((wipe σ vs).set j (some (c y))) H' (p y))
    (turn : ∀ (i : Nat) y, ys[i]? = some y → p y = true → ∀ H', Ex H H' → Ev te ((wipe σ vs).set j (some (c y))) H' (f y)) (hw : ∀ v, wipe ((wipe σ vs).set j (some v)) vs = wipe σ vs := by intro _; rfl) :
    EvL (tLc wi (gName j) t te vs) σ H ((ys.filter p).map f) := fun H1 e Q q => hi H1 e _ fun J G H2 e2 w hG D hD =>
  lc_f (j := j) (c := c) (ys := ys) w p f (by rw [List.length_map]) hD hG (sz_of hz) (fun i y H' k hy s hk => test i y hy H' ((e.trans e2).trans s) H' (Ex.refl _) k hk) (fun i y H' k hy hp s hk => turn i y hy hp H' ((e.trans e2).trans s) H' (Ex.refl _) k hk) (fun H' s hD' => q D H' (fresh_back e2 hD) (e2.trans s) hD') hw
/-- a value that has some property behind it -/
def EvP (te : TE) (σ : L2.St) (H : Hp) (P : V → Hp → Prop) : Prop := ∀ H1, Ex H H1 → ∀ Q : VK, (∀ v H2, Ex H1 H2 → P v H2 → Q v H2) → te σ H1 Q
theorem EvU.p {xs : List V} (h : EvU te σ H xs) : EvP te σ H fun v H' => ∃ p, v = .ref p ∧ H' p = some (.tup xs) := fun H1 e Q q => h H1 e _ fun p H2 _ e2 h2 => q _ H2 e2 ⟨p, rfl, h2⟩
theorem EvL.p {xs : List V} (h : EvL te σ H xs) : EvP te σ H fun v H' => ∃ p, v = .ref p ∧ H' p = some (.lst xs) := fun H1 e Q q => h H1 e _ fun p H2 _ e2 h2 => q _ H2 e2 ⟨p, rfl, h2⟩
/-- a new list whose items are told by a relation -/
theorem el_RI (p : α → Bool) (R : α → V → Hp → Prop) (per : ∀ y v H H', R y v H → Same H H' → R y v H') (perD : ∀ y v H D u, R y v H → H D = some (.lst u) → (∀ y' v', R y' v' H → True) → ∀ u', R y v (upd H D (.lst u')))
    (hi : EvI wi σ H (ys.map c)) (hz : ys.length ≤ 100000) (test : ∀ (i : Nat) y, ys[i]? = some y → ∀ H', Ex H H' → EvT t ((wipe σ vs).set j (some (c y))) H' (p y))
    (turn : ∀ (i : Nat) y, ys[i]? = some y → p y = true → ∀ H', Ex H H' → EvP te ((wipe σ vs).set j (some (c y))) H' (R y)) (hw : ∀ v, wipe ((wipe σ vs).set j (some v)) vs = wipe σ vs := by intro _; rfl) :
    ∀ H1, Ex H H1 → ∀ Q : VK, (∀ D us H2, H1 D = none → Ex H1 H2 → H2 D = some (.lst us) → Paired (fun y v => R y v H2) (ys.filter p) us → Q (.ref D) H2) → tLc wi (gName j) t te vs σ H1 Q := fun H1 e Q q => hi H1 e _ fun J G H2 e2 w hG D hD =>
  lc_R (j := j) (c := c) (ys := ys) w p R per (by rw [List.length_map]) hD hG (sz_of hz) (fun i y H' k hy s hk => test i y hy H' ((e.trans e2).trans s) H' (Ex.refl _) k hk) (fun i y H' k hy hp s hk => turn i y hy hp H' ((e.trans e2).trans s) H' (Ex.refl _) k fun v H4 e4 hr => hk v H4 e4 hr)
    (fun us H' s hD' pr => q D us H' (fresh_back e2 hD) (e2.trans s) hD' pr) hw fun y v H u hr hu u' => perD y v H D u hr hu (fun _ _ _ => trivial) u'
/-- new tuples of values -/
def NewTup {α : Type} (f : α → List V) : α → V → Hp → Prop := fun y v H => ∃ p, v = .ref p ∧ H p = some (.tup (f y))
theorem el_uI (p : α → Bool) (f : α → List V) (hi : EvI wi σ H (ys.map c)) (hz : ys.length ≤ 100000) (test : ∀ (i : Nat) y, ys[i]? = some y → ∀ H', Ex H H' → EvT t ((wipe σ vs).set j (some (c y))) H' (p y))
    (turn : ∀ (i : Nat) y, ys[i]? = some y → p y = true → ∀ H', Ex H H' → EvU te ((wipe σ vs).set j (some (c y))) H' (f y)) (hw : ∀ v, wipe ((wipe σ vs).set j (some v)) vs = wipe σ vs := by intro _; rfl) :
    ∀ H1, Ex H H1 → ∀ Q : VK, (∀ D us H2, H1 D = none → Ex H1 H2 → H2 D = some (.lst us) → Paired (fun y v => NewTup f y v H2) (ys.filter p) us → Q (.ref D) H2) → tLc wi (gName j) t te vs σ H1 Q :=
  el_RI p (NewTup f) (fun y v H H' ⟨q, e, h⟩ s => ⟨q, e, s _ _ h⟩) (fun y v H D u ⟨q, e, h⟩ hu _ u' => ⟨q, e, by rw [upd_ne fun z => by rw [z, hu] at h; cases h]; exact h⟩) hi hz test (fun i y hy hp H' e => EvU.p (turn i y hy hp H' e)) hw
theorem et_yes : EvT tYes σ H true := fun H1 _ Q q => q H1 (Ex.refl _)
end
end Mc
namespace Mc
open PySem L2 PySem.Spec PyProof.Rows Evl
/-! dicts made of rows of pairs -/
def rDictP (K : PySem.W.Frag) : List V → Hp → VK → Prop := fun xs H Q => ∃ (a : Addr) (ps : List Addr) (kvs : List (L2.Key × V)), xs = [.ref a] ∧ SqL K H a (ps.map V.ref) ∧ Paired (fun p kv => SqT K H p [kV kv.1, kv.2]) ps kvs ∧ ∀ p, H p = none → Q (.ref p) (upd H p (.dK (mergeK [] kvs)))
theorem call_dictPK {X : Cx} {K : PySem.W.Frag} (h : X.K = K) (hc : X.calm = true) : CallR X (.type "dict") (rDictP K) := by
  subst h
  exact call_dictP hc
theorem tups_of {α : Type} {K : PySem.W.Frag} {H : Hp} {f : α → List V} {g : α → L2.Key × V} (e : ∀ y, f y = [kV (g y).1, (g y).2]) : ∀ {ys : List α} {us : List V}, Paired (fun y v => NewTup f y v H) ys us → ∃ ps : List Addr, us = ps.map V.ref ∧ Paired (fun p kv => SqT K H p [kV kv.1, kv.2]) ps (ys.map g)
  | _, _, .nil => ⟨[], rfl, .nil⟩
  | _, _, .cons ⟨p, ep, hp⟩ t => by
    obtain ⟨ps, e1, e2⟩ := tups_of e t
    exact ⟨p :: ps, by rw [ep, e1]; rfl, .cons (SqT.of (by rw [← e]; exact hp)) e2⟩
/-- a new list of new tuples -/
def EvUs {α : Type} (te : TE) (σ : L2.St) (H : Hp) (f : α → List V) (ys : List α) : Prop := ∀ H1, Ex H H1 → ∀ Q : VK, (∀ D us H2, H1 D = none → Ex H1 H2 → H2 D = some (.lst us) → Paired (fun y v => NewTup f y v H2) ys us → Q (.ref D) H2) → te σ H1 Q
section
variable {K : PySem.W.Frag} {σ : L2.St} {H : Hp} {te : TE} {a : Addr} {α : Type} {f : α → List V} {ys : List α}
theorem us_lock {kvs : List (L2.Key × V)} (h : H a = some (.dK kvs)) (k : ∀ od, EvUs te σ (upd H a (.frz od (.dK kvs))) f ys) : EvUs (tLockE te) σ H f ys := fun H1 e Q q => by
  have h1 := e _ _ h
  refine ⟨a, _, h1, trivial, fun od => ?_⟩
  have e1 : Ex (upd H a (.frz od (.dK kvs))) (upd H1 a (.frz od (.dK kvs))) := fun b o z => by
    by_cases nb : b = a
    · rw [nb, upd_same] at z ⊢; exact z
    · rw [upd_ne nb] at z ⊢; exact e _ _ z
  refine k od _ e1 _ fun p us H2 hp e2 h2 pr => ?_
  have na : p ≠ a := fun z => by rw [z, upd_same] at hp; cases hp
  have fa : H2 a = some (.frz od (.dK kvs)) := e2 _ _ upd_same
  refine ⟨fa, q p us _ (by rw [upd_ne na] at hp; exact hp) (fun b o z => ?_) (by rw [upd_ne na]; exact h2) (prd_imp (fun y v ⟨g, eg, hg⟩ => ⟨g, eg, by rw [upd_ne fun z => by rw [z, fa] at hg; cases hg]; exact hg⟩) pr)⟩
  by_cases nb : b = a
  · rw [nb, h1] at z; rw [nb, upd_same]; exact z
  · rw [upd_ne nb]; exact e2 _ _ (by rw [upd_ne nb]; exact z)
theorem ed_pairs {g : α → L2.Key × V} (e : ∀ y, f y = [kV (g y).1, (g y).2]) (h : EvUs te σ H f ys) {kvs : List (L2.Key × V)} (hk : mergeK [] (ys.map g) = kvs) : EvD (tCB (rDictP K) (tCons te tNil)) σ H kvs := fun H1 e1 Q q =>
  h H1 e1 _ fun D us H2 hD e2 h2 pr => by
    obtain ⟨ps, rfl, pp⟩ := tups_of (K := K) e pr
    refine ⟨D, ps, _, rfl, SqL.of h2, pp, fun p hp => ?_⟩
    rw [hk]
    exact q p _ (fresh_back e2 hp) (e2.trans (Ex.new hp)) upd_same
theorem EvD.go1 {kvs : List (L2.Key × V)} {Q : VK} (h : EvD te σ H kvs) (k : ∀ p H2, H p = none → Ex H H2 → H2 p = some (.dK kvs) → Q (.ref p) H2) : te σ H Q := h H (Ex.refl H) Q k
theorem q_asgD {tz : TS} {D : Ends} {i : Nat} {kvs : List (L2.Key × V)} (h : EvD te σ H kvs) (k : ∀ p H1, H p = none → Ex H H1 → H1 p = some (.dK kvs) → tz D (σ.set i (some (.ref p))) H1) : tSeq (tAsg te (gName i)) tz D σ H := h H (Ex.refl H) _ fun p H1 hp e h1 => k p H1 hp e h1
theorem q_asgP {te : TE} {tz : TS} {D : Ends} {σ : L2.St} {H : Hp} {i : Nat} {P : V → Hp → Prop} (h : EvP te σ H P) (k : ∀ v H1, Ex H H1 → P v H1 → tz D (σ.set i (some v)) H1) : tSeq (tAsg te (gName i)) tz D σ H := h H (Ex.refl H) _ k
/-- a copy of a dict -/
theorem ed_copy {r : List V → Hp → VK → Prop} {kvs : List (L2.Key × V)} (hr : r = fun xs H Q => ∃ (a : Addr) (kvs : List (L2.Key × V)), xs = [.ref a] ∧ Rd H a (.dK kvs) ∧ ∀ p, H p = none → Q (.ref p) (upd H p (.dK kvs))) (h : Ev te σ H (.ref a)) (hd : Rd H a (.dK kvs)) : EvD (tCB r (tCons te tNil)) σ H kvs := by
  subst hr
  exact fun H1 e1 Q q => h H1 e1 _ fun H2 e2 => ⟨a, kvs, rfl, ex_rd (e1.trans e2) hd, fun p hp => q p _ (fresh_back e2 hp) (e2.trans (Ex.new hp)) upd_same⟩
end
theorem prd_len {α β : Type} {F : α → β → Prop} : ∀ {xs : List α} {ys : List β}, Paired F xs ys → ys.length = xs.length
  | _, _, .nil => rfl
  | _, _, .cons _ t => by rw [List.length_cons, List.length_cons, prd_len t]
theorem us_items {β : Type} {K : PySem.W.Frag} {σ : L2.St} {H : Hp} {te : TE} {a : Addr} {g : β → V} {l : List (PySem.Str × β)} {o : Obj} {f : PySem.Str × β → List V} {i j : Nat} {vs : List Nat} {tl : TE} (hl : Ev tl σ H (.ref a)) (h : H a = some (.frz o (.dK (kvT g l)))) (hz : l.length < 100000)
    (turn : ∀ (k : Nat) y, l[k]? = some y → ∀ H', Ex H H' → EvU te (((wipe σ vs).set i (some (.str y.1))).set j (some (g y.2))) H' (f y)) (hw : ∀ u v, wipe (((wipe σ vs).set i (some u)).set j (some v)) vs = wipe σ vs := by intro _ _; rfl) :
    EvUs (tLc (iItems tl) (gTup K 2 (gCons (gName i) (gCons (gName j) gNil))) tYes te vs) σ H f l := fun H1 e Q q => hl H1 e _ fun H2 e2 => ⟨a, o, _, rfl, e2 _ _ (e _ _ h), fun D hD => by
  refine lc_it walk_items (fun n H' => ∃ us, Ex H2 H' ∧ H' D = some (.lst us) ∧ Paired (fun y v => NewTup f y v H') (l.take n) us) ⟨[], Ex.new hD, upd_same, .nil⟩ (fun n H' _ p => by obtain ⟨us, s, _⟩ := p; exact s _ _ (e2 _ _ (e _ _ h))) ?_ ?_
  · rintro n x H5 H6 hn ⟨us, s5, hD5, pr⟩ ⟨T5, x1, x2, rfl, hT5, rfl, ex, ey⟩
    obtain ⟨z, hz', rfl, rfl⟩ : ∃ z, l[n]? = some z ∧ x1 = V.str z.1 ∧ x2 = g z.2 := by
      replace ex : ((kvT g l)[n]?.map fun kv => kV kv.1) = some x1 := ex
      replace ey : ((kvT g l)[n]?.map Prod.snd) = some x2 := ey
      unfold kvT at ex ey
      rw [List.getElem?_map] at ex ey
      cases e : l[n]? with
      | none => rw [e] at ex; cases ex
      | some z => rw [e] at ex ey; exact ⟨z, rfl, (Option.some.inj ex).symm, (Option.some.inj ey).symm⟩
    have s6 := Ex.new (o := .tup [.str z.1, g z.2]) hT5
    refine ⟨T5, [.str z.1, g z.2], rfl, SqT.of upd_same, rfl, _, _, rfl, _, _, rfl, rfl, hw _ _, yes_ite ?_⟩
    refine turn n z hz' _ (((e.trans e2).trans s5).trans s6) _ (Ex.refl _) _ fun p H7 hp x7 h7 => ?_
    have hD7 := x7 _ _ (s6 _ _ hD5)
    have ext : ∀ b o, H5 b = some o → b ≠ D → (upd H7 D (.lst (us ++ [.ref p]))) b = some o := fun b o z n => by rw [upd_ne n]; exact x7 _ _ (s6 _ _ z)
    refine ⟨us, hD7, ?_, us ++ [.ref p], fun b o z => ext b o (s5 _ _ z) (ne_of_none z hD), upd_same, ?_⟩
    · rw [prd_len pr, List.length_take]
      exact sz_lt (by omega)
    · rw [List.take_add_one, hz']
      refine prd_snoc (prd_imp (fun y v ⟨r, er, hr⟩ => ⟨r, er, ext _ _ hr fun z => by rw [z, hD5] at hr; cases hr⟩) pr) ⟨p, rfl, ?_⟩
      rw [upd_ne fun z => by rw [z, hD7] at h7; cases h7]; exact h7
  · rintro H5 ⟨us, s5, hD5, pr⟩
    rw [show (kvT g l).length = l.length by unfold kvT; rw [List.length_map], List.take_length] at pr
    exact q D us H5 (fresh_back e2 hD) (e2.trans s5) hD5 pr⟩
theorem q_two {t : TT} {tu tz : TS} {D : Ends} {σ : L2.St} {H : Hp} (R : L2.St → Hp → Prop) (tail : ∀ σ' H', R σ' H' → tz D σ' H') (b : (∀ σ' H', R σ' H' → tz D σ' H') → tIfS t tu tNext { D with nx := tz D } σ H) : tSeq (tIfS t tu tNext) tz D σ H := b tail
theorem kv_filter {β : Type} {f : β → V} {l : List (PySem.Str × β)} (nd : (keysT l).Nodup) (p : PySem.Str → Bool) (z : β) : ((keysT l).filter p).map (fun y => ((Sum.inr y : L2.Key), f ((getT l y).getD z))) = kvT f (l.filter fun x => p x.1) := by
  unfold kvT keysT
  rw [List.filter_map, List.map_map]
  refine List.map_congr_left fun x hx => ?_
  have hx' := (List.mem_filter.mp hx).1
  show ((Sum.inr x.1 : L2.Key), f ((getT l x.1).getD z)) = _
  rw [getT_mem nd (v := x.2) hx']
  rfl
end Mc
namespace Mc
open PySem L2 PySem.Spec PyProof.Rows
/-- try: .. except C as n: .., its reading by a name -/
def tTryAs (K : PySem.W.Frag) (c : Value) (i : Nat) (tb : WX → TS) (ts : Addr → Value → Option Addr → TS) (Wout : WX) : TS := fun D σ H => tb (wAs K c i ts Wout D) D σ H
theorem ps_tryAs {X : Cx} {x n : Str} {c : Value} {i : Nat} {body suite : List Stmt} {b₀ : Stmt} {np pos pos' : Pos} {tb : WX → TS} {ts : Addr → Value → Option Addr → TS} {Wout : WX} (hs : X.stack = X.env :: X.outer) (hf : X.env.frame = some X.env.locals) (hN : X.N.Nodup) (hi : X.N[i]? = some n) (hln : X.env.kindOf n = some .local) (hc : Names X x c) (tk : Takes X Wout)
    (hb : ∀ (W : WX) (pn : List (Addr × Obj)) (xe : Value → Shared → Prop), Takes (X.tr pn xe) W → PassesOwn (model X.prog X.w) X.A X.env xe → PSs (X.tr pn xe) body (tb W))
    (hsu : ∀ (a : Addr) (oe : Obj) (cls : Value) (d : Option Addr) (pn : List (Addr × Obj)), Zc cls d oe → (∃ vs, oe.data = .fields vs) → PSs (X.suite a ((a, oe) :: pn)) (b₀ :: suite) (ts a cls d)) :
    PS X (.Try body [.ExceptHandler (some (.Name x np)) (some n) (b₀ :: suite) pos'] [] [] pos) (tTryAs X.K c i tb ts Wout) := ps_try_as hs hf hN hi hln hc tk hb hsu
end Mc
namespace Mc
open PySem L2 PySem.Spec PyProof.Rows Gd Evl Cmb LamX NdefX
abbrev s_law : Stmt := top 41
abbrev nmL : List PySem.Str := ["script", "draw", "scene", "most", "rows", "lot", "calls", "small", "given", "many", "masts", "best", "wrong", "fault", "name", "call", "mast"]
theorem sc_law : FnScope nmL ["script"] (defScope s_law) := ⟨rfl, rfl, rfl, by decide +kernel, rfl, by decide +kernel, by decide +kernel⟩
structure TxL (K : PySem.W.Frag) (mg : PySem.Str → Option Value) (CS CC CB f_eq : Addr) (fdE : FuncData) : Prop where
  clS : Cls K CS
  nCh : NoAttr K CS "channels"
  nCa : NoAttr K CS "calls"
  clC : Cls K CC
  nW : NoAttr K CC "worth"
  nH : NoAttr K CC "heard"
  len : mg "len" = none
  dict : mg "dict" = none
  max : mg "max" = none
  all : mg "all" = none
  list : mg "list" = none
  tuple : mg "tuple" = none
  sorted : mg "sorted" = none
  mgB : mg "BadName" = some (.ref CB)
  xf : XfC K CB
  nName : PySem.W.findIn K (.ref CB) "name" = some none
  te : PySem.W.exmOne K (.ref CB) (.ref CB) = some true
  eq : PySem.W.findIn K (.ref CS) "__eq__" = some (some (.ref f_eq))
  ne : PySem.W.findIn K (.ref CS) "__ne__" = some (some (.builtin "object.__ne__"))
  ob : PySem.W.mroIn K CS (.type "object") = some true
  isf : PySem.W.isFn K (.ref f_eq) = true
  bE : Binds K fdE ["self", "other"] []
def spLaw (K : PySem.W.Frag) (T : List NTab) : Sp := fun vs H Q _ => ∃ (a : Addr) (ns : List Int), vs = [.ref a] ∧ SqL K H a (ns.map V.int) ∧ ns.length ≤ 63 ∧ TabsN T H ∧ ∀ H', Q (.bl true) H'
theorem cr_maxK8 {X : Cx} {K : PySem.W.Frag} (h : X.K = K) (hc : X.calm = true) : CallR X (.builtin "max") (rMax K) := by subst h; exact cr_max hc
theorem pi_tupK5 {X : Cx} {K : PySem.W.Frag} {tg l : Expr} {tl : TE} (h : X.K = K) (hl : PE X l tl) : PI X tg l (iTup K tl) := by
  subst h
  exact pi_tup hl
/-- a new list over the items of a dict that is locked, told item by item -/
theorem lp_items {β : Type} {σ : L2.St} {H : Hp} {te : TE} {a : Addr} {g : β → V} {l : List (PySem.Str × β)} {o : Obj} {R : PySem.Str × β → V → Hp → Prop} {i j : Nat} {vs : List Nat} {tl : TE} {K : PySem.W.Frag}
    (hR : ∀ H H' D xs y v, R y v H → H D = some (.lst xs) → (∀ b o, b ≠ D → H b = some o → H' b = some o) → R y v H') (hX : ∀ H H' y v, R y v H → Ex H H' → R y v H') (hl : Ev tl σ H (.ref a)) (h : H a = some (.frz o (.dK (kvT g l)))) (hz : l.length < 100000)
    (turn : ∀ (k : Nat) y, l[k]? = some y → ∀ H', Ex H H' → EvP te (((wipe σ vs).set i (some (.str y.1))).set j (some (g y.2))) H' (R y)) (hw : ∀ u v, wipe (((wipe σ vs).set i (some u)).set j (some v)) vs = wipe σ vs := by intro _ _; rfl) :
    ∀ H1, Ex H H1 → ∀ Q : VK, (∀ D us H2, H1 D = none → Ex H1 H2 → H2 D = some (.lst us) → Paired (fun y v => R y v H2) l us → Q (.ref D) H2) → tLc (iItems tl) (gTup K 2 (gCons (gName i) (gCons (gName j) gNil))) tYes te vs σ H1 Q := fun H1 e Q q => hl H1 e _ fun H2 e2 => ⟨a, o, _, rfl, e2 _ _ (e _ _ h), fun D hD => by
  refine lc_it walk_items (fun n H' => ∃ us, Ex H2 H' ∧ H' D = some (.lst us) ∧ Paired (fun y v => R y v H') (l.take n) us) ⟨[], Ex.new hD, upd_same, .nil⟩ (fun n H' _ p => by obtain ⟨us, s, _⟩ := p; exact s _ _ (e2 _ _ (e _ _ h))) ?_ ?_
  · rintro n x H5 H6 hn ⟨us, s5, hD5, pr⟩ ⟨T5, x1, x2, rfl, hT5, rfl, ex, ey⟩
    obtain ⟨z, hz', rfl, rfl⟩ : ∃ z, l[n]? = some z ∧ x1 = V.str z.1 ∧ x2 = g z.2 := by
      replace ex : ((kvT g l)[n]?.map fun kv => kV kv.1) = some x1 := ex
      replace ey : ((kvT g l)[n]?.map Prod.snd) = some x2 := ey
      unfold kvT at ex ey
      rw [List.getElem?_map] at ex ey
      cases e : l[n]? with
      | none => rw [e] at ex; cases ex
      | some z => rw [e] at ex ey; exact ⟨z, rfl, (Option.some.inj ex).symm, (Option.some.inj ey).symm⟩
    have s6 := Ex.new (o := .tup [.str z.1, g z.2]) hT5
    refine ⟨T5, [.str z.1, g z.2], rfl, SqT.of upd_same, rfl, _, _, rfl, _, _, rfl, rfl, hw _ _, yes_ite ?_⟩
    refine turn n z hz' _ (((e.trans e2).trans s5).trans s6) _ (Ex.refl _) _ fun p H7 x7 h7 => ?_
    have hD7 := x7 _ _ (s6 _ _ hD5)
    have ext : ∀ b o, b ≠ D → H7 b = some o → (upd H7 D (.lst (us ++ [p]))) b = some o := fun b o n z => by rw [upd_ne n]; exact z
    refine ⟨us, hD7, ?_, us ++ [p], fun b o z => ext b o (ne_of_none z hD) (x7 _ _ (s6 _ _ (s5 _ _ z))), upd_same, ?_⟩
    · rw [prd_len pr, List.length_take]
      exact sz_lt (by omega)
    · rw [List.take_add_one, hz']
      exact prd_snoc (prd_imp (fun y v r => hR _ _ _ _ _ _ (hX _ _ _ _ r (s6.trans x7)) hD7 ext) pr) (hR _ _ _ _ _ _ h7 hD7 ext)
  · rintro H5 ⟨us, s5, hD5, pr⟩
    rw [show (kvT g l).length = l.length by unfold kvT; rw [List.length_map], List.take_length] at pr
    exact q D us H5 (fresh_back e2 hD) (e2.trans s5) hD5 pr⟩
/-- a pair of a call's name and a new call without some masts -/
def CTup (K : PySem.W.Frag) (CC : Addr) (ms : List PySem.Str) (y : PySem.Str × CD) (v : V) (H : Hp) : Prop := ∃ (t c : Addr) (ys : List PySem.Str), v = .ref t ∧ H t = some (.tup [.str y.1, .ref c]) ∧ CallH K CC H c y.2.2.1 ys ∧ ys.Perm (y.2.2.2.filter fun m => !decide (m ∈ ms)) ∧ sortedS ys = true
theorem CTup.kp {K : PySem.W.Frag} {CC : Addr} {ms : List PySem.Str} {H H' : Hp} {D : Addr} {xs : List V} {y : PySem.Str × CD} {v : V} (h : CTup K CC ms y v H) (hD : H D = some (.lst xs)) (k : ∀ b o, b ≠ D → H b = some o → H' b = some o) : CTup K CC ms y v H' := by
  obtain ⟨t, c, ys, e, h1, ⟨dx, hh, h2, h3⟩, p, s⟩ := h
  have n : ∀ {b o}, H b = some o → (∀ zs, o ≠ .lst zs) → H' b = some o := fun {b o} z nl => k b o (fun e => by rw [e, hD] at z; exact nl _ (Option.some.inj z).symm) z
  exact ⟨t, c, ys, e, n h1 (fun _ => by simp), ⟨dx, hh, n h2 (fun _ => by simp), n h3 (fun _ => by simp)⟩, p, s⟩
theorem CTup.ex {K : PySem.W.Frag} {CC : Addr} {ms : List PySem.Str} {H H' : Hp} {y : PySem.Str × CD} {v : V} (h : CTup K CC ms y v H) (x : Ex H H') : CTup K CC ms y v H' := by
  obtain ⟨t, c, ys, e, h1, ⟨dx, hh, h2, h3⟩, p, s⟩ := h
  exact ⟨t, c, ys, e, x _ _ h1, ⟨dx, hh, x _ _ h2, x _ _ h3⟩, p, s⟩
theorem ctups {K : PySem.W.Frag} {CC : Addr} {ms : List PySem.Str} {H : Hp} : ∀ {l : Cls'} {us : List V}, Paired (fun y v => CTup K CC ms y v H) l us → ∃ (ps : List Addr) (cs : Cls'), us = ps.map V.ref ∧ Paired (fun p kv => SqT K H p [kV kv.1, kv.2]) ps (kvT vO cs) ∧ keysT cs = keysT l ∧
    CallsH K CC H cs ∧ ∀ x ∈ cs, ∃ z ∈ l, z.1 = x.1 ∧ x.2.2.1 = z.2.2.1 ∧ x.2.2.2.Perm (z.2.2.2.filter fun m => !decide (m ∈ ms)) ∧ sortedS x.2.2.2 = true
  | _, _, .nil => ⟨[], [], rfl, .nil, rfl, fun _ z => (nomatch z), fun _ z => nomatch z⟩
  | _, _, .cons (a := y) ⟨t, c, ys, e, h1, h2, p, s⟩ tl => by
    obtain ⟨ps, cs, e1, e2, e3, e4, e5⟩ := ctups tl
    refine ⟨t :: ps, (y.1, (c, y.2.2.1, ys)) :: cs, by rw [e, e1]; rfl, .cons (SqT.of h1) e2, by unfold keysT at e3 ⊢; rw [List.map_cons, List.map_cons, e3], fun x hx => ?_, fun x hx => ?_⟩
    · rcases List.mem_cons.mp hx with z | z
      · rw [z]; exact h2
      · exact e4 x z
    · rcases List.mem_cons.mp hx with z | z
      · rw [z]; exact ⟨y, List.mem_cons_self, rfl, rfl, p, s⟩
      · obtain ⟨w, hw, r⟩ := e5 x z
        exact ⟨w, List.mem_cons_of_mem _ hw, r⟩
/-- all but lists and tables stands -/
def NL (H H' : Hp) : Prop := ∀ b o, H b = some o → (∀ xs, o ≠ .lst xs) → (∀ ps, o ≠ .tbl ps) → H' b = some o
theorem NL.scene {K : PySem.W.Frag} {CS CC : Addr} {H H' : Hp} {sc : Addr} {chs : Chs} {cls : Cls'} (h : SceneH K CS CC H sc chs cls) (x : NL H H') : SceneH K CS CC H' sc chs cls := by
  obtain ⟨dx, a, b, h1, h2, h3⟩ := h.here
  refine ⟨⟨dx, a, b, x _ _ h1 (fun _ => by simp) (fun _ => by simp), h2.elim (fun z => .inl (x _ _ z (fun _ => by simp) fun _ => by simp)) (fun ⟨o, z⟩ => .inr ⟨o, x _ _ z (fun _ => by simp) fun _ => by simp⟩), h3.elim (fun z => .inl (x _ _ z (fun _ => by simp) fun _ => by simp)) fun ⟨o, z⟩ => .inr ⟨o, x _ _ z (fun _ => by simp) fun _ => by simp⟩⟩, fun y hy => ?_⟩
  obtain ⟨dx, q, a, b⟩ := (h.calls y hy).here
  exact ⟨dx, q, x _ _ a (fun _ => by simp) (fun _ => by simp), x _ _ b (fun _ => by simp) fun _ => by simp⟩
theorem NL.scn {CS : Addr} {H H' : Hp} {sc : Addr} {chs : Chs} {cls : Cls'} (h : ScnX CS H sc chs cls) (x : NL H H') : ScnX CS H' sc chs cls := by
  obtain ⟨dx, a, b, h1, h2, h3⟩ := h.here
  exact ⟨⟨dx, a, b, x _ _ h1 (fun _ => by simp) (fun _ => by simp), x _ _ h2 (fun _ => by simp) (fun _ => by simp), x _ _ h3 (fun _ => by simp) fun _ => by simp⟩, h.sch, h.scl⟩
theorem NL.trans {A B C : Hp} (h : NL A B) (k : NL B C) : NL A C := fun b o z n m => k b o (h b o z n m) n m
theorem NL.ex {A B : Hp} (x : Ex A B) : NL A B := fun b o z _ _ => x b o z
theorem NL.extN {A B : Hp} (x : ExtN A B) : NL A B := fun b o z _ m => x b o z m
theorem NL.kp {A B : Hp} {d : Addr} {xs : List V} (k : Kp [d] A B) (h : A d = some (.lst xs)) : NL A B := fun b o z n _ => k b o z fun e => by
  rw [List.mem_singleton.mp e, h] at z
  exact n _ (Option.some.inj z).symm
/-- all but one list and the tables stands -/
def XR (r : Addr) (H H' : Hp) : Prop := ∀ b o, H b = some o → b ≠ r → (∀ ps, o ≠ .tbl ps) → H' b = some o
theorem XR.trans {r : Addr} {A B C : Hp} (h : XR r A B) (k : XR r B C) : XR r A C := fun b o z n m => k b o (h b o z n m) n m
theorem XR.ex {r : Addr} {A B : Hp} (x : Ex A B) : XR r A B := fun b o z _ _ => x b o z
theorem XR.extN {r : Addr} {A B : Hp} (x : ExtN A B) : XR r A B := fun b o z _ m => x b o z m
theorem XR.upd {r : Addr} {A : Hp} {o : HO} : XR r A (upd A r o) := fun b u z n _ => by rw [upd_ne n]; exact z
theorem XR.nl {r : Addr} {A B : Hp} {xs : List V} (x : XR r A B) (h : A r = some (.lst xs)) : NL A B := fun b o z n m => x b o z (fun e => by rw [e, h] at z; exact n _ (Option.some.inj z).symm) m
/-- a new list, told item by item -/
def EvR {α : Type} (te : TE) (σ : L2.St) (H : Hp) (R : α → V → Hp → Prop) (ys : List α) : Prop := ∀ H1, Ex H H1 → ∀ Q : VK, (∀ D us H2, H1 D = none → Ex H1 H2 → H2 D = some (.lst us) → Paired (fun y v => R y v H2) ys us → Q (.ref D) H2) → te σ H1 Q
theorem er_lock {α : Type} {σ : L2.St} {H : Hp} {te : TE} {a : Addr} {R : α → V → Hp → Prop} {ys : List α} {kvs : List (L2.Key × V)} (hU : ∀ H H' od kvs y v, R y v H → H a = some (.frz od (.dK kvs)) → (∀ b o, b ≠ a → H b = some o → H' b = some o) → R y v H') (h : H a = some (.dK kvs))
    (k : ∀ od, EvR te σ (upd H a (.frz od (.dK kvs))) R ys) : EvR (tLockE te) σ H R ys := fun H1 e Q q => by
  have h1 := e _ _ h
  refine ⟨a, _, h1, trivial, fun od => ?_⟩
  have e1 : Ex (upd H a (.frz od (.dK kvs))) (upd H1 a (.frz od (.dK kvs))) := fun b o z => by
    by_cases nb : b = a
    · rw [nb, upd_same] at z ⊢; exact z
    · rw [upd_ne nb] at z ⊢; exact e _ _ z
  refine k od _ e1 _ fun p us H2 hp e2 h2 pr => ?_
  have na : p ≠ a := fun z => by rw [z, upd_same] at hp; cases hp
  have fa : H2 a = some (.frz od (.dK kvs)) := e2 _ _ upd_same
  refine ⟨fa, q p us _ (by rw [upd_ne na] at hp; exact hp) (fun b o z => ?_) (by rw [upd_ne na]; exact h2) (prd_imp (fun y v r => hU _ _ _ _ _ _ r fa fun b o n z => by rw [upd_ne n]; exact z) pr)⟩
  by_cases nb : b = a
  · rw [nb, h1] at z; rw [nb, upd_same]; exact z
  · rw [upd_ne nb]; exact e2 _ _ (by rw [upd_ne nb]; exact z)
theorem CTup.un {K : PySem.W.Frag} {CC a : Addr} {ms : List PySem.Str} {H H' : Hp} {od : Obj} {kvs : List (L2.Key × V)} {y : PySem.Str × CD} {v : V} (h : CTup K CC ms y v H) (ha : H a = some (.frz od (.dK kvs))) (k : ∀ b o, b ≠ a → H b = some o → H' b = some o) : CTup K CC ms y v H' := by
  obtain ⟨t, c, ys, e, h1, ⟨dx, hh, h2, h3⟩, p, s⟩ := h
  have n : ∀ {b o}, H b = some o → (∀ od zs, o ≠ .frz od zs) → H' b = some o := fun {b o} z nl => k b o (fun e => by rw [e, ha] at z; exact nl _ _ (Option.some.inj z).symm) z
  exact ⟨t, c, ys, e, n h1 (fun _ _ => by simp), ⟨dx, hh, n h2 (fun _ _ => by simp), n h3 (fun _ _ => by simp)⟩, p, s⟩
/-- a row of the law: a lot of masts and what is kept without them -/
structure Rw where
  r : Addr
  la : Addr
  lb : Addr
  L : List PySem.Str
  best : List PySem.Str
structure RwOk (H : Hp) (rows : Addr) (chs : Chs) (cls : Cls') (x : Rw) : Prop where
  hr : H x.r = some (.tup [.ref x.la, .ref x.lb])
  ha : H x.la = some (.lst (x.L.map V.str))
  hb : H x.lb = some (.lst (x.best.map V.str))
  na : x.la ≠ rows
  nb : x.lb ≠ rows
  kp : KpL x.L chs cls x.best
theorem RwOk.xr {H H' : Hp} {rows : Addr} {xs : List V} {chs : Chs} {cls : Cls'} {x : Rw} (h : RwOk H rows chs cls x) (hr : H rows = some (.lst xs)) (k : XR rows H H') : RwOk H' rows chs cls x :=
  ⟨k _ _ h.hr (fun e => by have := h.hr; rw [e, hr] at this; cases this) (fun _ => by simp), k _ _ h.ha h.na (fun _ => by simp), k _ _ h.hb h.nb (fun _ => by simp), h.na, h.nb, h.kp⟩
theorem kv_eq8 {β : Type} {l l' : List (PySem.Str × β)} (p : l.Perm l') (nd : (keysT l').Nodup) (h : sortedS (keysT l) = true) (h' : sortedS (keysT l') = true) : l = l' := by
  have nd0 : (keysT l).Nodup := (p.map Prod.fst).nodup_iff.mpr nd
  have ek : keysT l = keysT l' := srt_eq (p.map Prod.fst) h h'
  have ll := p.length_eq
  refine List.ext_getElem ll fun i h1 h2 => ?_
  have e1 : (keysT l)[i]? = some l[i].1 := by unfold keysT; rw [List.getElem?_map, List.getElem?_eq_getElem h1]; rfl
  have e2 : (keysT l')[i]? = some l'[i].1 := by unfold keysT; rw [List.getElem?_map, List.getElem?_eq_getElem h2]; rfl
  rw [ek, e2] at e1
  have e3 := Option.some.inj e1
  have m1 : getT l' l[i].1 = some l[i].2 := getT_mem nd (p.mem_iff.mp (List.getElem_mem h1))
  have m2 : getT l' l'[i].1 = some l'[i].2 := getT_mem nd (List.getElem_mem h2)
  rw [← e3, m2] at m1
  exact Prod.ext e3.symm (Option.some.inj m1).symm
theorem TabsN.lst8 {T : List NTab} {H : Hp} {a : Addr} {xs : List V} {o : HO} (t : TabsN T H) (h : H a = some (.lst xs)) : TabsN T (upd H a o) := fun p hp => by
  obtain ⟨ps, h1, h2, h3⟩ := t p hp
  have k : ∀ b o', H b = some o' → (∀ xs, o' ≠ .lst xs) → upd H a o b = some o' := fun b o' z n => by
    rw [upd_ne fun e => by rw [e, h] at z; exact n _ (Option.some.inj z).symm]; exact z
  refine ⟨ps, k _ _ h1 (fun _ => by simp), h2, fun pos cv hc => ?_⟩
  obtain ⟨c, e1, e2⟩ := h3 pos cv hc
  refine ⟨c, e1, ?_⟩
  unfold CodeO at e2 ⊢
  exact k _ _ e2 fun _ => by simp
theorem ev_lenD8 {σ : L2.St} {H : Hp} {te : TE} {a : Addr} {kvs : List (L2.Key × V)} {n : Nat} (h : Ev te σ H (.ref a)) (ha : H a = some (.dK kvs)) (hn : kvs.length = n) : Ev (tCB (fun xs H Q => ∃ a kvs, xs = [V.ref a] ∧ H a = some (.dK kvs) ∧ Q (.int kvs.length) H) (tCons te tNil)) σ H (.int (n : Int)) := fun H1 e Q q =>
  h H1 e _ fun H2 e2 => ⟨a, kvs, rfl, e2 _ _ (e _ _ ha), by rw [hn]; exact q H2 e2⟩
theorem eu_tupN8 {K : PySem.W.Frag} {σ : L2.St} {H : Hp} {te : TE} {xs : List V} (h : EvL te σ H xs) : EvU (tThen te (kTup K)) σ H xs := fun H1 e _ q => h H1 e _ fun p H2 hp e2 h2 => .inl ⟨p, xs, rfl, sq_of h2, fun t ht => q t _ (fresh_back e2 ht) (e2.trans (Ex.new ht)) upd_same⟩
theorem q_forNT8 {K : PySem.W.Frag} {g : TG} {tu tz : TS} {D : Ends} {σ : L2.St} {H : Hp} {xs : List V} {tl : TE} (h : EvU tl σ H xs) (Pv : Addr → Nat → L2.St → Hp → Prop) (h0 : ∀ p H1, H p = none → Ex H H1 → H1 p = some (.tup xs) → Pv p 0 σ H1) (hl : ∀ p i σ' H', i ≤ xs.length → Pv p i σ' H' → SqT K H' p xs)
    (hs : ∀ p i x σ' H', xs[i]? = some x → Pv p i σ' H' → g x σ' H' fun σ2 H2 => tu { D with nx := Pv p (i + 1), ct := Pv p (i + 1), bk := tz D } σ2 H2) (hd : ∀ p σ' H', Pv p xs.length σ' H' → tz D σ' H') : tSeq (tFor (iTup K tl) g tu) tz D σ H :=
  h H (Ex.refl H) _ fun p H1 hp e h1 => ⟨p, rfl, ⟨xs, st_of h1⟩, for_tup (D := { D with nx := tz D }) (Pv p) (h0 p H1 hp e h1) (hl p) (hs p) (hd p)⟩
theorem dp_rows8 {K : PySem.W.Frag} {H : Hp} {n : Rw → Int} : ∀ {rs : List Rw} {us : List V}, (∀ x ∈ rs, H x.la = some (.lst (x.L.map V.str))) → Paired (fun y v => NewTup (fun x : Rw => [.ref x.la, .int (n x)]) y v H) rs us → DpAll K H us (rs.map fun x => qD8 x.L (n x))
  | _, _, _, .nil => .nil
  | _, _, h, .cons ⟨p, e, hp⟩ t => by
    rw [e]
    exact .cons (dp_qD8 (SqT.of hp) (SqL.of (h _ List.mem_cons_self))) (dp_rows8 (fun x hx => h x (List.mem_cons_of_mem _ hx)) t)
theorem okN_lay8 {x : PySem.Str} (h : okN x) : PyData.strOk x = true := by
  have l1 : ∀ c ∈ letters.cps.toList, c < 1114112 := by decide +kernel
  have l2 : ∀ c ∈ figures.cps.toList, c < 1114112 := by decide +kernel
  unfold PyData.strOk
  rw [Array.all_eq_true']
  intro c hc
  exact decide_eq_true ((h.2.2.2 c (by simpa using hc)).elim (l1 c) (l2 c))
/-- two scenes without the same masts have calls that are alike -/
theorem v8_eq {ms : List PySem.Str} {cls A B : Cls'} (nd : (keysT cls).Nodup) (hA : LessC ms cls A) (hB : LessC ms cls B) (ek : keysT A = keysT B) : A.map (fun x => (x.1, x.2.2)) = B.map (fun x => (x.1, x.2.2)) := by
  have ll : A.length = B.length := by
    have := congrArg List.length ek
    unfold keysT at this
    rwa [List.length_map, List.length_map] at this
  refine List.ext_getElem (by rw [List.length_map, List.length_map, ll]) fun i h1 h2 => ?_
  rw [List.length_map] at h1 h2
  rw [List.getElem_map, List.getElem_map]
  have e1 : (keysT A)[i]? = some A[i].1 := by unfold keysT; rw [List.getElem?_map, List.getElem?_eq_getElem h1]; rfl
  have e2 : (keysT B)[i]? = some B[i].1 := by unfold keysT; rw [List.getElem?_map, List.getElem?_eq_getElem h2]; rfl
  rw [ek, e2] at e1
  have e3 := (Option.some.inj e1).symm
  obtain ⟨z, hz, z1, z2, z3, z4⟩ := hA _ (List.getElem_mem h1)
  obtain ⟨y, hy, y1, y2, y3, y4⟩ := hB _ (List.getElem_mem h2)
  have g1 : getT cls z.1 = some z.2 := getT_mem nd hz
  have g2 : getT cls y.1 = some y.2 := getT_mem nd hy
  rw [z1, e3, ← y1, g2] at g1
  have e4 := Option.some.inj g1
  refine Prod.ext e3 (Prod.ext (by show A[i].2.2.1 = B[i].2.2.1; rw [z2, y2, e4]) ?_)
  show A[i].2.2.2 = B[i].2.2.2
  refine srt_eq (z3.trans ?_) z4 y4
  rw [← e4]; exact y3.symm
theorem LessC.perm8 {ms : List PySem.Str} {cls A B : Cls'} (h : LessC ms cls A) (p : B.Perm A) : LessC ms cls B := fun x hx => h x (p.mem_iff.mp hx)
/-- comprehensions over a list of pairs -/
theorem el_pr {α : Type} {K : PySem.W.Frag} {σ : L2.St} {H : Hp} {te tl : TE} {a : Addr} {i j : Nat} {vs : List Nat} (f : α → V) {ys : List α} {c : α → Addr} (u v : α → V) (hl : Ev tl σ H (.ref a)) (h : H a = some (.lst (ys.map fun y => V.ref (c y)))) (hp : ∀ y ∈ ys, H (c y) = some (.tup [u y, v y])) (hz : ys.length < 100000)
    (turn : ∀ (k : Nat) y, ys[k]? = some y → ∀ H', Ex H H' → Ev te (((wipe σ vs).set i (some (u y))).set j (some (v y))) H' (f y)) (hw : ∀ u v, wipe (((wipe σ vs).set i (some u)).set j (some v)) vs = wipe σ vs := by intro _ _; rfl) :
    EvL (tLc (iList K tl) (gTup K 2 (gCons (gName i) (gCons (gName j) gNil))) tYes te vs) σ H (ys.map f) := fun H1 e Q q => hl H1 e _ fun H2 e2 => ⟨a, rfl, ⟨_, SqL.of (e2 _ _ (e _ _ h))⟩, fun D hD => by
  refine lc_it (walk_list (K := K) (a := a) (xs := ys.map fun y => V.ref (c y))) (fun n H' => Ex H2 H' ∧ H' D = some (.lst ((ys.take n).map f))) ⟨Ex.new hD, upd_same⟩ (fun n H' _ p => SqL.of (p.1 _ _ (e2 _ _ (e _ _ h)))) ?_ ?_
  · rintro n x H5 H6 hn ⟨s5, hD5⟩ ⟨rfl, hx⟩
    rw [List.getElem?_map] at hx
    cases e' : ys[n]? with
    | none => rw [e'] at hx; cases hx
    | some z =>
      rw [e'] at hx
      obtain rfl := Option.some.inj hx
      have hz2 := s5 _ _ (e2 _ _ (e _ _ (hp z (List.mem_of_getElem? e'))))
      refine ⟨c z, [u z, v z], rfl, SqT.of hz2, rfl, _, _, rfl, _, _, rfl, rfl, hw _ _, yes_ite ?_⟩
      refine turn n z e' _ ((e.trans e2).trans s5) _ (Ex.refl _) _ fun H7 x7 => ?_
      refine ⟨_, x7 _ _ hD5, ?_, fun b o y => by rw [upd_ne (ne_of_none y hD)]; exact x7 _ _ (s5 _ _ y), by rw [upd_same, List.take_add_one, e', List.map_append]; rfl⟩
      rw [List.length_map, List.length_take]
      exact sz_lt (by omega)
  · rintro H5 ⟨s5, hD5⟩
    rw [List.length_map, List.take_length] at hD5
    exact q D H5 (fresh_back e2 hD) (e2.trans s5) hD5⟩
/-- the same, of new tuples -/
theorem us_pr {α : Type} {K : PySem.W.Frag} {σ : L2.St} {H : Hp} {te tl : TE} {a : Addr} {i j : Nat} {vs : List Nat} (f : α → List V) {ys : List α} {c : α → Addr} (u v : α → V) (hl : Ev tl σ H (.ref a)) (h : H a = some (.lst (ys.map fun y => V.ref (c y)))) (hp : ∀ y ∈ ys, H (c y) = some (.tup [u y, v y])) (hz : ys.length < 100000)
    (turn : ∀ (k : Nat) y, ys[k]? = some y → ∀ H', Ex H H' → EvU te (((wipe σ vs).set i (some (u y))).set j (some (v y))) H' (f y)) (hw : ∀ u v, wipe (((wipe σ vs).set i (some u)).set j (some v)) vs = wipe σ vs := by intro _ _; rfl) :
    EvUs (tLc (iList K tl) (gTup K 2 (gCons (gName i) (gCons (gName j) gNil))) tYes te vs) σ H f ys := fun H1 e Q q => hl H1 e _ fun H2 e2 => ⟨a, rfl, ⟨_, SqL.of (e2 _ _ (e _ _ h))⟩, fun D hD => by
  refine lc_it (walk_list (K := K) (a := a) (xs := ys.map fun y => V.ref (c y))) (fun n H' => ∃ us, Ex H2 H' ∧ H' D = some (.lst us) ∧ Paired (fun y v => NewTup f y v H') (ys.take n) us) ⟨[], Ex.new hD, upd_same, .nil⟩ (fun n H' _ p => by obtain ⟨us, s, _⟩ := p; exact SqL.of (s _ _ (e2 _ _ (e _ _ h)))) ?_ ?_
  · rintro n x H5 H6 hn ⟨us, s5, hD5, pr⟩ ⟨rfl, hx⟩
    rw [List.getElem?_map] at hx
    cases e' : ys[n]? with
    | none => rw [e'] at hx; cases hx
    | some z =>
      rw [e'] at hx
      obtain rfl := Option.some.inj hx
      have hz2 := s5 _ _ (e2 _ _ (e _ _ (hp z (List.mem_of_getElem? e'))))
      refine ⟨c z, [u z, v z], rfl, SqT.of hz2, rfl, _, _, rfl, _, _, rfl, rfl, hw _ _, yes_ite ?_⟩
      refine turn n z e' _ ((e.trans e2).trans s5) _ (Ex.refl _) _ fun p H7 hp7 x7 h7 => ?_
      have hD7 := x7 _ _ hD5
      have ext : ∀ b o, H6 b = some o → b ≠ D → (upd H7 D (.lst (us ++ [.ref p]))) b = some o := fun b o z n => by rw [upd_ne n]; exact x7 _ _ z
      refine ⟨us, hD7, ?_, us ++ [.ref p], fun b o z => ext b o (s5 _ _ z) (ne_of_none z hD), upd_same, ?_⟩
      · rw [prd_len pr, List.length_take]
        exact sz_lt (by omega)
      · rw [List.take_add_one, e']
        refine prd_snoc (prd_imp (fun y v ⟨r, er, hr⟩ => ⟨r, er, ext _ _ hr fun z => by rw [z, hD5] at hr; cases hr⟩) pr) ⟨p, rfl, ?_⟩
        rw [upd_ne fun z => by rw [z, hD7] at h7; cases h7]; exact h7
  · rintro H5 ⟨us, s5, hD5, pr⟩
    rw [List.length_map, List.take_length] at pr
    exact q D us H5 (fresh_back e2 hD) (e2.trans s5) hD5 pr⟩
section
variable {P : Program} {w : World} {K : PySem.W.Frag} {mg : PySem.Str → Option Value} {base : Heap}
theorem op_neIK {X : Cx} {n : Nat} {C f : Addr} {fd : FuncData} {ps : List PySem.Str} {sp : Sp} (hP : X.prog = P) (hw : X.w = w) (hK : X.K = K) (hmg : X.mg = mg) (hb0 : X.base = base) (F : FnOk P w K mg base CX0 n f fd ps sp) (hs : PySem.W.findIn K (.ref C) "__eq__" = some (some (.ref f))) (hsn : PySem.W.findIn K (.ref C) "__ne__" = some (some (.builtin "object.__ne__"))) (hm : PySem.W.mroIn K C (.type "object") = some true)
    (hf : PySem.W.isFn K (.ref f) = true) (hb : Binds K fd ps []) (hr : Room (n + 1) X.A) : OpR X (compareOp .NotEq) (rNeI C sp E0) := by
  subst hP hw hK hmg hb0
  exact op_neI F hs hsn hm hf hb (fun pins σ H s e s' I h => nomatch h) hr
theorem scene_go8 {CS CC : Addr} {H : Hp} {Q : Hp → Prop} {chA clA : Addr} {chs : Chs} {cls : Cls'} {x dx : Addr} (hne : chA ≠ clA) (hch : H chA = some (.dK (kvT vI chs))) (hcl : H clA = some (.dK (kvT vO cls))) (ok : OkC chs cls) (hC : CallsH K CC H cls) (hx : H x = none) (hdx : H dx = none)
    (q : ∀ (chs' : Chs) (cls' : Cls') (H' : Hp), chs'.Perm chs → cls'.Perm cls → SceneH K CS CC H' x chs' cls' → ScnX CS H' x chs' cls' → Ex H H' → Q H') :
    spSInit K CS CC (.ref x :: [.ref chA, .ref clA]) (upd (upd H dx (.own x)) x (.ins CS dx [])) (fun v H2 => v = .non ∧ Q H2) E0 := by
  have s1 : Same H (upd (upd H dx (.own x)) x (.ins CS dx [])) := fun b o z => by rw [upd_ne (ne_of_none z hx), upd_ne (ne_of_none z hdx)]; exact z
  refine ⟨x, dx, chA, clA, chs, cls, rfl, hne, upd_same, s1 _ _ hch, s1 _ _ hcl, ok, hC.same s1, fun chs' cls' H2 p1 p2 hS hX k => ⟨rfl, ?_⟩⟩
  exact q chs' cls' H2 p1 p2 hS hX fun u o z => k u o (s1 u o z) fun e => by rw [List.mem_singleton.mp e, hx] at z; cases z
theorem ok_law {f CS CC CB f_eq : Addr} {fd fdE : FuncData} {TT : List NTab} (F : Fun K "law" "law" s_law f fd) (T : TxL K mg CS CC CB f_eq fdE) (FE : FnOk P w K mg base CX0 3 f_eq fdE ["self", "other"] (spSEq8 K CS CC)) (c__law_scene : Cal P w K mg base 6 "_law_scene" ["draw", "masts", "calls"] (spScene K CS CC))
    (c__law_take : Cal P w K mg base 2 "_law_take" ["draw", "many"] (spTake K)) (c__law_lots : Cal P w K mg base 1 "_law_lots" ["names"] (spLots8 K)) (c_Call : CalI P w K mg base CC 1 "Call" ["self", "worth", "heard"] (spCInit K CC)) (c_Scene : CalI P w K mg base CS 4 "Scene" ["self", "channels", "calls"] (spSInit K CS CC))
    (c_without : Cal P w K mg base 6 "without" ["scene", "masts"] (spWithout K CS CC)) (c__law_best : Cal P w K mg base 4 "_law_best" ["scene"] (spBest K CS CC TT)) (c_worst_falls : Cal P w K mg base 9 "worst_falls" ["scene", "most"] (spWorst K CS CC)) (c_sure_calls : Cal P w K mg base 9 "sure_calls" ["scene", "most"] (spSure K CS CC))
    (c_worstX : CalX P w K mg base 4 "worst_falls" ["scene", "most"] (spWorstX CS CB)) :
    FnOk P w K mg base CX0 10 f fd ["script"] (spLaw K TT) := by
  refine F.ok sc_law (fun vs H Q E h => ?_) (fun cdv A outer s H vs Q E hr h => ?_)
  · obtain ⟨a, ns, rfl, _⟩ := h
    rfl
  · obtain ⟨a, ns, rfl, hS, hlen, hT, k⟩ := h
    have hu := hu_of hr
    refine ⟨_, (pss_cons (ps_set (i := 1) sc_law.nd rfl (Or.inl rfl) (pe_lst (pa_cons (pv 0) (pa_cons pe_int pa_nil))))
      (pss_cons (ps_set (i := 2) sc_law.nd rfl (Or.inr rfl) (pe_cal c__law_scene (hr.mono (by decide)) (by rfl) (pa_cons (pv 1) (pa_cons pe_int (pa_cons pe_int pa_nil)))))
      (pss_cons (ps_asg (pe_tup (pa_cons (pe_cal c__law_take (hr.mono (by decide)) (by rfl) (pa_cons (pv 1) (pa_cons (pe_op op_add (pe_callB call_lenD (by rfl) T.len PySem.boot_len (pa_cons (pe_fld (pv 2) rfl) pa_nil)) pe_int) pa_nil))) (pa_cons (pe_lst pa_nil) pa_nil))) (pg_tup rfl (pgs_cons (pg_name (i := 3) sc_law.nd rfl (Or.inl rfl)) (pgs_cons (pg_name (i := 4) sc_law.nd rfl (Or.inr rfl)) pgs_nil))))
      (pss_cons (ps_for PassesOwn.never rfl (pi_list (pe_cal c__law_lots (hr.mono (by decide)) (by rfl) (pa_cons (pe_callB (cr_srtD rfl) (by rfl) T.sorted boot_sorted (pa_cons (pe_fld (pv 2) rfl) pa_nil)) pa_nil))) (pg_name (i := 5) sc_law.nd rfl (Or.inr rfl))
        (pss_one (ps_if (pt_cmpR op_le (pe_callB call_len_seq (by rfl) T.len PySem.boot_len (pa_cons (pv 5) pa_nil)) (pv 3) (nomark _))
          (pss_cons (ps_set (i := 6) sc_law.nd rfl (Or.inl rfl) (pe_callTy (call_dictPK (K := K) rfl rfl) (by rfl) T.dict boot_dict (pa_cons (pe_lock (pe_lc (own := [("name", 14), ("call", 15)]) (tt := tYes) rfl sc_law.nd (pi_items (pe_fld (pv 2) rfl)) (blkOk_by (own := [("name", 14), ("call", 15)]) (N := nmL) (sc := defScope s_law) (by decide +kernel)) (fun _ _ _ _ _ => (pg_tupK (K := K) rfl (pg_tup (n := 2) rfl (pgs_cons (pg_name (i := 14) sc_law.nd rfl (Or.inl rfl)) (pgs_cons (pg_name (i := 15) sc_law.nd rfl (Or.inl rfl)) pgs_nil))))) (fun _ _ _ _ _ => pts_nil) (fun _ _ _ _ _ => (pe_tup (pa_cons (pv 14) (pa_cons (pe_calI c_Call (hr.mono (by decide)) (by rfl) (pa_cons (pe_fldK (K := K) rfl (pv 15) rfl) (pa_cons (pe_lc (own := [("mast", 16)]) (g := gName 16) rfl sc_law.nd (pi_tupK5 (K := K) rfl (pe_fldK (K := K) rfl (pv 15) rfl)) (blkOk_by (own := [("mast", 16)]) (N := nmL) (sc := relS _ (defScope s_law)) (by decide +kernel)) (fun _ _ _ _ _ => pg_name (i := 16) sc_law.nd rfl (Or.inl rfl)) (fun _ _ _ _ _ => pts_one (pt_cmpR (op_notInK (K := K) rfl) (pv 16) (pv 5) (by rfl))) (fun _ _ _ _ _ => (pv 16))) pa_nil))) pa_nil)))))) pa_nil)))
          (pss_cons (ps_set (i := 7) sc_law.nd rfl (Or.inl rfl) (pe_calI c_Scene (hr.mono (by decide)) (by rfl) (pa_cons (pe_callTy (call_dictPK (K := K) rfl rfl) (by rfl) T.dict boot_dict (pa_cons (pe_lock (pe_lc (own := [("mast", 16)]) (g := gName 16) rfl sc_law.nd (pi_keys (pe_fld (pv 2) rfl)) (blkOk_by (own := [("mast", 16)]) (N := nmL) (sc := defScope s_law) (by decide +kernel)) (fun _ _ _ _ _ => pg_name (i := 16) sc_law.nd rfl (Or.inl rfl)) (fun _ _ _ _ _ => pts_one (pt_cmpR (op_notInK (K := K) rfl) (pv 16) (pv 5) (by rfl))) (fun _ _ _ _ _ => (pe_tup (pa_cons (pv 16) (pa_cons (pe_dget hu (pe_fldK (K := K) rfl (pv 2) rfl) (pv 16) (fun _ _ => rfl)) pa_nil)))))) pa_nil)) (pa_cons (pv 6) pa_nil))))
          (pss_cons (ps_if (pt_cmpR (op_neIK rfl rfl rfl rfl rfl FE T.eq T.ne T.ob T.isf T.bE (hr.mono (by decide))) (pe_cal c_without (hr.mono (by decide)) (by rfl) (pa_cons (pv 2) (pa_cons (pv 5) pa_nil))) (pv 7) (nomark _))
            (pss_one (ps_ret pe_bl))
            pss_nil)
          (pss_one (ps_expr (pe_bm PySem.F.plainAttrs_list PySem.F.slot_list_append PySem.F.type_list_append mt_append (pv 4) (pa_cons (pe_tup (pa_cons (pv 5) (pa_cons (pe_cal c__law_best (hr.mono (by decide)) (by rfl) (pa_cons (pv 7) pa_nil)) pa_nil))) pa_nil)))))))
          pss_nil)))
      (pss_cons (ps_setLc (i := 8) (own := [("lot", 5), ("best", 11)]) (tt := tYes) rfl sc_law.nd rfl rfl (sw_true rfl rfl rfl (by decide +kernel)) (pi_listK (K := K) rfl (pv 4)) (blkOk_by (own := [("lot", 5), ("best", 11)]) (N := nmL) (sc := defScope s_law) (by decide +kernel)) (fun _ _ _ _ _ => (pg_tupK (K := K) rfl (pg_tup (n := 2) rfl (pgs_cons (pg_name (i := 5) sc_law.nd rfl (Or.inl rfl)) (pgs_cons (pg_name (i := 11) sc_law.nd rfl (Or.inl rfl)) pgs_nil))))) (fun _ _ _ _ _ => pts_nil) (fun _ _ _ _ _ => (pe_op op_sub (pe_callB call_lenD (by rfl) T.len PySem.boot_len (pa_cons (pe_fldK (K := K) rfl (pv 2) rfl) pa_nil)) (pe_callB (call_len_seqK (K := K) rfl) (by rfl) T.len PySem.boot_len (pa_cons (pv 11) pa_nil)))))
      (pss_cons (ps_asg (pe_cal c_worst_falls (hr.mono (by decide)) (by rfl) (pa_cons (pv 2) (pa_cons (pv 3) pa_nil))) (pg_tup rfl (pgs_cons (pg_name (i := 9) sc_law.nd rfl (Or.inl rfl)) (pgs_cons (pg_name (i := 10) sc_law.nd rfl (Or.inl rfl)) pgs_nil))))
      (pss_cons (ps_if (PW.pt (pw_or (pt_cmpR op_ne (pv 9) (pe_callB (cr_maxK8 (K := K) rfl rfl) (by rfl) T.max boot_max (pa_cons (pv 8) pa_nil)) (nomark _)) (pw_or1 (pt_cmpR (op_ninDL (K := K) rfl hr.units) (pe_tup (pa_cons (pe_callTy (cr_lstS (K := K) rfl) (by rfl) T.list boot_list (pa_cons (pv 10) pa_nil)) (pa_cons (pv 9) pa_nil))) (pe_lc (own := [("lot", 5), ("best", 11)]) (tt := tYes) rfl sc_law.nd (pi_listK (K := K) rfl (pv 4)) (blkOk_by (own := [("lot", 5), ("best", 11)]) (N := nmL) (sc := defScope s_law) (by decide +kernel)) (fun _ _ _ _ _ => (pg_tupK (K := K) rfl (pg_tup (n := 2) rfl (pgs_cons (pg_name (i := 5) sc_law.nd rfl (Or.inl rfl)) (pgs_cons (pg_name (i := 11) sc_law.nd rfl (Or.inl rfl)) pgs_nil))))) (fun _ _ _ _ _ => pts_nil) (fun _ _ _ _ _ => (pe_tup (pa_cons (pv 5) (pa_cons (pe_op op_sub (pe_callB call_lenD (by rfl) T.len PySem.boot_len (pa_cons (pe_fldK (K := K) rfl (pv 2) rfl) pa_nil)) (pe_callB (call_len_seqK (K := K) rfl) (by rfl) T.len PySem.boot_len (pa_cons (pv 11) pa_nil))) pa_nil))))) (by rfl)))))
        (pss_one (ps_ret pe_bl))
        pss_nil)
      (pss_cons (ps_for PassesOwn.never rfl (pi_listK (K := K) rfl (pv 4)) (pg_tup rfl (pgs_cons (pg_name (i := 5) sc_law.nd rfl (Or.inr rfl)) (pgs_cons (pg_name (i := 11) sc_law.nd rfl (Or.inl rfl)) pgs_nil)))
        (pss_one (ps_if (PW.pt (pw_and (pt_cmpR op_eq (pe_op op_sub (pe_callB call_lenD (by rfl) T.len PySem.boot_len (pa_cons (pe_fld (pv 2) rfl) pa_nil)) (pe_callB call_len_seq (by rfl) T.len PySem.boot_len (pa_cons (pv 11) pa_nil))) (pv 9) (nomark _)) (pw_and1 (pt_cmpR (op_lt8 (K := K) rfl hr.units) (pe_tup (pa_cons (pe_callB call_len_seq (by rfl) T.len PySem.boot_len (pa_cons (pv 5) pa_nil)) (pa_cons (pv 5) pa_nil))) (pe_tup (pa_cons (pe_callB call_len_seq (by rfl) T.len PySem.boot_len (pa_cons (pv 10) pa_nil)) (pa_cons (pe_callTy (cr_lstS (K := K) rfl) (by rfl) T.list boot_list (pa_cons (pv 10) pa_nil)) pa_nil))) (nomark _)))))
          (pss_one (ps_ret pe_bl))
          pss_nil)))
      (pss_cons (ps_if (pt_cmpR (op_neDK (K := K) rfl hr.units) (pe_cal c_sure_calls (hr.mono (by decide)) (by rfl) (pa_cons (pv 2) (pa_cons (pv 3) pa_nil))) (pe_tupleOf (by rfl) T.tuple (pe_lock (pe_lc (own := [("name", 14)]) (g := gName 14) rfl sc_law.nd (pi_keys (pe_fld (pv 2) rfl)) (blkOk_by (own := [("name", 14)]) (N := nmL) (sc := defScope s_law) (by decide +kernel)) (fun _ _ _ _ _ => pg_name (i := 14) sc_law.nd rfl (Or.inr rfl)) (fun _ _ _ _ _ => pts_one (pt_val (pe_callB (cr_allK (K := K) rfl rfl) (by rfl) T.all boot_all (pa_cons (pe_lc (own := [("lot", 5), ("best", 11)]) (tt := tYes) rfl sc_law.nd (pi_listK (K := K) rfl (pv 4)) (blkOk_by (own := [("lot", 5), ("best", 11)]) (N := nmL) (sc := relS _ (defScope s_law)) (by decide +kernel)) (fun _ _ _ _ _ => (pg_tupK (K := K) rfl (pg_tup (n := 2) rfl (pgs_cons (pg_name (i := 5) sc_law.nd rfl (Or.inl rfl)) (pgs_cons (pg_name (i := 11) sc_law.nd rfl (Or.inl rfl)) pgs_nil))))) (fun _ _ _ _ _ => pts_nil) (fun _ _ _ _ _ => (pe_cmpR (op_inK (K := K) rfl) (pv 14) (pv 11) (by rfl)))) pa_nil)))) (fun _ _ _ _ _ => (pv 14))))) (nomark _))
        (pss_one (ps_ret pe_bl))
        pss_nil)
      (pss_cons (ps_for PassesOwn.never rfl (pi_tup (pe_tup (pa_cons (pe_un un_neg pe_int) (pa_cons (pe_op op_add (pe_callB call_lenD (by rfl) T.len PySem.boot_len (pa_cons (pe_fld (pv 2) rfl) pa_nil)) pe_int) pa_nil)))) (pg_name (i := 12) sc_law.nd rfl (Or.inl rfl))
        (pss_one (ps_tryAs (i := 13) (Wout := fun _ _ _ _ => False) rfl rfl sc_law.nd rfl rfl ⟨by rfl, by decide, Or.inl T.mgB⟩ L2.takes0
          (fun W pn xe tk _ => pss_cons (ps_expr (pe_calX c_worstX (hr.mono (by decide)) (by rfl) (fun σ => passAt tk σ) (pa_cons (pv 2) (pa_cons (pv 12) pa_nil)))) (pss_one (ps_ret pe_bl)))
          (fun a oe cls d pn hz hf => pss_one (ps_if (pt_cmpR op_ne (pe_xf T.xf T.nName hz hf (pv 13)) (pv 12) (nomark _)) (pss_one (ps_ret pe_bl)) pss_nil)))))
      (pss_one (ps_ret pe_bl))))))))))))
, ?_⟩
    have k0 := k
    refine ⟨_, rfl, (by show 2 ≤ sizeLine; decide), fun d hd => ?_⟩
    have D0 := Dr.mk' (j := 0) hS hlen hd
    have T0 := TabsN.ext hT (H' := upd H d (.lst [.ref a, .int 0])) (fun b o z => (Ex.new hd) b o z)
    generalize upd H d (.lst [.ref a, .int 0]) = H0 at D0 T0 ⊢
    clear hS hd hT
    refine ⟨_, rfl, [d], d, a, 4, 5, rfl, by decide, by decide, by decide, by decide, D0, fun sc H1 chs cls _ hSc1 hX1 ok hcn l7 l4 sm D1 k1 => ?_⟩
    have T1 := TabsN.kpD T0 D0 k1
    obtain ⟨dx, ca, cb, e1, e2, e3⟩ := hX1.here
    have el : ((kvT vI chs).length : Int) = (chs.length : Int) := by unfold kvT; rw [List.length_map]
    refine ⟨_, rfl, _, rfl, sc, CS, dx, _, _, rfl, e1, T.clS, T.nCh, rfl, ca, _, rfl, e2, _, _, rfl, rfl, ?_⟩
    dsimp only
    refine ⟨[d], d, a, _, rfl, D1, by rw [el]; omega, fun mst H2 m0 m1 D2 k2 => ?_⟩
    refine ⟨(by show 0 ≤ sizeLine; decide), fun rows hrows => ⟨(by show 2 ≤ sizeLine; decide), fun Tu hTu => ⟨Tu, [.int mst, .ref rows], rfl, SqT.of upd_same, rfl, _, _, rfl, _, _, rfl, rfl, ?_⟩⟩⟩
    have n12 : NL H1 H2 := by
      obtain ⟨⟨j, hj⟩, _⟩ := D1
      exact NL.kp k2 hj
    have T2 := TabsN.kpD T1 D1 k2
    have x23 : Ex H2 (upd (upd H2 rows (.lst [])) Tu (.tup [.int mst, .ref rows])) := Ex.trans (Ex.new hrows) (Ex.new hTu)
    have hrw3 : upd (upd H2 rows (.lst [])) Tu (.tup [.int mst, .ref rows]) rows = some (.lst []) := by
      have n : rows ≠ Tu := fun e => (by rw [← e, upd_same] at hTu; cases hTu)
      rw [upd_ne n]; exact upd_same
    generalize upd (upd H2 rows (.lst [])) Tu (.tup [.int mst, .ref rows]) = H3 at x23 hrw3 ⊢
    have hS3 := NL.scene hSc1 (n12.trans (NL.ex x23))
    have hX3 := NL.scn hX1 (n12.trans (NL.ex x23))
    have T3 := TabsN.ext T2 x23
    obtain ⟨dx3, ca3, cb3, g1, g2, g3⟩ := hX3.here
    clear n12 k2 k1 hSc1 hX1 e1 e2 e3 D0 D1 D2 T0 T1 T2 x23
    have kl : (keysT chs).length ≤ 4 := by unfold keysT; rw [List.length_map]; exact l4
    -- the lots
    refine ⟨_, rfl, sc, CS, dx3, _, _, rfl, g1, T.clS, T.nCh, rfl, ca3, _, keysT chs, rfl, .inl g2, keys_kvT, by omega, fun ys p0 pm srt hp0 => ?_⟩
    obtain rfl : ys = keysT chs := srt_eq pm srt hX3.sch
    have x34 : Ex H3 (upd H3 p0 (.lst ((keysT chs).map V.str))) := Ex.new hp0
    have hp04 : upd H3 p0 (.lst ((keysT chs).map V.str)) p0 = some (.lst ((keysT chs).map V.str)) := upd_same
    generalize upd H3 p0 (.lst ((keysT chs).map V.str)) = H4 at x34 hp04 ⊢
    refine ⟨p0, keysT chs, rfl, hp04, by omega, fun lp as H5 x45 hlp hL hF => ⟨lp, rfl, ⟨_, SqL.of hlp⟩, ?_⟩⟩
    have x35 := Ex.trans x34 x45
    have hS5 := hS3.same x35
    have hX5 := hX3.same x35
    have T5 := TabsN.ext T3 x35
    have hrw5 := x35 _ _ hrw3
    have ndk := ok.nd
    -- a lot by its place
    have lot_at : ∀ {j : Nat} {la : Addr}, as[j]? = some la → ∃ L, (lotsOf (keysT chs))[j]? = some L ∧ H5 la = some (.lst (L.map V.str)) ∧ L.Sublist (keysT chs) ∧ la ≠ rows := fun {j la} h => by
      have hj : j < (lotsOf (keysT chs)).length := by rw [← hL.1]; exact (List.getElem?_eq_some_iff.mp h).1
      have hl := List.getElem?_eq_getElem hj
      refine ⟨_, hl, hL.2 j la _ h hl, lotsOf_sub (List.getElem_mem hj), fun e => ?_⟩
      have := hF la (List.mem_of_getElem? h)
      rw [e, x34 _ _ hrw3] at this; cases this
    have nlp : lp ≠ rows := fun e => by
      rw [e, hrw5] at hlp
      have h : as.map V.ref = [] := by injection hlp with h; injection h with h; exact h.symm
      have h2 := hL.1
      rw [List.map_eq_nil_iff.mp h, lotsOf_len] at h2
      have := Nat.one_le_two_pow (n := (keysT chs).length)
      simp at h2; omega
    refine for_list (K := K) (xs := as.map V.ref) (fun j σ' H' => ∃ (rs : List Rw) (v5 v6 v7 v14 v15 v16 : Option V), σ' = [some (.ref a), some (.ref d), some (.ref sc), some (.int mst), some (.ref rows), v5, v6, v7, none, none, none, none, none, none, none, none, none] ∧ XR rows H5 H' ∧ TabsN TT H' ∧
        H' rows = some (.lst (rs.map fun x => V.ref x.r)) ∧ (∀ x ∈ rs, RwOk H' rows chs cls x) ∧ rs.map (·.L) = ((lotsOf (keysT chs)).take j).filter fun L => decide ((L.length : Int) ≤ mst))
      ⟨[], _, _, _, none, none, none, rfl, XR.ex (Ex.refl _), T5, hrw5, fun x hx => (nomatch hx), rfl⟩ (fun j σ' H' _ ⟨_, _, _, _, _, _, _, _, x, _⟩ => SqL.of (x _ _ hlp nlp (fun _ => by simp))) ?_ ?_
    · rintro j x σ' H6 hx ⟨rs, v5, v6, v7, v14, v15, v16, rfl, x6, T6, hrw6, hR, eR⟩
      rw [List.getElem?_map] at hx
      obtain ⟨la, hla, rfl⟩ := Option.map_eq_some_iff.mp hx
      obtain ⟨L, hjL, hla5, subL, nla⟩ := lot_at hla
      have hla6 := x6 _ _ hla5 nla (fun _ => by simp)
      dsimp only [gName]
      refine s_when (b := decide ((L.length : Int) ≤ mst)) (et_test (ev_is (ev_op (ev_len8 (ev_var rfl) (SqL.of hla6)) (ev_var rfl) rv_I0) (by rw [List.length_map]))) (fun e H7 x7 => ?_) fun e H7 x7 => ?_
      · have hS7 := NL.scene hS5 ((x6.nl hrw5).trans (NL.ex x7))
        have hX7 := NL.scn hX5 ((x6.nl hrw5).trans (NL.ex x7))
        have T7 := TabsN.ext T6 x7
        have hrw7 := x7 _ _ hrw6
        have hla7 := x7 _ _ hla6
        obtain ⟨dxs, ca, cb, e1, e2, e3⟩ := hX7.here
        have nca : ca ≠ rows := fun e => by rw [e, hrw7] at e2; cases e2
        have ncb : cb ≠ rows := fun e => by rw [e, hrw7] at e3; cases e3
        -- calls
        refine q_asgJ8 (fun v H' => ∃ (g : Addr) (cs : Cls'), v = .ref g ∧ H' g = some (.dK (kvT vO cs)) ∧ keysT cs = keysT cls ∧ CallsH K CC H' cs ∧ LessC L cls cs ∧ Ex H7 H') (fun v H8 hv => ?_) fun q1 => ?_
        rotate_left
        · refine (er_lock (R := CTup K CC L) (ys := cls) (fun _ _ _ _ _ _ r h k => r.un h k) e3 fun od => lp_items (fun _ _ _ _ _ _ r h k => r.kp h k) (fun _ _ _ _ r x => r.ex x) (ev_fld (ev_var rfl) (by rw [upd_ne fun z => by rw [z, e3] at e1; cases e1]; exact e1) T.clS T.nCa rfl) upd_same (by omega) fun i y hy H' x' => ?_) H7 (Ex.refl _) _ fun D us H8 hD x8 hD8 pr => ?_
          · obtain ⟨dxc, hh, c1, c2⟩ := (hS7.calls y (List.mem_of_getElem? hy)).here
            have okz := ok.cl y (List.mem_of_getElem? hy)
            have old : ∀ {u o}, H7 u = some o → (∀ kvs, o ≠ .dK kvs) → H' u = some o := fun {u o} z n => x' _ _ (by rw [upd_ne fun z' => by rw [z', e3] at z; exact n _ (Option.some.inj z).symm]; exact z)
            intro H8 e8 Q' q'
            have c1' := e8 _ _ (old c1 (fun _ => by simp))
            have c2' := e8 _ _ (old c2 (fun _ => by simp))
            have hla8 := e8 _ _ (old hla7 (fun _ => by simp))
            refine ⟨_, rfl, _, rfl, y.2.1, CC, dxc, _, _, rfl, c1', T.clC, T.nW, rfl, ?_⟩
            dsimp only [tCons]
            refine EvL.go (xs := (y.2.2.2.filter fun m => !decide (m ∈ L)).map V.str) ?_ fun l H9 hl x9 hl9 => ?_
            · exact el_fT (c := V.str) (fun m => !decide (m ∈ L)) V.str (ev_fld (ev_var rfl) c1' T.clC T.nH rfl) (SqT.of c2') (by omega) (fun i y hy H' x' => et_test (ev_niSL (ev_var rfl) (ev_var rfl) (SqL.of (x' _ _ hla8)))) fun i y hy _ H' x' => ev_var rfl
            intro p dxp hp hdx _
            have s1 : Same H9 (upd (upd H9 dxp (.own p)) p (.ins CC dxp [])) := fun b o z => by rw [upd_ne (ne_of_none z hp), upd_ne (ne_of_none z hdx)]; exact z
            refine ⟨p, dxp, l, y.2.2.1, y.2.2.2.filter fun m => !decide (m ∈ L), rfl, upd_same, s1 _ _ hl9, Nat.lt_of_le_of_lt (List.length_filter_le _ _) okz.2.2.2.2.1, fun ys H10 hperm hsrt hcall k10 => ⟨rfl, (by show 2 ≤ sizeLine; decide), fun t ht => ?_⟩⟩
            have x10 : Ex H9 H10 := fun u o z => k10 u o (s1 _ _ z) fun e => by rw [List.mem_singleton.mp e, hp] at z; cases z
            have x11 := Ex.new (o := .tup [.str y.1, .ref p]) ht
            exact q' _ _ (x9.trans (x10.trans x11)) ⟨t, p, ys, rfl, upd_same, hcall.same x11, hperm, hsrt⟩
          · obtain ⟨ps, cs, rfl, pp, ek, hCs, hle⟩ := ctups (K := K) pr
            refine ⟨D, ps, _, rfl, SqL.of hD8, pp, fun g hg => ?_⟩
            have ndc : (keysT cs).Nodup := by rw [ek]; exact ok.ndc
            rw [merge_T ndc]
            have x9 := Ex.new (o := .dK (kvT vO cs)) hg
            exact q1 _ _ ⟨g, cs, rfl, upd_same, ek, hCs.same x9, hle, x8.trans x9⟩
        obtain ⟨g, cs, rfl, hg8, ek, hCs, hle, x8⟩ := hv
        have okf : OkC (chs.filter fun x => !decide (x.1 ∈ L)) cs := by
          refine ⟨?_, by rw [ek]; exact ok.ndc, Nat.lt_of_le_of_lt (List.length_filter_le _ _) ok.len, ?_, fun x hx => ok.ch x (List.mem_filter.mp hx).1, fun x hx => ?_⟩
          · unfold keysT
            exact ok.nd.sublist ((List.filter_sublist).map _)
          · have := congrArg List.length ek
            unfold keysT at this
            rw [List.length_map, List.length_map] at this
            rw [this]; exact ok.lenc
          · obtain ⟨z, hz, e1, e2, e3, _⟩ := hle x hx
            obtain ⟨g0, g1, g2, g3, g4, g5⟩ := ok.cl z hz
            refine ⟨by rw [← e1]; exact g0, by rw [e2]; exact g1, by rw [e2]; exact g2, e3.nodup_iff.mpr (g3.filter _), by rw [e3.length_eq]; exact Nat.lt_of_le_of_lt (List.length_filter_le _ _) g4, fun m hm => ?_⟩
            obtain ⟨m1, m2⟩ := List.mem_filter.mp (e3.mem_iff.mp hm)
            obtain ⟨y, hy, rfl⟩ := List.mem_map.mp (g5 m m1)
            exact List.mem_map.mpr ⟨y, List.mem_filter.mpr ⟨hy, m2⟩, rfl⟩
        have e18 := x8 _ _ e1
        have e28 := x8 _ _ e2
        have hla8 := x8 _ _ hla7
        -- small
        refine q_asgJ8 (fun v H' => ∃ (x : Addr) (chs' : Chs) (cls' : Cls'), v = .ref x ∧ SceneH K CS CC H' x chs' cls' ∧ ScnX CS H' x chs' cls' ∧ chs'.Perm (chs.filter fun x => !decide (x.1 ∈ L)) ∧ cls'.Perm cs ∧ Ex H8 H') (fun v H9 hv => ?_) fun q1 => ?_
        rotate_left
        · refine EvD.go1 (te := tCB (rDictP K) (tCons (tLockE _) tNil)) (ed_pairs (K := K) (α := PySem.Str) (f := fun y => [.str y, .int ((getT chs y).getD 0)]) (g := fun y => (Sum.inr y, .int ((getT chs y).getD 0))) (ys := (keysT chs).filter fun m => !decide (m ∈ L)) (kvs := kvT vI (chs.filter fun x => !decide (x.1 ∈ L))) (fun _ => rfl) (us_lock e28 fun od => ?_) ?_) fun gc H9 hgc x9 hgc9 => ?_
          · have hsc' : upd H8 ca (.frz od (.dK (kvT vI chs))) sc = some (.ins CS dxs [("channels", .ref ca), ("calls", .ref cb)]) := by
              rw [upd_ne fun z => by rw [z, e28] at e18; cases e18]; exact e18
            have hla' : upd H8 ca (.frz od (.dK (kvT vI chs))) la = some (.lst (L.map V.str)) := by
              rw [upd_ne fun z => by rw [z, e28] at hla8; cases hla8]; exact hla8
            exact fun H1 e Q q => el_uI (ys := keysT chs) (c := V.str) (j := 16) (fun m => !decide (m ∈ L)) (fun y => [.str y, .int ((getT chs y).getD 0)]) (ei_K (o := od) (g := vI) (l := chs) (ev_fld (ev_var rfl) hsc' T.clS T.nCh rfl) upd_same) (by omega)
              (fun i y hy H' x' => et_test (ev_niSL (ev_var rfl) (ev_var rfl) (SqL.of (x' _ _ hla'))))
              (fun i y hy _ H' x' => by
                obtain ⟨ny, eny⟩ := getT_key (List.mem_of_getElem? hy)
                exact eu_tup (ea_cons (ev_var rfl) (ea_cons (ev_is (ev_dget (f := vI) (ev_fld (ev_var rfl) (x' _ _ hsc') T.clS T.nCh rfl) (ev_var rfl) (.inr ⟨od, x' _ _ upd_same⟩) eny) (by rw [eny]; rfl)) ea_nil)) (by show 2 ≤ 100000; decide)) (by intro _; rfl) H1 e Q q
          · rw [show ((keysT chs).filter fun m => !decide (m ∈ L)).map (fun y => ((Sum.inr y : L2.Key), V.int ((getT chs y).getD 0))) = mkD (fun y => vI ((getT chs y).getD 0)) ((keysT chs).filter fun m => !decide (m ∈ L)) from rfl, flt_keys ok.nd]
            exact merge_T okf.nd
          · refine ⟨_, rfl, ?_⟩
            intro x dx hx hdx n
            exact scene_go8 (chA := gc) (clA := g) (fun z => by rw [z, hg8] at hgc; cases hgc) hgc9 (x9 _ _ hg8) okf (hCs.same x9) hx hdx (fun chs' cls' H10 p1 p2 hS hX x10 => q1 _ _ ⟨x, chs', cls', rfl, hS, hX, p1, p2, x9.trans x10⟩)
        obtain ⟨x, chs', cls', rfl, hSx, hXx, pm1, pm2, x9⟩ := hv
        have okx : OkC chs' cls' := okf.perm pm1 pm2
        have x79 := x8.trans x9
        have hS9 := hS7.same x79
        have hX9 := hX7.same x79
        -- without is the same
        refine q_when (b := false) (et_test fun H10 x10 Q' q' => ?_) (fun z => nomatch z) fun _ H10 x10 => ?_
        · dsimp only [tOp, tCall, tCons]
          have x710 := x79.trans x10
          refine ⟨_, rfl, _, rfl, sc, la, L, chs, cls, rfl, hS7.same x710, ⟨dxs, ca, cb, x710 _ _ e1, .inl (x710 _ _ e2), x710 _ _ e3⟩, ok, .inr (x710 _ _ hla7), fun sc2 chs2 cls2 H11 _ hS2 hX2 ok2 p1 p2 less x11 => ?_⟩
          have hXx11 := hXx.same (x10.trans x11)
          have hSx11 := hSx.same (x10.trans x11)
          obtain rfl : chs2 = chs' := kv_eq8 (p1.trans pm1.symm) okx.nd hX2.sch hXx.sch
          have ekk : keysT cls' = keysT cls2 := srt_eq ((pm2.map Prod.fst).trans (by rw [show cs.map Prod.fst = keysT cls from ek]; exact p2.symm)) hXx.scl hX2.scl
          obtain ⟨dx2, a2, b2, f1, f2, f3⟩ := hX2.here
          obtain ⟨dx3, a3, b3, f4, f5, f6⟩ := hXx11.here
          refine ⟨_, rfl, sc2, x, dx2, dx3, _, _, rfl, rfl, f1, f4, sc2, x, chs2, cls2, cls', rfl, hX2, hXx11, hS2.calls, hSx11.calls, ok2.nd, ok2.ndc, ?_, fun y hy m hm => ?_, fun H12 x12 => ⟨true, rfl, q' H12 (x11.trans x12)⟩⟩
          · exact v8_eq ok.ndc (hle.perm8 pm2) less ekk
          · obtain ⟨_, _, _, _, _, g5⟩ := ok2.cl y hy
            obtain ⟨z, hz, rfl⟩ := List.mem_map.mp (g5 m hm)
            exact okN_lay8 (ok2.ch z hz).1
        -- the row
        have x710 := x79.trans x10
        have hrw10 := x710 _ _ hrw7
        have lx4 : chs'.length ≤ 4 := by rw [pm1.length_eq]; exact Nat.le_trans (List.length_filter_le _ _) l4
        have lcs : cs.length = cls.length := by
          have := congrArg List.length ek
          unfold keysT at this
          rwa [List.length_map, List.length_map] at this
        have lx7 : cls'.length ≤ 7 := by rw [pm2.length_eq, lcs]; exact l7
        have lrs : rs.length ≤ 16 := by
          have h1 := congrArg List.length eR
          rw [List.length_map] at h1
          have h2 := List.length_filter_le (fun L : List PySem.Str => decide ((L.length : Int) ≤ mst)) ((lotsOf (keysT chs)).take j)
          have h3 : ((lotsOf (keysT chs)).take j).length ≤ (lotsOf (keysT chs)).length := by rw [List.length_take]; omega
          rw [lotsOf_len] at h3
          have h4 : 2 ^ (keysT chs).length ≤ 2 ^ 4 := Nat.pow_le_pow_right (by decide) kl
          omega
        refine ⟨_, rfl, Or.inl ⟨rfl, _, SqL.of hrw10⟩, _, rfl, _, rfl, x, chs', cls', rfl, hSx.same x10, okx, lx4, lx7, TabsN.ext T7 x710, fun lb best H11 x11 _ T11 hlb hlb11 hk _ => ⟨(by show 2 ≤ sizeLine; decide), fun r hr => ⟨rows, _, _, rfl, rfl, Ex.new hr _ _ (x11 _ _ hrw10 fun _ => by simp), ?_, ?_⟩⟩⟩
        · rw [List.length_map, sizeLine_eq]; omega
        have hrw11 := x11 _ _ hrw10 fun _ => (by simp)
        have nlb : lb ≠ rows := fun e => by rw [e, hrw10] at hlb; cases hlb
        have nr : r ≠ rows := fun e => by rw [e, hrw11] at hr; cases hr
        have x12 := Ex.new (o := .tup [.ref la, .ref lb]) hr
        have xA : XR rows H6 (upd H11 r (.tup [.ref la, .ref lb])) := (XR.ex (x7.trans x710)).trans ((XR.extN x11).trans (XR.ex x12))
        have hla12 := xA _ _ hla6 nla (fun _ => by simp)
        refine ⟨rs ++ [⟨r, la, lb, L, best⟩], _, _, _, none, none, none, rfl, x6.trans (xA.trans XR.upd), ?_, by rw [upd_same, List.map_append]; rfl, fun y hy => ?_, ?_⟩
        · exact TabsN.lst8 (TabsN.ext T11 x12) (x12 _ _ hrw11)
        · rcases List.mem_append.mp hy with z | z
          · exact (hR y z).xr hrw6 (xA.trans XR.upd)
          · rw [List.mem_singleton.mp z]
            exact ⟨by rw [upd_ne nr]; exact upd_same, by rw [upd_ne nla]; exact hla12, by rw [upd_ne nlb]; exact x12 _ _ hlb11, nla, nlb, chs', cls', ⟨okx, pm1, (pm2.map Prod.fst).trans (by rw [show cs.map Prod.fst = keysT cls from ek]), fun y hy => by
              obtain ⟨z, hz, e1, e2, e3, _⟩ := hle y (pm2.mem_iff.mp hy)
              exact ⟨z, hz, e1, e2, fun m => by rw [e3.mem_iff, List.mem_filter]; simp⟩⟩, hk⟩
        · rw [List.take_add_one, hjL, List.filter_append, List.map_append, eR]
          have e' := of_decide_eq_true e
          simp [e']
      · refine ⟨rs, _, _, _, none, none, none, rfl, x6.trans (XR.ex x7), TabsN.ext T6 x7, x7 _ _ hrw6, fun x hx => (hR x hx).xr hrw6 (XR.ex x7), ?_⟩
        rw [List.take_add_one, hjL, List.filter_append, eR]
        simp [of_decide_eq_false e]
    · rintro σ' H6 ⟨rs, v5, v6, v7, v14, v15, v16, rfl, x6, T6, hrw6, hR, eR⟩
      rw [List.length_map, hL.1, List.take_length] at eR
      have hS6 := NL.scene hS5 (x6.nl hrw5)
      have hX6 := NL.scn hX5 (x6.nl hrw5)
      clear x6 lot_at hL hF hlp x35 x45 x34 hp04 hS5 hX5 T5 hrw5 hS3 hX3 g1 g2 g3 T3 hrw3
      have memL : ∀ L, (∃ x ∈ rs, x.L = L) ↔ L ∈ lotsUp (keysT chs) mst.toNat := fun L => by
        have h1 : (∃ x ∈ rs, x.L = L) ↔ L ∈ rs.map (·.L) := List.mem_map.symm
        rw [h1, eR, List.mem_filter, mem_lots ndk, mem_lup, decide_eq_true_eq]
        exact and_congr_right fun _ => by omega
      have lostR : ∀ x ∈ rs, LostR x.L chs cls ((cls.length : Int) - (x.best.length : Int)) := fun x hx => ⟨x.best, (hR x hx).kp, rfl⟩
      have lrs : rs.length ≤ 16 := by
        have h1 := congrArg List.length eR
        rw [List.length_map] at h1
        have h2 := List.length_filter_le (fun L : List PySem.Str => decide ((L.length : Int) ≤ mst)) (lotsOf (keysT chs))
        rw [lotsOf_len] at h2
        have h4 : 2 ^ (keysT chs).length ≤ 2 ^ 4 := Nat.pow_le_pow_right (by decide) kl
        omega
      obtain ⟨dxs, ca, cb, e1, e2, e3⟩ := hX6.here
      have lkc : (kvT vO cls).length = cls.length := by unfold kvT; rw [List.length_map]
      have lkh : (kvT vI chs).length = chs.length := by unfold kvT; rw [List.length_map]
      -- what is given up, lot by lot
      have ev_n : ∀ {σ : L2.St} {H' : Hp} {x : Rw} {i j : Nat}, Ex H6 H' → x ∈ rs → σ[i]? = some (some (.ref sc)) → σ[j]? = some (some (.ref x.lb)) → Ev (tOp (rI0 fun a b => .int (a - b)) (tCB (fun xs H Q => ∃ a kvs, xs = [V.ref a] ∧ H a = some (.dK kvs) ∧ Q (.int kvs.length) H) (tCons (tFld K (tVar i) "calls") tNil)) (tCB (rLenS K) (tCons (tVar j) tNil))) σ H' (.int ((cls.length : Int) - (x.best.length : Int))) := fun {σ H' x i j} x' hx h1 h2 =>
        ev_is (ev_op (ev_lenD8 (ev_fld (ev_var h1) (x' _ _ e1) T.clS T.nCa rfl) (x' _ _ e3) lkc) (ev_len8 (ev_var h2) (SqL.of (x' _ _ (hR x hx).hb))) rv_I0) (by rw [List.length_map])
      refine q_asgL (el_pr (fun x : Rw => V.int ((cls.length : Int) - (x.best.length : Int))) (c := (·.r)) (fun x => .ref x.la) (fun x => .ref x.lb) (ev_var rfl) hrw6 (fun y hy => (hR y hy).hr) (by omega) fun i y hy H' x' => ev_n x' (List.mem_of_getElem? hy) rfl rfl) fun gv H7 hgv x7 hgv7 => ?_
      -- worst_falls
      refine ⟨_, rfl, _, rfl, sc, mst, chs, cls, rfl, hS6.same x7, hX6.same x7, ok, by omega, m0, by omega, fun t tm k ms H8 x8 ht htm hW => ⟨t, [.int k, .ref tm], rfl, SqT.of ht, rfl, _, _, rfl, _, _, rfl, rfl, ?_⟩⟩
      have x68 := x7.trans x8
      have hgv8 := x8 _ _ hgv7
      have chsN : ∀ x ∈ keysT chs, PyData.strOk x = true := fun x hx => by
        obtain ⟨z, hz, rfl⟩ := List.mem_map.mp hx
        exact okN_lay8 (ok.ch z hz).1
      have subU : ∀ L ∈ lotsUp (keysT chs) mst.toNat, ∀ x ∈ L, PyData.strOk x = true := fun L hL x hx => chsN x ((mem_lup.mp hL).1.subset hx)
      obtain ⟨xw, hxw, exw⟩ := (memL ms).mpr hW.mem
      have kw : (cls.length : Int) - (xw.best.length : Int) = k := by
        have h1 := lostR xw hxw
        rw [exw] at h1
        exact h1.uniq ok.ndc hW.lost
      dsimp only
      refine q_when (b := false) (et_is (et_or (a := false) (b := false) ?_ fun _ => ?_) rfl) (fun z => nomatch z) fun _ H9 x9 => ?_
      · refine et_test (ev_is (ev_op (y := .int k) (ev_var rfl) (fun H' e Q' q' => ⟨_, rfl, gv, rs.map (fun x => (cls.length : Int) - (x.best.length : Int)), rfl, SqL.of (by rw [List.map_map]; exact e _ _ hgv8), by rw [List.length_map]; exact List.length_pos_of_mem hxw, fun m hm hle => ?_⟩) (rv_ne rfl)) (by simp))
        have em : m = k := by
          obtain ⟨x, hx, rfl⟩ := List.mem_map.mp hm
          have h1 := hW.le ok.ndc ((memL x.L).mp ⟨x, hx, rfl⟩) (lostR x hx)
          have h2 := hle _ (List.mem_map.mpr ⟨xw, hxw, rfl⟩)
          omega
        rw [em]
        exact q' H' (Ex.refl _)
      · refine et_test fun H' e Q' q' => ?_
        refine ⟨_, rfl, tm, ms.map V.str, rfl, .inr (SqT.of (e _ _ htm)), fun l hl => ⟨_, rfl, (by show 2 ≤ sizeLine; decide), fun p hp => ?_⟩⟩
        have y1 := Ex.new (o := .lst (ms.map V.str)) hl
        have y2 := Ex.new (o := .tup [.ref l, .int k]) hp
        have hl2 := y2 l _ upd_same
        have hp2 : upd (upd H' l (.lst (ms.map V.str))) p (.tup [.ref l, .int k]) p = some (.tup [.ref l, .int k]) := upd_same
        have y12 := y1.trans y2
        generalize upd (upd H' l (.lst (ms.map V.str))) p (.tup [.ref l, .int k]) = H9 at y12 hl2 hp2 ⊢
        have x69 := x68.trans (e.trans y12)
        refine us_pr (K := K) (fun x : Rw => [.ref x.la, .int ((cls.length : Int) - (x.best.length : Int))]) (c := (·.r)) (fun x => .ref x.la) (fun x => .ref x.lb) (ev_var rfl) (x69 _ _ hrw6) (fun y hy => x69 _ _ (hR y hy).hr) (by omega) (fun i y hy H'' x'' => eu_tup (ea_cons (ev_var rfl) (ea_cons (ev_n (x69.trans x'') (List.mem_of_getElem? hy) rfl rfl) ea_nil)) (by show 2 ≤ 100000; decide)) (by intro _ _; rfl) H9 (Ex.refl _) _ fun D us H10 hD x10 hD10 pr => ?_
        have x610 := x69.trans x10
        refine ⟨qD8 ms k, rs.map (fun x => qD8 x.L ((cls.length : Int) - (x.best.length : Int))), true, dp_qD8 (SqT.of (x10 _ _ hp2)) (SqL.of (x10 _ _ hl2)), .lst (SqL.of hD10) (dp_rows8 (fun x hx => x610 _ _ (hR x hx).ha) pr), sd_qD8 (subU ms hW.mem), ?_, by rw [dep_qD8]; decide, ⟨fun _ => List.mem_map.mpr ⟨xw, hxw, by rw [exw, kw]⟩, fun _ => rfl⟩, q' H10 (y12.trans x10)⟩
        have all : ∀ ys : List Rw, (∀ x ∈ ys, x ∈ rs) → sdA (ys.map (fun x => qD8 x.L ((cls.length : Int) - (x.best.length : Int)))) = true := fun ys => by
          induction ys with
          | nil => intro _; simp [sdA]
          | cons y ys ih =>
            intro h
            rw [List.map_cons, sdA, ih fun x hx => h x (List.mem_cons_of_mem _ hx), sd_qD8 (subU _ ((memL y.L).mp ⟨y, h y List.mem_cons_self, rfl⟩))]
            rfl
        exact all rs fun x hx => hx
      have x69 := x68.trans x9
      refine q_forL (K := K) (ev_var rfl) (SqL.of (x69 _ _ hrw6)) (fun i σ' H' => (∃ v5 v11 : Option V, σ' = [some (.ref a), some (.ref d), some (.ref sc), some (.int mst), some (.ref rows), v5, v6, v7, some (.ref gv), some (.int k), some (.ref tm), v11, none, none, none, none, none]) ∧ Ex H9 H') (fun H10 x10 => ⟨⟨_, _, rfl⟩, x10⟩) (fun i σ' H' _ ⟨_, x⟩ => SqL.of (x _ _ (x69 _ _ hrw6))) ?_ ?_
      · rintro i x σ' H10 hx ⟨⟨v5', v11', rfl⟩, x10⟩
        rw [List.getElem?_map] at hx
        obtain ⟨y, hy, rfl⟩ := Option.map_eq_some_iff.mp hx
        have hym := List.mem_of_getElem? hy
        have x610 := x69.trans x10
        refine ⟨y.r, _, rfl, SqT.of (x610 _ _ (hR y hym).hr), rfl, _, _, rfl, _, _, rfl, rfl, ?_⟩
        refine s_when (b := false) ?_ (fun z => nomatch z) fun _ H11 x11 => ⟨⟨_, _, rfl⟩, x10.trans x11⟩
        refine et_is (et_and (a := decide ((cls.length : Int) - (y.best.length : Int) = k)) (b := false) (et_test (ev_eqI (ev_n x610 hym rfl rfl) (ev_var rfl))) fun ek => ?_) (by simp)
        have lo := lostR y hym
        rw [of_decide_eq_true ek] at lo
        have lf := hW.least ndk hX6.sch ok.ndc ((memL y.L).mp ⟨y, hym, rfl⟩) lo
        refine et_test fun H' e Q' q' => ?_
        have x6' := x610.trans e
        refine eu_tup (ea_cons (ev_len8 (ev_var rfl) (SqL.of (x6' _ _ (hR y hym).ha))) (ea_cons (ev_var rfl) ea_nil)) (by show 2 ≤ 100000; decide) H' (Ex.refl _) _ fun p H11 hp x11 hp11 => ?_
        have htm11 := x11 _ _ (e _ _ (x10 _ _ (x9 _ _ htm)))
        refine ⟨_, rfl, tm, _, rfl, Or.inr (SqT.of htm11), _, rfl, tm, ms.map V.str, rfl, .inr (SqT.of htm11), fun l hl => ⟨(by show 2 ≤ sizeLine; decide), fun p2 hp2 => ?_⟩⟩
        have y1 := Ex.new (o := .lst (ms.map V.str)) hl
        have y2 := Ex.new (o := .tup [.int ((ms.map V.str).length : Int), .ref l]) hp2
        refine ⟨_, _, y.L, ms, dp_pD8 (SqT.of (y2 _ _ (y1 _ _ hp11))) (SqL.of (y2 _ _ (y1 _ _ (x11 _ _ (x6' _ _ (hR y hym).ha))))), dp_pD8 (SqT.of upd_same) (SqL.of (y2 _ _ upd_same)), ?_⟩
        have lf' : lt8 ((y.L.map V.str).length : Int) y.L ((ms.map V.str).length : Int) ms = false := by rw [List.length_map, List.length_map]; exact lf
        rw [lf']
        exact q' _ (x11.trans (y1.trans y2))
      rintro σ' H10 ⟨⟨v5', v11', rfl⟩, x10⟩
      have x610 := x69.trans x10
      -- sure_calls
      refine q_when (b := false) (et_test fun H' e Q' q' => ?_) (fun z => nomatch z) fun _ H11 x11 => ?_
      · have x6' := x610.trans e
        refine ⟨_, rfl, _, rfl, sc, mst, chs, cls, rfl, hS6.same x6', hX6.same x6', ok, by omega, m0, by omega, fun t2 xs H11 x11 ht2 hSu => ?_⟩
        have x611 := x6'.trans x11
        have hcb := x611 _ _ e3
        obtain ⟨pr, exs, hpr⟩ := hSu
        refine eu_tupN8 (el_lock hcb fun od => el_fK (g := vO) (l := cls) (fun x => rs.all fun y => decide (x ∈ y.best)) V.str (ev_fld (ev_var rfl) (by rw [upd_ne fun z => by rw [z, e3] at e1; cases e1]; exact x611 _ _ e1) T.clS T.nCa rfl) upd_same (by omega) (fun i x hx H' x' => ?_) fun i x hx _ H' x' => ev_var rfl) H11 (Ex.refl _) _ fun p H12 hp x12 hp12 => ?_
        · have old : ∀ {u o}, H6 u = some o → (∀ kvs, o ≠ .dK kvs) → H' u = some o := fun {u o} z n => x' _ _ (by rw [upd_ne fun z' => by rw [z', e3] at z; exact n _ (Option.some.inj z).symm]; exact x611 _ _ z)
          exact et_B (ev_allM (K := K) (el_pr (K := K) (fun y : Rw => V.bl (decide (x ∈ y.best))) (c := (·.r)) (fun y => .ref y.la) (fun y => .ref y.lb) (ev_var rfl) (old hrw6 (fun _ => by simp)) (fun y hy => old (hR y hy).hr (fun _ => by simp)) (by omega) fun i y hy H'' x'' => ev_inSL (ev_var rfl) (ev_var rfl) (SqL.of (x'' _ _ (old (hR y (List.mem_of_getElem? hy)).hb (fun _ => by simp))))))
        · have exf : xs = (keysT cls).filter (fun x => rs.all fun y => decide (x ∈ y.best)) := by
            rw [exs]
            refine List.filter_congr fun x hx => ?_
            have h1 := hpr x hx
            have h2 : (rs.all fun y => decide (x ∈ y.best)) = true ↔ ∀ y ∈ rs, x ∈ y.best := by simp
            have h3 : (∀ y ∈ rs, x ∈ y.best) ↔ ∀ ms ∈ lotsUp (keysT chs) mst.toNat, ∀ lot, KpL ms chs cls lot → x ∈ lot :=
              ⟨fun h ms hms lot hk => by
                obtain ⟨y, hy, rfl⟩ := (memL ms).mpr hms
                exact (hR y hy).kp.same ok.ndc hk (h y hy), fun h y hy => h _ ((memL y.L).mp ⟨y, hy, rfl⟩) _ (hR y hy).kp⟩
            have h4 := h1.trans (h3.symm.trans h2.symm)
            cases e1 : pr x <;> cases e2 : (rs.all fun y => decide (x ∈ y.best)) <;> simp_all
          have layc : ∀ x ∈ (keysT cls).filter (fun x => rs.all fun y => decide (x ∈ y.best)), PyData.strOk x = true := fun x hx => by
            obtain ⟨z, hz, rfl⟩ := List.mem_map.mp (List.mem_filter.mp hx).1
            exact okN_lay8 (ok.cl z hz).1
          refine rv_neST (xs := xs) (SqT.of (x12 _ _ ht2)) (SqT.of hp12) (by rw [exf]; exact layc) layc H12 (Ex.refl _) _ fun H13 x13 => ?_
          rw [exf, decide_eq_true rfl]
          exact q' H13 (x11.trans (x12.trans x13))
      have x611 := x610.trans x11
      -- numbers that are wrong
      refine q_forNT8 (K := K) (xs := [.int (-1), .int ((chs.length : Int) + 1)]) (eu_tup (ea_cons (ev_un ev_c ru_neg) (ea_cons (ev_op (ev_lenD8 (ev_fld (ev_var rfl) (x611 _ _ e1) T.clS T.nCh rfl) (x611 _ _ e2) lkh) ev_c rv_I0) ea_nil)) (by show 2 ≤ 100000; decide))
        (fun q i σ' H' => (∃ v12 v13 : Option V, σ' = [some (.ref a), some (.ref d), some (.ref sc), some (.int mst), some (.ref rows), v5', v6, v7, some (.ref gv), some (.int k), some (.ref tm), v11', v12, v13, none, none, none]) ∧ Ex H11 H' ∧ H' q = some (.tup [.int (-1), .int ((chs.length : Int) + 1)]))
        (fun q H12 hq x12 hq12 => ⟨⟨_, _, rfl⟩, x12, hq12⟩) (fun q i σ' H' _ ⟨_, _, h⟩ => SqT.of h) ?_ ?_
      · rintro q i wv σ' H12 hwv ⟨⟨v12, v13, rfl⟩, x12, hq12⟩
        obtain ⟨n, rfl, hn⟩ : ∃ n : Int, wv = .int n ∧ ¬(0 ≤ n ∧ n ≤ (chs.length : Int)) := by
          match i, hwv with
          | 0, h => cases Option.some.inj h; exact ⟨_, rfl, by omega⟩
          | 1, h => cases Option.some.inj h; exact ⟨_, rfl, by omega⟩
        dsimp only [gName]
        have x612 := x611.trans x12
        refine ⟨_, rfl, _, rfl, sc, n, chs, rfl, ⟨dxs, ca, cb, x612 _ _ e1, x612 _ _ e2⟩, hn, fun d2 H13 x13 hd2 => ?_⟩
        refine ⟨true, T.te, fun _ a0 _ => ?_, fun q => Bool.noConfusion q⟩
        refine ⟨_, rfl, rfl, rfl, d2, _, _, rfl, hd2, rfl, _, rfl, rfl, _, rfl, ?_⟩
        refine ite2 (fun z => ?_) fun _ => ?_
        · revert z
          show (!decide (V.int n = V.int n)) = true → _
          simp
        · exact ⟨⟨_, _, rfl⟩, x12.trans x13, x13 _ _ hq12⟩
      · rintro q σ' H12 ⟨⟨v12, v13, rfl⟩, _⟩
        exact k0 _
end
end Mc
namespace Mc
open PySem L2 PySem.Spec PyProof.Rows
/-! ### an error of a class is what «except» of that class names -/
theorem exm_self {K : PySem.W.Frag} {S : Addr} (h1 : PySem.W.subIn K (.ref S) (.type "BaseException") = some true) (h2 : PySem.W.isClsIn K S = true) (h3 : PySem.W.typeIn K (.ref S) = some (.type "type")) (h4 : PySem.W.subIn K (.ref S) (.ref S) = some true) :
    PySem.W.exmOne K (.ref S) (.ref S) = some true := by
  have e1 : (PySem.W.subIn K (.ref S) (.type "BaseException") == some true) = true := by rw [h1] <;> rfl
  have e2 : ((PySem.W.clsIn K S).isSome && PySem.W.typeIn K (.ref S) == some (.type "type")) = true := by
    have h2' : (PySem.W.clsIn K S).isSome = true := h2
    rw [h2', h3] <;> rfl
  show (if (PySem.W.subIn K (.ref S) (.type "BaseException") == some true) = true then (if ((PySem.W.clsIn K S).isSome && PySem.W.typeIn K (.ref S) == some (.type "type")) = true then PySem.W.subIn K (.ref S) (.ref S) else none) else none) = some true
  rw [if_pos e1, if_pos e2]
  exact h4
abbrev sBadI : Stmt := inClass (top 5) 0
theorem scBadI : FnScope ["self", "name"] ["self", "name"] (defScope sBadI) := ⟨rfl, rfl, rfl, by decide +kernel, rfl, by decide +kernel, by decide +kernel⟩
theorem all_mk {l : PySem.W.OpenLaw} {w : World} {K : PySem.W.Frag} {h : Heap} {mg : PySem.Str → Option Value} {fa : Addr} (X : K.In h) (G : h.Ns mainGlobals mg) (hfa : mg "law" = some (.ref fa))
    {CK : Addr}
    {f_Seats_init : Addr} {od_Seats_init an_Seats_init : Option Addr} {sl_Seats_init : Array (Option Value)} {oc_Seats_init kV_Seats_init dc_Seats_init pm_Seats_init cd_Seats_init ct_Seats_init : Value}
    {f_Seats_has_room : Addr} {od_Seats_has_room an_Seats_has_room : Option Addr} {sl_Seats_has_room : Array (Option Value)} {oc_Seats_has_room kV_Seats_has_room dc_Seats_has_room pm_Seats_has_room cd_Seats_has_room ct_Seats_has_room : Value}
    {f_Seats_add : Addr} {od_Seats_add an_Seats_add : Option Addr} {sl_Seats_add : Array (Option Value)} {oc_Seats_add kV_Seats_add dc_Seats_add pm_Seats_add cd_Seats_add ct_Seats_add : Value}
    {f_Seats_way_for : Addr} {od_Seats_way_for an_Seats_way_for : Option Addr} {sl_Seats_way_for : Array (Option Value)} {oc_Seats_way_for kV_Seats_way_for dc_Seats_way_for pm_Seats_way_for cd_Seats_way_for ct_Seats_way_for : Value}
    {f_Seats_lead : Addr} {od_Seats_lead an_Seats_lead : Option Addr} {sl_Seats_lead : Array (Option Value)} {oc_Seats_lead kV_Seats_lead dc_Seats_lead pm_Seats_lead cd_Seats_lead ct_Seats_lead : Value}
    {f_Seats_put : Addr} {od_Seats_put an_Seats_put : Option Addr} {sl_Seats_put : Array (Option Value)} {oc_Seats_put kV_Seats_put dc_Seats_put pm_Seats_put cd_Seats_put ct_Seats_put : Value}
    {f_Seats_paper : Addr} {od_Seats_paper an_Seats_paper : Option Addr} {sl_Seats_paper : Array (Option Value)} {oc_Seats_paper kV_Seats_paper dc_Seats_paper pm_Seats_paper cd_Seats_paper ct_Seats_paper : Value}
    {CC : Addr}
    {f_Call_init : Addr} {od_Call_init an_Call_init : Option Addr} {sl_Call_init : Array (Option Value)} {oc_Call_init kV_Call_init dc_Call_init pm_Call_init cd_Call_init ct_Call_init : Value}
    {f_Call_eq : Addr} {od_Call_eq an_Call_eq : Option Addr} {sl_Call_eq : Array (Option Value)} {oc_Call_eq kV_Call_eq dc_Call_eq pm_Call_eq cd_Call_eq ct_Call_eq : Value}
    {CS : Addr}
    {f_Scene_init : Addr} {od_Scene_init an_Scene_init : Option Addr} {sl_Scene_init : Array (Option Value)} {oc_Scene_init kV_Scene_init dc_Scene_init pm_Scene_init cd_Scene_init ct_Scene_init : Value}
    {f_Scene_eq : Addr} {od_Scene_eq an_Scene_eq : Option Addr} {sl_Scene_eq : Array (Option Value)} {oc_Scene_eq kV_Scene_eq dc_Scene_eq pm_Scene_eq cd_Scene_eq ct_Scene_eq : Value}
    {f_Scene_order : Addr} {od_Scene_order an_Scene_order : Option Addr} {sl_Scene_order : Array (Option Value)} {oc_Scene_order kV_Scene_order dc_Scene_order pm_Scene_order cd_Scene_order ct_Scene_order : Value}
    {f_Scene_rank : Addr} {od_Scene_rank an_Scene_rank : Option Addr} {sl_Scene_rank : Array (Option Value)} {oc_Scene_rank kV_Scene_rank dc_Scene_rank pm_Scene_rank cd_Scene_rank ct_Scene_rank : Value}
    {CT : Addr}
    {f_Kept_init : Addr} {od_Kept_init an_Kept_init : Option Addr} {sl_Kept_init : Array (Option Value)} {oc_Kept_init kV_Kept_init dc_Kept_init pm_Kept_init cd_Kept_init ct_Kept_init : Value}
    {CB : Addr}
    {f_BadName_init : Addr} {od_BadName_init an_BadName_init : Option Addr} {sl_BadName_init : Array (Option Value)} {oc_BadName_init kV_BadName_init dc_BadName_init pm_BadName_init cd_BadName_init ct_BadName_init : Value}
    {f_is_number : Addr} {od_is_number an_is_number : Option Addr} {sl_is_number : Array (Option Value)} {oc_is_number kV_is_number dc_is_number pm_is_number cd_is_number ct_is_number : Value}
    {f_has_key : Addr} {od_has_key an_has_key : Option Addr} {sl_has_key : Array (Option Value)} {oc_has_key kV_has_key dc_has_key pm_has_key cd_has_key ct_has_key : Value}
    {f_put_in_order : Addr} {od_put_in_order an_put_in_order : Option Addr} {sl_put_in_order : Array (Option Value)} {oc_put_in_order kV_put_in_order dc_put_in_order pm_put_in_order cd_put_in_order ct_put_in_order : Value}
    {f_is_name : Addr} {od_is_name an_is_name : Option Addr} {sl_is_name : Array (Option Value)} {oc_is_name kV_is_name dc_is_name pm_is_name cd_is_name ct_is_name : Value}
    {f_check_mast : Addr} {od_check_mast an_check_mast : Option Addr} {sl_check_mast : Array (Option Value)} {oc_check_mast kV_check_mast dc_check_mast pm_check_mast cd_check_mast ct_check_mast : Value}
    {f_check_heard : Addr} {od_check_heard an_check_heard : Option Addr} {sl_check_heard : Array (Option Value)} {oc_check_heard kV_check_heard dc_check_heard pm_check_heard cd_check_heard ct_check_heard : Value}
    {f_check_call : Addr} {od_check_call an_check_call : Option Addr} {sl_check_call : Array (Option Value)} {oc_check_call kV_check_call dc_check_call pm_check_call cd_check_call ct_check_call : Value}
    {f_law_number : Addr} {od_law_number an_law_number : Option Addr} {sl_law_number : Array (Option Value)} {oc_law_number kV_law_number dc_law_number pm_law_number cd_law_number ct_law_number : Value}
    {f_law_take : Addr} {od_law_take an_law_take : Option Addr} {sl_law_take : Array (Option Value)} {oc_law_take kV_law_take dc_law_take pm_law_take cd_law_take ct_law_take : Value}
    {f_law_pick : Addr} {od_law_pick an_law_pick : Option Addr} {sl_law_pick : Array (Option Value)} {oc_law_pick kV_law_pick dc_law_pick pm_law_pick cd_law_pick ct_law_pick : Value}
    {f_law_masts : Addr} {od_law_masts an_law_masts : Option Addr} {sl_law_masts : Array (Option Value)} {oc_law_masts kV_law_masts dc_law_masts pm_law_masts cd_law_masts ct_law_masts : Value}
    {f_law_heard : Addr} {od_law_heard an_law_heard : Option Addr} {sl_law_heard : Array (Option Value)} {oc_law_heard kV_law_heard dc_law_heard pm_law_heard cd_law_heard ct_law_heard : Value}
    {f_law_scene : Addr} {od_law_scene an_law_scene : Option Addr} {sl_law_scene : Array (Option Value)} {oc_law_scene kV_law_scene dc_law_scene pm_law_scene cd_law_scene ct_law_scene : Value}
    {f_kept : Addr} {od_kept an_kept : Option Addr} {sl_kept : Array (Option Value)} {oc_kept kV_kept dc_kept pm_kept cd_kept ct_kept : Value}
    {f_law_lots : Addr} {od_law_lots an_law_lots : Option Addr} {sl_law_lots : Array (Option Value)} {oc_law_lots kV_law_lots dc_law_lots pm_law_lots cd_law_lots ct_law_lots : Value}
    {f_law_seatings : Addr} {od_law_seatings an_law_seatings : Option Addr} {sl_law_seatings : Array (Option Value)} {oc_law_seatings kV_law_seatings dc_law_seatings pm_law_seatings cd_law_seatings ct_law_seatings : Value}
    {f_law_best : Addr} {od_law_best an_law_best : Option Addr} {sl_law_best : Array (Option Value)} {oc_law_best kV_law_best dc_law_best pm_law_best cd_law_best ct_law_best : Value}
    {f_without : Addr} {od_without an_without : Option Addr} {sl_without : Array (Option Value)} {oc_without kV_without dc_without pm_without cd_without ct_without : Value}
    {f_lost_calls : Addr} {od_lost_calls an_lost_calls : Option Addr} {sl_lost_calls : Array (Option Value)} {oc_lost_calls kV_lost_calls dc_lost_calls pm_lost_calls cd_lost_calls ct_lost_calls : Value}
    {f_lots_up_to : Addr} {od_lots_up_to an_lots_up_to : Option Addr} {sl_lots_up_to : Array (Option Value)} {oc_lots_up_to kV_lots_up_to dc_lots_up_to pm_lots_up_to cd_lots_up_to ct_lots_up_to : Value}
    {f_worst_falls : Addr} {od_worst_falls an_worst_falls : Option Addr} {sl_worst_falls : Array (Option Value)} {oc_worst_falls kV_worst_falls dc_worst_falls pm_worst_falls cd_worst_falls ct_worst_falls : Value}
    {f_sure_calls : Addr} {od_sure_calls an_sure_calls : Option Addr} {sl_sure_calls : Array (Option Value)} {oc_sure_calls kV_sure_calls dc_sure_calls pm_sure_calls cd_sure_calls ct_sure_calls : Value}
    {f_law : Addr} {od_law an_law : Option Addr} {sl_law : Array (Option Value)} {oc_law kV_law dc_law pm_law cd_law ct_law : Value}
    {t_SMALL_LETTERS : Tok}
    {t_FIGURES : Tok}
    {t_LONGEST_NAME : Tok}
    {t_LIMIT : Tok}
    {tc_law_best tp_law_best : Addr}
    (a_Seats : PySem.W.nsIn K mainGlobals "Seats" = some (some (.ref CK)))
    (a_Seats_init : PySem.W.findIn K (.ref CK) "__init__" = some (some (.ref f_Seats_init)))
    (i_Seats_init : PySem.W.isFn K (.ref f_Seats_init) = true)
    (l_Seats_init : K.lookup f_Seats_init = some ⟨oc_Seats_init, od_Seats_init, .func (PySem.W.fnOf "__init__" "Seats.__init__" (defArgs sKInit) (defBody sKInit) (defScope sKInit) .none kV_Seats_init dc_Seats_init pm_Seats_init an_Seats_init cd_Seats_init ct_Seats_init), sl_Seats_init⟩)
    (c_Seats_init : PySem.W.codeIn K cd_Seats_init "Seats.__init__" = true)
    (k_Seats_init : PySem.W.keepIn K (.ref f_Seats_init) = true)
    (a_Seats_has_room : PySem.W.findIn K (.ref CK) "has_room" = some (some (.ref f_Seats_has_room)))
    (i_Seats_has_room : PySem.W.isFn K (.ref f_Seats_has_room) = true)
    (l_Seats_has_room : K.lookup f_Seats_has_room = some ⟨oc_Seats_has_room, od_Seats_has_room, .func (PySem.W.fnOf "has_room" "Seats.has_room" (defArgs sRoom) (defBody sRoom) (defScope sRoom) .none kV_Seats_has_room dc_Seats_has_room pm_Seats_has_room an_Seats_has_room cd_Seats_has_room ct_Seats_has_room), sl_Seats_has_room⟩)
    (c_Seats_has_room : PySem.W.codeIn K cd_Seats_has_room "Seats.has_room" = true)
    (k_Seats_has_room : PySem.W.keepIn K (.ref f_Seats_has_room) = true)
    (a_Seats_add : PySem.W.findIn K (.ref CK) "add" = some (some (.ref f_Seats_add)))
    (i_Seats_add : PySem.W.isFn K (.ref f_Seats_add) = true)
    (l_Seats_add : K.lookup f_Seats_add = some ⟨oc_Seats_add, od_Seats_add, .func (PySem.W.fnOf "add" "Seats.add" (defArgs sAdd) (defBody sAdd) (defScope sAdd) .none kV_Seats_add dc_Seats_add pm_Seats_add an_Seats_add cd_Seats_add ct_Seats_add), sl_Seats_add⟩)
    (c_Seats_add : PySem.W.codeIn K cd_Seats_add "Seats.add" = true)
    (k_Seats_add : PySem.W.keepIn K (.ref f_Seats_add) = true)
    (a_Seats_way_for : PySem.W.findIn K (.ref CK) "way_for" = some (some (.ref f_Seats_way_for)))
    (i_Seats_way_for : PySem.W.isFn K (.ref f_Seats_way_for) = true)
    (l_Seats_way_for : K.lookup f_Seats_way_for = some ⟨oc_Seats_way_for, od_Seats_way_for, .func (PySem.W.fnOf "way_for" "Seats.way_for" (defArgs sWay) (defBody sWay) (defScope sWay) .none kV_Seats_way_for dc_Seats_way_for pm_Seats_way_for an_Seats_way_for cd_Seats_way_for ct_Seats_way_for), sl_Seats_way_for⟩)
    (c_Seats_way_for : PySem.W.codeIn K cd_Seats_way_for "Seats.way_for" = true)
    (k_Seats_way_for : PySem.W.keepIn K (.ref f_Seats_way_for) = true)
    (a_Seats_lead : PySem.W.findIn K (.ref CK) "lead" = some (some (.ref f_Seats_lead)))
    (i_Seats_lead : PySem.W.isFn K (.ref f_Seats_lead) = true)
    (l_Seats_lead : K.lookup f_Seats_lead = some ⟨oc_Seats_lead, od_Seats_lead, .func (PySem.W.fnOf "lead" "Seats.lead" (defArgs sLead) (defBody sLead) (defScope sLead) .none kV_Seats_lead dc_Seats_lead pm_Seats_lead an_Seats_lead cd_Seats_lead ct_Seats_lead), sl_Seats_lead⟩)
    (c_Seats_lead : PySem.W.codeIn K cd_Seats_lead "Seats.lead" = true)
    (k_Seats_lead : PySem.W.keepIn K (.ref f_Seats_lead) = true)
    (a_Seats_put : PySem.W.findIn K (.ref CK) "put" = some (some (.ref f_Seats_put)))
    (i_Seats_put : PySem.W.isFn K (.ref f_Seats_put) = true)
    (l_Seats_put : K.lookup f_Seats_put = some ⟨oc_Seats_put, od_Seats_put, .func (PySem.W.fnOf "put" "Seats.put" (defArgs sSPut) (defBody sSPut) (defScope sSPut) .none kV_Seats_put dc_Seats_put pm_Seats_put an_Seats_put cd_Seats_put ct_Seats_put), sl_Seats_put⟩)
    (c_Seats_put : PySem.W.codeIn K cd_Seats_put "Seats.put" = true)
    (k_Seats_put : PySem.W.keepIn K (.ref f_Seats_put) = true)
    (a_Seats_paper : PySem.W.findIn K (.ref CK) "paper" = some (some (.ref f_Seats_paper)))
    (i_Seats_paper : PySem.W.isFn K (.ref f_Seats_paper) = true)
    (l_Seats_paper : K.lookup f_Seats_paper = some ⟨oc_Seats_paper, od_Seats_paper, .func (PySem.W.fnOf "paper" "Seats.paper" (defArgs sPaper) (defBody sPaper) (defScope sPaper) .none kV_Seats_paper dc_Seats_paper pm_Seats_paper an_Seats_paper cd_Seats_paper ct_Seats_paper), sl_Seats_paper⟩)
    (c_Seats_paper : PySem.W.codeIn K cd_Seats_paper "Seats.paper" = true)
    (k_Seats_paper : PySem.W.keepIn K (.ref f_Seats_paper) = true)
    (pg_Seats : PySem.W.plainGet K CK PySem.Str.empty = true)
    (hd_Seats : PySem.W.hasDictIn K CK = true)
    (po_Seats : PySem.W.plainOver K CK = true)
    (sa_Seats : PySem.W.findIn K (.ref CK) "__setattr__" = some (some (.builtin "object.__setattr__")))
    (mk_Seats : PySem.W.makesIn K CK = true)
    (kc_Seats : PySem.W.keepIn K (.ref CK) = true)
    (na_Seats_scene : PySem.W.findIn K (.ref CK) "scene" = some none)
    (na_Seats_seating : PySem.W.findIn K (.ref CK) "seating" = some none)
    (na_Seats_seated : PySem.W.findIn K (.ref CK) "seated" = some none)
    (a_Call : PySem.W.nsIn K mainGlobals "Call" = some (some (.ref CC)))
    (a_Call_init : PySem.W.findIn K (.ref CC) "__init__" = some (some (.ref f_Call_init)))
    (i_Call_init : PySem.W.isFn K (.ref f_Call_init) = true)
    (l_Call_init : K.lookup f_Call_init = some ⟨oc_Call_init, od_Call_init, .func (PySem.W.fnOf "__init__" "Call.__init__" (defArgs sCInit) (defBody sCInit) (defScope sCInit) .none kV_Call_init dc_Call_init pm_Call_init an_Call_init cd_Call_init ct_Call_init), sl_Call_init⟩)
    (c_Call_init : PySem.W.codeIn K cd_Call_init "Call.__init__" = true)
    (k_Call_init : PySem.W.keepIn K (.ref f_Call_init) = true)
    (a_Call_eq : PySem.W.findIn K (.ref CC) "__eq__" = some (some (.ref f_Call_eq)))
    (i_Call_eq : PySem.W.isFn K (.ref f_Call_eq) = true)
    (l_Call_eq : K.lookup f_Call_eq = some ⟨oc_Call_eq, od_Call_eq, .func (PySem.W.fnOf "__eq__" "Call.__eq__" (defArgs sCEq) (defBody sCEq) (defScope sCEq) .none kV_Call_eq dc_Call_eq pm_Call_eq an_Call_eq cd_Call_eq ct_Call_eq), sl_Call_eq⟩)
    (c_Call_eq : PySem.W.codeIn K cd_Call_eq "Call.__eq__" = true)
    (k_Call_eq : PySem.W.keepIn K (.ref f_Call_eq) = true)
    (pg_Call : PySem.W.plainGet K CC PySem.Str.empty = true)
    (hd_Call : PySem.W.hasDictIn K CC = true)
    (po_Call : PySem.W.plainOver K CC = true)
    (sa_Call : PySem.W.findIn K (.ref CC) "__setattr__" = some (some (.builtin "object.__setattr__")))
    (mk_Call : PySem.W.makesIn K CC = true)
    (kc_Call : PySem.W.keepIn K (.ref CC) = true)
    (ne_Call : PySem.W.findIn K (.ref CC) "__ne__" = some (some (.builtin "object.__ne__")))
    (ob_Call : PySem.W.mroIn K CC (.type "object") = some true)
    (ca_Call : PySem.W.findIn K (.ref CC) "__class__" = some (some (.builtin "object.__class__")))
    (cg_Call : PySem.W.specialIn K (.builtin "object.__class__") "__get__" = some (some (.builtin "getset_descriptor.__get__")))
    (ct_Call : PySem.W.takesIn K (.builtin "object.__class__") = some true)
    (na_Call_worth : PySem.W.findIn K (.ref CC) "worth" = some none)
    (na_Call_heard : PySem.W.findIn K (.ref CC) "heard" = some none)
    (a_Scene : PySem.W.nsIn K mainGlobals "Scene" = some (some (.ref CS)))
    (a_Scene_init : PySem.W.findIn K (.ref CS) "__init__" = some (some (.ref f_Scene_init)))
    (i_Scene_init : PySem.W.isFn K (.ref f_Scene_init) = true)
    (l_Scene_init : K.lookup f_Scene_init = some ⟨oc_Scene_init, od_Scene_init, .func (PySem.W.fnOf "__init__" "Scene.__init__" (defArgs sSInit) (defBody sSInit) (defScope sSInit) .none kV_Scene_init dc_Scene_init pm_Scene_init an_Scene_init cd_Scene_init ct_Scene_init), sl_Scene_init⟩)
    (c_Scene_init : PySem.W.codeIn K cd_Scene_init "Scene.__init__" = true)
    (k_Scene_init : PySem.W.keepIn K (.ref f_Scene_init) = true)
    (a_Scene_eq : PySem.W.findIn K (.ref CS) "__eq__" = some (some (.ref f_Scene_eq)))
    (i_Scene_eq : PySem.W.isFn K (.ref f_Scene_eq) = true)
    (l_Scene_eq : K.lookup f_Scene_eq = some ⟨oc_Scene_eq, od_Scene_eq, .func (PySem.W.fnOf "__eq__" "Scene.__eq__" (defArgs sSEq) (defBody sSEq) (defScope sSEq) .none kV_Scene_eq dc_Scene_eq pm_Scene_eq an_Scene_eq cd_Scene_eq ct_Scene_eq), sl_Scene_eq⟩)
    (c_Scene_eq : PySem.W.codeIn K cd_Scene_eq "Scene.__eq__" = true)
    (k_Scene_eq : PySem.W.keepIn K (.ref f_Scene_eq) = true)
    (a_Scene_order : PySem.W.findIn K (.ref CS) "order" = some (some (.ref f_Scene_order)))
    (i_Scene_order : PySem.W.isFn K (.ref f_Scene_order) = true)
    (l_Scene_order : K.lookup f_Scene_order = some ⟨oc_Scene_order, od_Scene_order, .func (PySem.W.fnOf "order" "Scene.order" (defArgs sOrder) (defBody sOrder) (defScope sOrder) .none kV_Scene_order dc_Scene_order pm_Scene_order an_Scene_order cd_Scene_order ct_Scene_order), sl_Scene_order⟩)
    (c_Scene_order : PySem.W.codeIn K cd_Scene_order "Scene.order" = true)
    (k_Scene_order : PySem.W.keepIn K (.ref f_Scene_order) = true)
    (a_Scene_rank : PySem.W.findIn K (.ref CS) "rank" = some (some (.ref f_Scene_rank)))
    (i_Scene_rank : PySem.W.isFn K (.ref f_Scene_rank) = true)
    (l_Scene_rank : K.lookup f_Scene_rank = some ⟨oc_Scene_rank, od_Scene_rank, .func (PySem.W.fnOf "rank" "Scene.rank" (defArgs sRank) (defBody sRank) (defScope sRank) .none kV_Scene_rank dc_Scene_rank pm_Scene_rank an_Scene_rank cd_Scene_rank ct_Scene_rank), sl_Scene_rank⟩)
    (c_Scene_rank : PySem.W.codeIn K cd_Scene_rank "Scene.rank" = true)
    (k_Scene_rank : PySem.W.keepIn K (.ref f_Scene_rank) = true)
    (pg_Scene : PySem.W.plainGet K CS PySem.Str.empty = true)
    (hd_Scene : PySem.W.hasDictIn K CS = true)
    (po_Scene : PySem.W.plainOver K CS = true)
    (sa_Scene : PySem.W.findIn K (.ref CS) "__setattr__" = some (some (.builtin "object.__setattr__")))
    (mk_Scene : PySem.W.makesIn K CS = true)
    (kc_Scene : PySem.W.keepIn K (.ref CS) = true)
    (bg_Scene_rank : PySem.W.specialIn K (.ref f_Scene_rank) "__get__" = some (some (.builtin "function.__get__")))
    (bt_Scene_rank : PySem.W.takesIn K (.ref f_Scene_rank) = some false)
    (bf_Scene_rank : PySem.W.fnIn K f_Scene_rank = true)
    (ne_Scene : PySem.W.findIn K (.ref CS) "__ne__" = some (some (.builtin "object.__ne__")))
    (ob_Scene : PySem.W.mroIn K CS (.type "object") = some true)
    (ca_Scene : PySem.W.findIn K (.ref CS) "__class__" = some (some (.builtin "object.__class__")))
    (cg_Scene : PySem.W.specialIn K (.builtin "object.__class__") "__get__" = some (some (.builtin "getset_descriptor.__get__")))
    (ct_Scene : PySem.W.takesIn K (.builtin "object.__class__") = some true)
    (na_Scene_channels : PySem.W.findIn K (.ref CS) "channels" = some none)
    (na_Scene_calls : PySem.W.findIn K (.ref CS) "calls" = some none)
    (a_Kept : PySem.W.nsIn K mainGlobals "Kept" = some (some (.ref CT)))
    (a_Kept_init : PySem.W.findIn K (.ref CT) "__init__" = some (some (.ref f_Kept_init)))
    (i_Kept_init : PySem.W.isFn K (.ref f_Kept_init) = true)
    (l_Kept_init : K.lookup f_Kept_init = some ⟨oc_Kept_init, od_Kept_init, .func (PySem.W.fnOf "__init__" "Kept.__init__" (defArgs sTInit) (defBody sTInit) (defScope sTInit) .none kV_Kept_init dc_Kept_init pm_Kept_init an_Kept_init cd_Kept_init ct_Kept_init), sl_Kept_init⟩)
    (c_Kept_init : PySem.W.codeIn K cd_Kept_init "Kept.__init__" = true)
    (k_Kept_init : PySem.W.keepIn K (.ref f_Kept_init) = true)
    (pg_Kept : PySem.W.plainGet K CT PySem.Str.empty = true)
    (hd_Kept : PySem.W.hasDictIn K CT = true)
    (po_Kept : PySem.W.plainOver K CT = true)
    (sa_Kept : PySem.W.findIn K (.ref CT) "__setattr__" = some (some (.builtin "object.__setattr__")))
    (mk_Kept : PySem.W.makesIn K CT = true)
    (kc_Kept : PySem.W.keepIn K (.ref CT) = true)
    (na_Kept_lot : PySem.W.findIn K (.ref CT) "lot" = some none)
    (na_Kept_seating : PySem.W.findIn K (.ref CT) "seating" = some none)
    (na_Kept_papers : PySem.W.findIn K (.ref CT) "papers" = some none)
    (a_BadName : PySem.W.nsIn K mainGlobals "BadName" = some (some (.ref CB)))
    (a_BadName_init : PySem.W.findIn K (.ref CB) "__init__" = some (some (.ref f_BadName_init)))
    (i_BadName_init : PySem.W.isFn K (.ref f_BadName_init) = true)
    (l_BadName_init : K.lookup f_BadName_init = some ⟨oc_BadName_init, od_BadName_init, .func (PySem.W.fnOf "__init__" "BadName.__init__" (defArgs sBadI) (defBody sBadI) (defScope sBadI) .none kV_BadName_init dc_BadName_init pm_BadName_init an_BadName_init cd_BadName_init ct_BadName_init), sl_BadName_init⟩)
    (c_BadName_init : PySem.W.codeIn K cd_BadName_init "BadName.__init__" = true)
    (k_BadName_init : PySem.W.keepIn K (.ref f_BadName_init) = true)
    (xi_BadName : PySem.W.excInitIn K CB exT "Exception.__new__" = true)
    (xo_BadName : PySem.W.excOver K CB exT = true)
    (hd_BadName : PySem.W.hasDictIn K CB = true)
    (sa_BadName : PySem.W.findIn K (.ref CB) "__setattr__" = some (some (.builtin "object.__setattr__")))
    (sb_BadName : PySem.W.subIn K (.ref CB) (.type "BaseException") = some true)
    (ty_BadName : PySem.W.typeIn K (.ref CB) = some (.type "type"))
    (kc_BadName : PySem.W.keepIn K (.ref CB) = true)
    (ga_BadName : PySem.W.findIn K (.ref CB) "__getattribute__" = some (some (.builtin "BaseException.__getattribute__")))
    (gg_BadName : PySem.W.findIn K (.ref CB) "__getattr__" = some none)
    (ic_BadName : PySem.W.isClsIn K CB = true)
    (ss_BadName : PySem.W.subIn K (.ref CB) (.ref CB) = some true)
    (na_BadName_name : PySem.W.findIn K (.ref CB) "name" = some none)
    (a_is_number : PySem.W.nsIn K mainGlobals "is_number" = some (some (.ref f_is_number)))
    (l_is_number : K.lookup f_is_number = some ⟨oc_is_number, od_is_number, .func (PySem.W.fnOf "is_number" "is_number" (defArgs sIsNum) (defBody sIsNum) (defScope sIsNum) .none kV_is_number dc_is_number pm_is_number an_is_number cd_is_number ct_is_number), sl_is_number⟩)
    (c_is_number : PySem.W.codeIn K cd_is_number "is_number" = true)
    (k_is_number : PySem.W.keepIn K (.ref f_is_number) = true)
    (a_has_key : PySem.W.nsIn K mainGlobals "has_key" = some (some (.ref f_has_key)))
    (l_has_key : K.lookup f_has_key = some ⟨oc_has_key, od_has_key, .func (PySem.W.fnOf "has_key" "has_key" (defArgs sHasKey) (defBody sHasKey) (defScope sHasKey) .none kV_has_key dc_has_key pm_has_key an_has_key cd_has_key ct_has_key), sl_has_key⟩)
    (c_has_key : PySem.W.codeIn K cd_has_key "has_key" = true)
    (k_has_key : PySem.W.keepIn K (.ref f_has_key) = true)
    (a_put_in_order : PySem.W.nsIn K mainGlobals "put_in_order" = some (some (.ref f_put_in_order)))
    (l_put_in_order : K.lookup f_put_in_order = some ⟨oc_put_in_order, od_put_in_order, .func (PySem.W.fnOf "put_in_order" "put_in_order" (defArgs sPut) (defBody sPut) (defScope sPut) .none kV_put_in_order dc_put_in_order pm_put_in_order an_put_in_order cd_put_in_order ct_put_in_order), sl_put_in_order⟩)
    (c_put_in_order : PySem.W.codeIn K cd_put_in_order "put_in_order" = true)
    (k_put_in_order : PySem.W.keepIn K (.ref f_put_in_order) = true)
    (a_is_name : PySem.W.nsIn K mainGlobals "is_name" = some (some (.ref f_is_name)))
    (l_is_name : K.lookup f_is_name = some ⟨oc_is_name, od_is_name, .func (PySem.W.fnOf "is_name" "is_name" (defArgs sIsName) (defBody sIsName) (defScope sIsName) .none kV_is_name dc_is_name pm_is_name an_is_name cd_is_name ct_is_name), sl_is_name⟩)
    (c_is_name : PySem.W.codeIn K cd_is_name "is_name" = true)
    (k_is_name : PySem.W.keepIn K (.ref f_is_name) = true)
    (a_check_mast : PySem.W.nsIn K mainGlobals "check_mast" = some (some (.ref f_check_mast)))
    (l_check_mast : K.lookup f_check_mast = some ⟨oc_check_mast, od_check_mast, .func (PySem.W.fnOf "check_mast" "check_mast" (defArgs sChkM) (defBody sChkM) (defScope sChkM) .none kV_check_mast dc_check_mast pm_check_mast an_check_mast cd_check_mast ct_check_mast), sl_check_mast⟩)
    (c_check_mast : PySem.W.codeIn K cd_check_mast "check_mast" = true)
    (k_check_mast : PySem.W.keepIn K (.ref f_check_mast) = true)
    (a_check_heard : PySem.W.nsIn K mainGlobals "check_heard" = some (some (.ref f_check_heard)))
    (l_check_heard : K.lookup f_check_heard = some ⟨oc_check_heard, od_check_heard, .func (PySem.W.fnOf "check_heard" "check_heard" (defArgs sChkH) (defBody sChkH) (defScope sChkH) .none kV_check_heard dc_check_heard pm_check_heard an_check_heard cd_check_heard ct_check_heard), sl_check_heard⟩)
    (c_check_heard : PySem.W.codeIn K cd_check_heard "check_heard" = true)
    (k_check_heard : PySem.W.keepIn K (.ref f_check_heard) = true)
    (a_check_call : PySem.W.nsIn K mainGlobals "check_call" = some (some (.ref f_check_call)))
    (l_check_call : K.lookup f_check_call = some ⟨oc_check_call, od_check_call, .func (PySem.W.fnOf "check_call" "check_call" (defArgs sChkC) (defBody sChkC) (defScope sChkC) .none kV_check_call dc_check_call pm_check_call an_check_call cd_check_call ct_check_call), sl_check_call⟩)
    (c_check_call : PySem.W.codeIn K cd_check_call "check_call" = true)
    (k_check_call : PySem.W.keepIn K (.ref f_check_call) = true)
    (a_law_number : PySem.W.nsIn K mainGlobals "_law_number" = some (some (.ref f_law_number)))
    (l_law_number : K.lookup f_law_number = some ⟨oc_law_number, od_law_number, .func (PySem.W.fnOf "_law_number" "_law_number" (defArgs sNum) (defBody sNum) (defScope sNum) .none kV_law_number dc_law_number pm_law_number an_law_number cd_law_number ct_law_number), sl_law_number⟩)
    (c_law_number : PySem.W.codeIn K cd_law_number "_law_number" = true)
    (k_law_number : PySem.W.keepIn K (.ref f_law_number) = true)
    (a_law_take : PySem.W.nsIn K mainGlobals "_law_take" = some (some (.ref f_law_take)))
    (l_law_take : K.lookup f_law_take = some ⟨oc_law_take, od_law_take, .func (PySem.W.fnOf "_law_take" "_law_take" (defArgs sTake) (defBody sTake) (defScope sTake) .none kV_law_take dc_law_take pm_law_take an_law_take cd_law_take ct_law_take), sl_law_take⟩)
    (c_law_take : PySem.W.codeIn K cd_law_take "_law_take" = true)
    (k_law_take : PySem.W.keepIn K (.ref f_law_take) = true)
    (a_law_pick : PySem.W.nsIn K mainGlobals "_law_pick" = some (some (.ref f_law_pick)))
    (l_law_pick : K.lookup f_law_pick = some ⟨oc_law_pick, od_law_pick, .func (PySem.W.fnOf "_law_pick" "_law_pick" (defArgs sPick) (defBody sPick) (defScope sPick) .none kV_law_pick dc_law_pick pm_law_pick an_law_pick cd_law_pick ct_law_pick), sl_law_pick⟩)
    (c_law_pick : PySem.W.codeIn K cd_law_pick "_law_pick" = true)
    (k_law_pick : PySem.W.keepIn K (.ref f_law_pick) = true)
    (a_law_masts : PySem.W.nsIn K mainGlobals "_law_masts" = some (some (.ref f_law_masts)))
    (l_law_masts : K.lookup f_law_masts = some ⟨oc_law_masts, od_law_masts, .func (PySem.W.fnOf "_law_masts" "_law_masts" (defArgs sLMasts) (defBody sLMasts) (defScope sLMasts) .none kV_law_masts dc_law_masts pm_law_masts an_law_masts cd_law_masts ct_law_masts), sl_law_masts⟩)
    (c_law_masts : PySem.W.codeIn K cd_law_masts "_law_masts" = true)
    (k_law_masts : PySem.W.keepIn K (.ref f_law_masts) = true)
    (a_law_heard : PySem.W.nsIn K mainGlobals "_law_heard" = some (some (.ref f_law_heard)))
    (l_law_heard : K.lookup f_law_heard = some ⟨oc_law_heard, od_law_heard, .func (PySem.W.fnOf "_law_heard" "_law_heard" (defArgs sLHeard) (defBody sLHeard) (defScope sLHeard) .none kV_law_heard dc_law_heard pm_law_heard an_law_heard cd_law_heard ct_law_heard), sl_law_heard⟩)
    (c_law_heard : PySem.W.codeIn K cd_law_heard "_law_heard" = true)
    (k_law_heard : PySem.W.keepIn K (.ref f_law_heard) = true)
    (a_law_scene : PySem.W.nsIn K mainGlobals "_law_scene" = some (some (.ref f_law_scene)))
    (l_law_scene : K.lookup f_law_scene = some ⟨oc_law_scene, od_law_scene, .func (PySem.W.fnOf "_law_scene" "_law_scene" (defArgs sLScene) (defBody sLScene) (defScope sLScene) .none kV_law_scene dc_law_scene pm_law_scene an_law_scene cd_law_scene ct_law_scene), sl_law_scene⟩)
    (c_law_scene : PySem.W.codeIn K cd_law_scene "_law_scene" = true)
    (k_law_scene : PySem.W.keepIn K (.ref f_law_scene) = true)
    (a_kept : PySem.W.nsIn K mainGlobals "kept" = some (some (.ref f_kept)))
    (l_kept : K.lookup f_kept = some ⟨oc_kept, od_kept, .func (PySem.W.fnOf "kept" "kept" (defArgs sKept) (defBody sKept) (defScope sKept) .none kV_kept dc_kept pm_kept an_kept cd_kept ct_kept), sl_kept⟩)
    (c_kept : PySem.W.codeIn K cd_kept "kept" = true)
    (k_kept : PySem.W.keepIn K (.ref f_kept) = true)
    (a_law_lots : PySem.W.nsIn K mainGlobals "_law_lots" = some (some (.ref f_law_lots)))
    (l_law_lots : K.lookup f_law_lots = some ⟨oc_law_lots, od_law_lots, .func (PySem.W.fnOf "_law_lots" "_law_lots" (defArgs sLots) (defBody sLots) (defScope sLots) .none kV_law_lots dc_law_lots pm_law_lots an_law_lots cd_law_lots ct_law_lots), sl_law_lots⟩)
    (c_law_lots : PySem.W.codeIn K cd_law_lots "_law_lots" = true)
    (k_law_lots : PySem.W.keepIn K (.ref f_law_lots) = true)
    (a_law_seatings : PySem.W.nsIn K mainGlobals "_law_seatings" = some (some (.ref f_law_seatings)))
    (l_law_seatings : K.lookup f_law_seatings = some ⟨oc_law_seatings, od_law_seatings, .func (PySem.W.fnOf "_law_seatings" "_law_seatings" (defArgs sSgs) (defBody sSgs) (defScope sSgs) .none kV_law_seatings dc_law_seatings pm_law_seatings an_law_seatings cd_law_seatings ct_law_seatings), sl_law_seatings⟩)
    (c_law_seatings : PySem.W.codeIn K cd_law_seatings "_law_seatings" = true)
    (k_law_seatings : PySem.W.keepIn K (.ref f_law_seatings) = true)
    (a_law_best : PySem.W.nsIn K mainGlobals "_law_best" = some (some (.ref f_law_best)))
    (l_law_best : K.lookup f_law_best = some ⟨oc_law_best, od_law_best, .func (PySem.W.fnOf "_law_best" "_law_best" (defArgs sBest) (defBody sBest) (defScope sBest) .none kV_law_best dc_law_best pm_law_best an_law_best cd_law_best ct_law_best), sl_law_best⟩)
    (c_law_best : PySem.W.codeIn K cd_law_best "_law_best" = true)
    (k_law_best : PySem.W.keepIn K (.ref f_law_best) = true)
    (a_without : PySem.W.nsIn K mainGlobals "without" = some (some (.ref f_without)))
    (l_without : K.lookup f_without = some ⟨oc_without, od_without, .func (PySem.W.fnOf "without" "without" (defArgs sWithout) (defBody sWithout) (defScope sWithout) .none kV_without dc_without pm_without an_without cd_without ct_without), sl_without⟩)
    (c_without : PySem.W.codeIn K cd_without "without" = true)
    (k_without : PySem.W.keepIn K (.ref f_without) = true)
    (a_lost_calls : PySem.W.nsIn K mainGlobals "lost_calls" = some (some (.ref f_lost_calls)))
    (l_lost_calls : K.lookup f_lost_calls = some ⟨oc_lost_calls, od_lost_calls, .func (PySem.W.fnOf "lost_calls" "lost_calls" (defArgs sLost) (defBody sLost) (defScope sLost) .none kV_lost_calls dc_lost_calls pm_lost_calls an_lost_calls cd_lost_calls ct_lost_calls), sl_lost_calls⟩)
    (c_lost_calls : PySem.W.codeIn K cd_lost_calls "lost_calls" = true)
    (k_lost_calls : PySem.W.keepIn K (.ref f_lost_calls) = true)
    (a_lots_up_to : PySem.W.nsIn K mainGlobals "lots_up_to" = some (some (.ref f_lots_up_to)))
    (l_lots_up_to : K.lookup f_lots_up_to = some ⟨oc_lots_up_to, od_lots_up_to, .func (PySem.W.fnOf "lots_up_to" "lots_up_to" (defArgs sLup) (defBody sLup) (defScope sLup) .none kV_lots_up_to dc_lots_up_to pm_lots_up_to an_lots_up_to cd_lots_up_to ct_lots_up_to), sl_lots_up_to⟩)
    (c_lots_up_to : PySem.W.codeIn K cd_lots_up_to "lots_up_to" = true)
    (k_lots_up_to : PySem.W.keepIn K (.ref f_lots_up_to) = true)
    (a_worst_falls : PySem.W.nsIn K mainGlobals "worst_falls" = some (some (.ref f_worst_falls)))
    (l_worst_falls : K.lookup f_worst_falls = some ⟨oc_worst_falls, od_worst_falls, .func (PySem.W.fnOf "worst_falls" "worst_falls" (defArgs sWorst) (defBody sWorst) (defScope sWorst) .none kV_worst_falls dc_worst_falls pm_worst_falls an_worst_falls cd_worst_falls ct_worst_falls), sl_worst_falls⟩)
    (c_worst_falls : PySem.W.codeIn K cd_worst_falls "worst_falls" = true)
    (k_worst_falls : PySem.W.keepIn K (.ref f_worst_falls) = true)
    (a_sure_calls : PySem.W.nsIn K mainGlobals "sure_calls" = some (some (.ref f_sure_calls)))
    (l_sure_calls : K.lookup f_sure_calls = some ⟨oc_sure_calls, od_sure_calls, .func (PySem.W.fnOf "sure_calls" "sure_calls" (defArgs sSure) (defBody sSure) (defScope sSure) .none kV_sure_calls dc_sure_calls pm_sure_calls an_sure_calls cd_sure_calls ct_sure_calls), sl_sure_calls⟩)
    (c_sure_calls : PySem.W.codeIn K cd_sure_calls "sure_calls" = true)
    (k_sure_calls : PySem.W.keepIn K (.ref f_sure_calls) = true)
    (a_law : PySem.W.nsIn K mainGlobals "law" = some (some (.ref f_law)))
    (l_law : K.lookup f_law = some ⟨oc_law, od_law, .func (PySem.W.fnOf "law" "law" (defArgs s_law) (defBody s_law) (defScope s_law) .none kV_law dc_law pm_law an_law cd_law ct_law), sl_law⟩)
    (c_law : PySem.W.codeIn K cd_law "law" = true)
    (k_law : PySem.W.keepIn K (.ref f_law) = true)
    (a_SMALL_LETTERS : PySem.W.nsIn K mainGlobals "SMALL_LETTERS" = some (some (.str letters t_SMALL_LETTERS)))
    (a_FIGURES : PySem.W.nsIn K mainGlobals "FIGURES" = some (some (.str figures t_FIGURES)))
    (a_LONGEST_NAME : PySem.W.nsIn K mainGlobals "LONGEST_NAME" = some (some (.int 8 t_LONGEST_NAME)))
    (a_LIMIT : PySem.W.nsIn K mainGlobals "LIMIT" = some (some (.int 1000 t_LIMIT)))
    (a_combinations : PySem.W.nsIn K mainGlobals "combinations" = some (some (.type "itertools.combinations")))
    (z_abs : PySem.W.nsIn K mainGlobals "abs" = some none)
    (z_all : PySem.W.nsIn K mainGlobals "all" = some none)
    (z_any : PySem.W.nsIn K mainGlobals "any" = some none)
    (z_bool : PySem.W.nsIn K mainGlobals "bool" = some none)
    (z_dict : PySem.W.nsIn K mainGlobals "dict" = some none)
    (z_int : PySem.W.nsIn K mainGlobals "int" = some none)
    (z_isinstance : PySem.W.nsIn K mainGlobals "isinstance" = some none)
    (z_len : PySem.W.nsIn K mainGlobals "len" = some none)
    (z_list : PySem.W.nsIn K mainGlobals "list" = some none)
    (z_max : PySem.W.nsIn K mainGlobals "max" = some none)
    (z_min : PySem.W.nsIn K mainGlobals "min" = some none)
    (z_range : PySem.W.nsIn K mainGlobals "range" = some none)
    (z_set : PySem.W.nsIn K mainGlobals "set" = some none)
    (z_sorted : PySem.W.nsIn K mainGlobals "sorted" = some none)
    (z_str : PySem.W.nsIn K mainGlobals "str" = some none)
    (z_sum : PySem.W.nsIn K mainGlobals "sum" = some none)
    (z_tuple : PySem.W.nsIn K mainGlobals "tuple" = some none)
    (ht_law_best : h.get? tp_law_best = some (PySem.W.tabObj #[]))
    (cc_law_best : cd_law_best = .ref tc_law_best)
    (ch_law_best : PySem.W.codeHdIn K tc_law_best tp_law_best = true)
    (np_law_best : K.lookup tp_law_best = none) :
    LamX.LawAtS l w K CX0 10 63 "script" mg fa h := by
  have e := hfa.symm.trans (PySem.W.mg_of X G a_law)
  cases e
  have F_Seats_init := fun_mk (st := sKInit) l_Seats_init c_Seats_init k_Seats_init
  have b_Seats_init := F_Seats_init.binds (ps := ["self", "scene"]) fun _ _ _ _ _ _ us hl => match us, hl with | [_, _], _ => rfl
  have F_Seats_has_room := fun_mk (st := sRoom) l_Seats_has_room c_Seats_has_room k_Seats_has_room
  have b_Seats_has_room := F_Seats_has_room.binds (ps := ["self", "mast"]) fun _ _ _ _ _ _ us hl => match us, hl with | [_, _], _ => rfl
  have M_Seats_has_room : Meth K CK "has_room" f_Seats_has_room := ⟨a_Seats_has_room, i_Seats_has_room, k_Seats_has_room⟩
  have F_Seats_add := fun_mk (st := sAdd) l_Seats_add c_Seats_add k_Seats_add
  have b_Seats_add := F_Seats_add.binds (ps := ["self", "name"]) fun _ _ _ _ _ _ us hl => match us, hl with | [_, _], _ => rfl
  have M_Seats_add : Meth K CK "add" f_Seats_add := ⟨a_Seats_add, i_Seats_add, k_Seats_add⟩
  have F_Seats_way_for := fun_mk (st := sWay) l_Seats_way_for c_Seats_way_for k_Seats_way_for
  have b_Seats_way_for := F_Seats_way_for.binds (ps := ["self", "name"]) fun _ _ _ _ _ _ us hl => match us, hl with | [_, _], _ => rfl
  have M_Seats_way_for : Meth K CK "way_for" f_Seats_way_for := ⟨a_Seats_way_for, i_Seats_way_for, k_Seats_way_for⟩
  have F_Seats_lead := fun_mk (st := sLead) l_Seats_lead c_Seats_lead k_Seats_lead
  have b_Seats_lead := F_Seats_lead.binds (ps := ["self", "mast", "came"]) fun _ _ _ _ _ _ us hl => match us, hl with | [_, _, _], _ => rfl
  have M_Seats_lead : Meth K CK "lead" f_Seats_lead := ⟨a_Seats_lead, i_Seats_lead, k_Seats_lead⟩
  have F_Seats_put := fun_mk (st := sSPut) l_Seats_put c_Seats_put k_Seats_put
  have b_Seats_put := F_Seats_put.binds (ps := ["self", "name", "mast"]) fun _ _ _ _ _ _ us hl => match us, hl with | [_, _, _], _ => rfl
  have M_Seats_put : Meth K CK "put" f_Seats_put := ⟨a_Seats_put, i_Seats_put, k_Seats_put⟩
  have F_Seats_paper := fun_mk (st := sPaper) l_Seats_paper c_Seats_paper k_Seats_paper
  have b_Seats_paper := F_Seats_paper.binds (ps := ["self", "name"]) fun _ _ _ _ _ _ us hl => match us, hl with | [_, _], _ => rfl
  have M_Seats_paper : Meth K CK "paper" f_Seats_paper := ⟨a_Seats_paper, i_Seats_paper, k_Seats_paper⟩
  have cls_Seats : Cls K CK := ⟨pg_Seats, hd_Seats, po_Seats, sa_Seats⟩
  have g_Seats := PySem.W.mg_of X G a_Seats
  have Mk_Seats : Mk K CK f_Seats_init := ⟨mk_Seats, a_Seats_init, i_Seats_init, kc_Seats⟩
  have F_Call_init := fun_mk (st := sCInit) l_Call_init c_Call_init k_Call_init
  have b_Call_init := F_Call_init.binds (ps := ["self", "worth", "heard"]) fun _ _ _ _ _ _ us hl => match us, hl with | [_, _, _], _ => rfl
  have F_Call_eq := fun_mk (st := sCEq) l_Call_eq c_Call_eq k_Call_eq
  have b_Call_eq := F_Call_eq.binds (ps := ["self", "other"]) fun _ _ _ _ _ _ us hl => match us, hl with | [_, _], _ => rfl
  have M_Call_eq : Meth K CC "__eq__" f_Call_eq := ⟨a_Call_eq, i_Call_eq, k_Call_eq⟩
  have cls_Call : Cls K CC := ⟨pg_Call, hd_Call, po_Call, sa_Call⟩
  have g_Call := PySem.W.mg_of X G a_Call
  have Mk_Call : Mk K CC f_Call_init := ⟨mk_Call, a_Call_init, i_Call_init, kc_Call⟩
  have F_Scene_init := fun_mk (st := sSInit) l_Scene_init c_Scene_init k_Scene_init
  have b_Scene_init := F_Scene_init.binds (ps := ["self", "channels", "calls"]) fun _ _ _ _ _ _ us hl => match us, hl with | [_, _, _], _ => rfl
  have F_Scene_eq := fun_mk (st := sSEq) l_Scene_eq c_Scene_eq k_Scene_eq
  have b_Scene_eq := F_Scene_eq.binds (ps := ["self", "other"]) fun _ _ _ _ _ _ us hl => match us, hl with | [_, _], _ => rfl
  have M_Scene_eq : Meth K CS "__eq__" f_Scene_eq := ⟨a_Scene_eq, i_Scene_eq, k_Scene_eq⟩
  have F_Scene_order := fun_mk (st := sOrder) l_Scene_order c_Scene_order k_Scene_order
  have b_Scene_order := F_Scene_order.binds (ps := ["self"]) fun _ _ _ _ _ _ us hl => match us, hl with | [_], _ => rfl
  have M_Scene_order : Meth K CS "order" f_Scene_order := ⟨a_Scene_order, i_Scene_order, k_Scene_order⟩
  have F_Scene_rank := fun_mk (st := sRank) l_Scene_rank c_Scene_rank k_Scene_rank
  have b_Scene_rank := F_Scene_rank.binds (ps := ["self", "name"]) fun _ _ _ _ _ _ us hl => match us, hl with | [_, _], _ => rfl
  have M_Scene_rank : Meth K CS "rank" f_Scene_rank := ⟨a_Scene_rank, i_Scene_rank, k_Scene_rank⟩
  have B_Scene_rank : BMeth K CS "rank" f_Scene_rank := ⟨M_Scene_rank, bg_Scene_rank, bt_Scene_rank, by decide +kernel, bf_Scene_rank⟩
  have cls_Scene : Cls K CS := ⟨pg_Scene, hd_Scene, po_Scene, sa_Scene⟩
  have g_Scene := PySem.W.mg_of X G a_Scene
  have Mk_Scene : Mk K CS f_Scene_init := ⟨mk_Scene, a_Scene_init, i_Scene_init, kc_Scene⟩
  have F_Kept_init := fun_mk (st := sTInit) l_Kept_init c_Kept_init k_Kept_init
  have b_Kept_init := F_Kept_init.binds (ps := ["self", "scene"]) fun _ _ _ _ _ _ us hl => match us, hl with | [_, _], _ => rfl
  have cls_Kept : Cls K CT := ⟨pg_Kept, hd_Kept, po_Kept, sa_Kept⟩
  have g_Kept := PySem.W.mg_of X G a_Kept
  have Mk_Kept : Mk K CT f_Kept_init := ⟨mk_Kept, a_Kept_init, i_Kept_init, kc_Kept⟩
  have F_BadName_init := fun_mk (st := sBadI) l_BadName_init c_BadName_init k_BadName_init
  have b_BadName_init := F_BadName_init.binds (ps := ["self", "name"]) fun _ _ _ _ _ _ us hl => match us, hl with | [_, _], _ => rfl
  have g_BadName := PySem.W.mg_of X G a_BadName
  have O_BadName : OexB K CB := ⟨xi_BadName, xo_BadName, hd_BadName, sa_BadName, sb_BadName, ty_BadName, kc_BadName⟩
  have xf_BadName : XfC K CB := ⟨ga_BadName, gg_BadName, sb_BadName, hd_BadName⟩
  have te_BadName := exm_self sb_BadName ic_BadName ty_BadName ss_BadName
  have F_is_number := fun_mk (st := sIsNum) l_is_number c_is_number k_is_number
  have b_is_number := F_is_number.binds (ps := ["thing", "low", "high"]) fun _ _ _ _ _ _ us hl => match us, hl with | [_, _, _], _ => rfl
  have g_is_number := PySem.W.mg_of X G a_is_number
  have F_has_key := fun_mk (st := sHasKey) l_has_key c_has_key k_has_key
  have b_has_key := F_has_key.binds (ps := ["table", "thing"]) fun _ _ _ _ _ _ us hl => match us, hl with | [_, _], _ => rfl
  have g_has_key := PySem.W.mg_of X G a_has_key
  have F_put_in_order := fun_mk (st := sPut) l_put_in_order c_put_in_order k_put_in_order
  have b_put_in_order := F_put_in_order.binds (ps := ["table", "key", "value"]) fun _ _ _ _ _ _ us hl => match us, hl with | [_, _, _], _ => rfl
  have g_put_in_order := PySem.W.mg_of X G a_put_in_order
  have F_is_name := fun_mk (st := sIsName) l_is_name c_is_name k_is_name
  have b_is_name := F_is_name.binds (ps := ["thing"]) fun _ _ _ _ _ _ us hl => match us, hl with | [_], _ => rfl
  have g_is_name := PySem.W.mg_of X G a_is_name
  have F_check_mast := fun_mk (st := sChkM) l_check_mast c_check_mast k_check_mast
  have b_check_mast := F_check_mast.binds (ps := ["mast", "many"]) fun _ _ _ _ _ _ us hl => match us, hl with | [_, _], _ => rfl
  have g_check_mast := PySem.W.mg_of X G a_check_mast
  have F_check_heard := fun_mk (st := sChkH) l_check_heard c_check_heard k_check_heard
  have b_check_heard := F_check_heard.binds (ps := ["heard", "channels"]) fun _ _ _ _ _ _ us hl => match us, hl with | [_, _], _ => rfl
  have g_check_heard := PySem.W.mg_of X G a_check_heard
  have F_check_call := fun_mk (st := sChkC) l_check_call c_check_call k_check_call
  have b_check_call := F_check_call.binds (ps := ["name", "call", "channels"]) fun _ _ _ _ _ _ us hl => match us, hl with | [_, _, _], _ => rfl
  have g_check_call := PySem.W.mg_of X G a_check_call
  have F_law_number := fun_mk (st := sNum) l_law_number c_law_number k_law_number
  have b_law_number := F_law_number.binds (ps := ["script", "index"]) fun _ _ _ _ _ _ us hl => match us, hl with | [_, _], _ => rfl
  have g_law_number := PySem.W.mg_of X G a_law_number
  have F_law_take := fun_mk (st := sTake) l_law_take c_law_take k_law_take
  have b_law_take := F_law_take.binds (ps := ["draw", "many"]) fun _ _ _ _ _ _ us hl => match us, hl with | [_, _], _ => rfl
  have g_law_take := PySem.W.mg_of X G a_law_take
  have F_law_pick := fun_mk (st := sPick) l_law_pick c_law_pick k_law_pick
  have b_law_pick := F_law_pick.binds (ps := ["draw", "items"]) fun _ _ _ _ _ _ us hl => match us, hl with | [_, _], _ => rfl
  have g_law_pick := PySem.W.mg_of X G a_law_pick
  have F_law_masts := fun_mk (st := sLMasts) l_law_masts c_law_masts k_law_masts
  have b_law_masts := F_law_masts.binds (ps := ["draw", "most"]) fun _ _ _ _ _ _ us hl => match us, hl with | [_, _], _ => rfl
  have g_law_masts := PySem.W.mg_of X G a_law_masts
  have F_law_heard := fun_mk (st := sLHeard) l_law_heard c_law_heard k_law_heard
  have b_law_heard := F_law_heard.binds (ps := ["draw", "channels"]) fun _ _ _ _ _ _ us hl => match us, hl with | [_, _], _ => rfl
  have g_law_heard := PySem.W.mg_of X G a_law_heard
  have F_law_scene := fun_mk (st := sLScene) l_law_scene c_law_scene k_law_scene
  have b_law_scene := F_law_scene.binds (ps := ["draw", "masts", "calls"]) fun _ _ _ _ _ _ us hl => match us, hl with | [_, _, _], _ => rfl
  have g_law_scene := PySem.W.mg_of X G a_law_scene
  have F_kept := fun_mk (st := sKept) l_kept c_kept k_kept
  have b_kept := F_kept.binds (ps := ["scene"]) fun _ _ _ _ _ _ us hl => match us, hl with | [_], _ => rfl
  have g_kept := PySem.W.mg_of X G a_kept
  have F_law_lots := fun_mk (st := sLots) l_law_lots c_law_lots k_law_lots
  have b_law_lots := F_law_lots.binds (ps := ["names"]) fun _ _ _ _ _ _ us hl => match us, hl with | [_], _ => rfl
  have g_law_lots := PySem.W.mg_of X G a_law_lots
  have F_law_seatings := fun_mk (st := sSgs) l_law_seatings c_law_seatings k_law_seatings
  have b_law_seatings := F_law_seatings.binds (ps := ["scene", "names"]) fun _ _ _ _ _ _ us hl => match us, hl with | [_, _], _ => rfl
  have g_law_seatings := PySem.W.mg_of X G a_law_seatings
  have F_law_best := fun_mk (st := sBest) l_law_best c_law_best k_law_best
  have b_law_best := F_law_best.binds (ps := ["scene"]) fun _ _ _ _ _ _ us hl => match us, hl with | [_], _ => rfl
  have g_law_best := PySem.W.mg_of X G a_law_best
  have F_without := fun_mk (st := sWithout) l_without c_without k_without
  have b_without := F_without.binds (ps := ["scene", "masts"]) fun _ _ _ _ _ _ us hl => match us, hl with | [_, _], _ => rfl
  have g_without := PySem.W.mg_of X G a_without
  have F_lost_calls := fun_mk (st := sLost) l_lost_calls c_lost_calls k_lost_calls
  have b_lost_calls := F_lost_calls.binds (ps := ["scene"]) fun _ _ _ _ _ _ us hl => match us, hl with | [_], _ => rfl
  have g_lost_calls := PySem.W.mg_of X G a_lost_calls
  have F_lots_up_to := fun_mk (st := sLup) l_lots_up_to c_lots_up_to k_lots_up_to
  have b_lots_up_to := F_lots_up_to.binds (ps := ["names", "most"]) fun _ _ _ _ _ _ us hl => match us, hl with | [_, _], _ => rfl
  have g_lots_up_to := PySem.W.mg_of X G a_lots_up_to
  have F_worst_falls := fun_mk (st := sWorst) l_worst_falls c_worst_falls k_worst_falls
  have b_worst_falls := F_worst_falls.binds (ps := ["scene", "most"]) fun _ _ _ _ _ _ us hl => match us, hl with | [_, _], _ => rfl
  have g_worst_falls := PySem.W.mg_of X G a_worst_falls
  have F_sure_calls := fun_mk (st := sSure) l_sure_calls c_sure_calls k_sure_calls
  have b_sure_calls := F_sure_calls.binds (ps := ["scene", "most"]) fun _ _ _ _ _ _ us hl => match us, hl with | [_, _], _ => rfl
  have g_sure_calls := PySem.W.mg_of X G a_sure_calls
  have F_law := fun_mk (st := s_law) l_law c_law k_law
  have g_SMALL_LETTERS := PySem.W.mg_of X G a_SMALL_LETTERS
  have g_FIGURES := PySem.W.mg_of X G a_FIGURES
  have g_LONGEST_NAME := PySem.W.mg_of X G a_LONGEST_NAME
  have g_LIMIT := PySem.W.mg_of X G a_LIMIT
  have g_combinations := PySem.W.mg_of X G a_combinations
  have n_abs := PySem.W.mg_none_of X G z_abs
  have n_all := PySem.W.mg_none_of X G z_all
  have n_any := PySem.W.mg_none_of X G z_any
  have n_bool := PySem.W.mg_none_of X G z_bool
  have n_dict := PySem.W.mg_none_of X G z_dict
  have n_int := PySem.W.mg_none_of X G z_int
  have n_isinstance := PySem.W.mg_none_of X G z_isinstance
  have n_len := PySem.W.mg_none_of X G z_len
  have n_list := PySem.W.mg_none_of X G z_list
  have n_max := PySem.W.mg_none_of X G z_max
  have n_min := PySem.W.mg_none_of X G z_min
  have n_range := PySem.W.mg_none_of X G z_range
  have n_set := PySem.W.mg_none_of X G z_set
  have n_sorted := PySem.W.mg_none_of X G z_sorted
  have n_str := PySem.W.mg_none_of X G z_str
  have n_sum := PySem.W.mg_none_of X G z_sum
  have n_tuple := PySem.W.mg_none_of X G z_tuple
  refine ⟨PySem.W.fnOf "law" "law" (defArgs s_law) (defBody s_law) (defScope s_law) .none kV_law dc_law pm_law an_law cd_law ct_law, [(tc_law_best, tp_law_best)], spLaw K [(tp_law_best, fun _ _ => "_law_best.<locals>.<lambda>")], List.forall_mem_cons.mpr ⟨ht_law_best, fun _ z => nomatch z⟩, List.forall_mem_cons.mpr ⟨np_law_best, fun _ z => nomatch z⟩, List.forall_mem_cons.mpr ⟨PySem.W.codeHd_of_K X ch_law_best, fun _ z => nomatch z⟩, fun s v => .of_eq rfl, fun H a ns hl _ ht hS => ⟨a, ns, rfl, hS, hl, ?_, fun _ => rfl⟩, fun base KB GB TB => ?_⟩
  · exact List.forall_mem_cons.mpr ⟨NdefX.TabN.nil (ht (tc_law_best, tp_law_best) (by simp)), fun _ z => nomatch z⟩
  have tb_law_best := TB (tc_law_best, tp_law_best) (by simp)
  have TD : TxD K mg f_law_number f_law_take := ⟨n_len, n_int, n_abs, g_law_number, g_law_take⟩
  have TN : TxN mg := ⟨n_isinstance, n_int, n_bool, n_str, n_len, n_all, ⟨_, g_SMALL_LETTERS⟩, ⟨_, g_FIGURES⟩, ⟨_, g_LONGEST_NAME⟩⟩
  have TS : TxS K mg CC := ⟨cls_Call, na_Call_worth, na_Call_heard, ⟨_, g_LIMIT⟩, n_len, n_set, n_tuple, n_sorted⟩
  have TC : TxC K mg CS := ⟨cls_Scene, na_Scene_channels, na_Scene_calls, n_sorted⟩
  have TK : TxK K mg CK CS CC := ⟨cls_Seats, na_Seats_scene, na_Seats_seating, na_Seats_seated, cls_Scene, na_Scene_channels, na_Scene_calls, cls_Call, na_Call_heard, n_len, n_list⟩
  have TW : TxW mg := ⟨n_range, n_str, n_dict⟩
  have c_take : Cal l.prog w K mg base 2 "_law_take" ["draw", "many"] (spTake K) := ⟨_, _, g_law_take, F_law_take.kp, b_law_take, ok_take F_law_take TD F_law_number b_law_number⟩
  have c_pick : Cal l.prog w K mg base 3 "_law_pick" ["draw", "items"] (spPick K) := ⟨_, _, g_law_pick, F_law_pick.kp, b_law_pick, ok_pick F_law_pick TD F_law_number b_law_number F_law_take b_law_take⟩
  have c_name : Cal l.prog w K mg base 1 "is_name" ["thing"] spIsName := ⟨_, _, g_is_name, F_is_name.kp, b_is_name, ok_isname F_is_name TN⟩
  have c_num : Cal l.prog w K mg base 1 "is_number" ["thing", "low", "high"] spIsNum := ⟨_, _, g_is_number, F_is_number.kp, b_is_number, ok_isnum F_is_number TN⟩
  have c_put : Cal l.prog w K mg base 1 "put_in_order" ["table", "key", "value"] spPutO := ⟨_, _, g_put_in_order, F_put_in_order.kp, b_put_in_order, ok_put F_put_in_order⟩
  have c_chkm : Cal l.prog w K mg base 2 "check_mast" ["mast", "many"] spChkM := ⟨_, _, g_check_mast, F_check_mast.kp, b_check_mast, ok_chkM F_check_mast TS c_name c_num⟩
  have c_hk : Cal l.prog w K mg base 1 "has_key" ["table", "thing"] spHasKey := ⟨_, _, g_has_key, F_has_key.kp, b_has_key, ok_haskey F_has_key n_isinstance n_str⟩
  have c_chkh : Cal l.prog w K mg base 2 "check_heard" ["heard", "channels"] spChkH := ⟨_, _, g_check_heard, F_check_heard.kp, b_check_heard, ok_chkH F_check_heard TS c_hk⟩
  have c_chkc : Cal l.prog w K mg base 3 "check_call" ["name", "call", "channels"] (spChkC K CC) := ⟨_, _, g_check_call, F_check_call.kp, b_check_call, ok_chkC F_check_call TS c_name c_num c_chkh⟩
  have c_Call : CalI l.prog w K mg base CC 1 "Call" ["self", "worth", "heard"] (spCInit K CC) := ⟨_, _, g_Call, Mk_Call, b_Call_init, ok_cinit F_Call_init TS⟩
  have c_Scene : CalI l.prog w K mg base CS 4 "Scene" ["self", "channels", "calls"] (spSInit K CS CC) := ⟨_, _, g_Scene, Mk_Scene, b_Scene_init, ok_sinit F_Scene_init TC c_chkm c_chkc⟩
  have c_sput : CalM l.prog w K mg base CK 2 "put" ["self", "name", "mast"] (spSPut CK) := ⟨_, _, M_Seats_put, b_Seats_put, ok_sput F_Seats_put TK c_put⟩
  have c_room : CalM l.prog w K mg base CK 1 "has_room" ["self", "mast"] (spRoom K CK CS CC) := ⟨_, _, M_Seats_has_room, b_Seats_has_room, ok_room F_Seats_has_room TK⟩
  have c_lead : CalM l.prog w K mg base CK 3 "lead" ["self", "mast", "came"] (spLead CK) := ⟨_, _, M_Seats_lead, b_Seats_lead, ok_lead F_Seats_lead TK c_sput⟩
  have c_way : CalM l.prog w K mg base CK 2 "way_for" ["self", "name"] (spWay K CK CS CC) := ⟨_, _, M_Seats_way_for, b_Seats_way_for, ok_way F_Seats_way_for TK c_room⟩
  have c_add : CalM l.prog w K mg base CK 4 "add" ["self", "name"] (spAdd K CK CS CC) := ⟨_, _, M_Seats_add, b_Seats_add, ok_add F_Seats_add TK c_way c_lead⟩
  have c_Seats : CalI l.prog w K mg base CK 1 "Seats" ["self", "scene"] (spKInit K CK CS CC) := ⟨_, _, g_Seats, Mk_Seats, b_Seats_init, ok_kinit F_Seats_init TK⟩
  have c_lm : Cal l.prog w K mg base 4 "_law_masts" ["draw", "most"] (spMasts K) := ⟨_, _, g_law_masts, F_law_masts.kp, b_law_masts, ok_lmasts F_law_masts TW c_take c_pick⟩
  have c_lh : Cal l.prog w K mg base 3 "_law_heard" ["draw", "channels"] (spHeard K) := ⟨_, _, g_law_heard, F_law_heard.kp, b_law_heard, ok_lheard F_law_heard c_take⟩
  have c_ls : Cal l.prog w K mg base 6 "_law_scene" ["draw", "masts", "calls"] (spScene K CS CC) := ⟨_, _, g_law_scene, F_law_scene.kp, b_law_scene, ok_lscene F_law_scene TW c_take c_lm c_lh c_Call c_Scene⟩
  have TO : TxO K mg CS CC := ⟨cls_Scene, na_Scene_calls, cls_Call, na_Call_worth, n_sorted⟩
  have c_rank : CalB l.prog w K mg base CS 1 "rank" ["self", "name"] (spRank K CS CC) := ⟨_, _, B_Scene_rank, b_Scene_rank, ok_rank F_Scene_rank TO⟩
  have c_order : CalM l.prog w K mg base CS 4 "order" ["self"] (spOrder K CS CC) := ⟨_, _, M_Scene_order, b_Scene_order, ok_order F_Scene_order TO c_rank⟩
  have TP : TxP K mg CK := ⟨cls_Seats, na_Seats_seated, n_tuple, n_sorted⟩
  have c_paper : CalM l.prog w K mg base CK 3 "paper" ["self", "name"] (spPaper K CK CS CC) := ⟨_, _, M_Seats_paper, b_Seats_paper, ok_paper F_Seats_paper TP c_way⟩
  have TT : TxT K mg CT CK CS := ⟨cls_Kept, na_Kept_lot, na_Kept_seating, na_Kept_papers, cls_Seats, na_Seats_seating, cls_Scene, n_tuple, n_sorted⟩
  have c_Kept : CalI l.prog w K mg base CT 5 "Kept" ["self", "scene"] (spTInit K CT CS CC) := ⟨_, _, g_Kept, Mk_Kept, b_Kept_init, ok_tinit F_Kept_init TT c_Seats c_order c_add c_paper⟩
  have c_kept : Cal l.prog w K mg base 7 "kept" ["scene"] (spKept K CS CC) := ⟨_, _, g_kept, F_kept.kp, b_kept, ok_kept F_kept TT c_Kept⟩
  have c_lots : Cal l.prog w K mg base 1 "_law_lots" ["names"] (spLots K) := ⟨_, _, g_law_lots, F_law_lots.kp, b_law_lots, ok_lots F_law_lots⟩
  have c_sg : Cal l.prog w K mg base 1 "_law_seatings" ["scene", "names"] (spSgs K CS CC) := ⟨_, _, g_law_seatings, F_law_seatings.kp, b_law_seatings, ok_sgs F_law_seatings TK n_dict⟩
  have TBe : TxB K mg CS CC := ⟨cls_Scene, na_Scene_calls, cls_Call, na_Call_worth, n_sorted, n_int⟩
  have c_best : Cal l.prog w K mg base 4 "_law_best" ["scene"] (spBest K CS CC [(tp_law_best, fun _ _ => "_law_best.<locals>.<lambda>")]) := ⟨_, _, g_law_best, F_law_best.kp, b_law_best, ok_best F_law_best cc_law_best tb_law_best TBe c_lots c_sg⟩
  have c_lots8 : Cal l.prog w K mg base 1 "_law_lots" ["names"] (spLots8 K) := ⟨_, _, g_law_lots, F_law_lots.kp, b_law_lots, ok_lots8 F_law_lots⟩
  have TQ : TxEq K mg CS := ⟨cls_Scene, na_Scene_channels, na_Scene_calls, n_isinstance, g_Scene, ca_Scene, cg_Scene, ct_Scene, ob_Scene⟩
  have TCe : TxCe K mg CC := ⟨cls_Call, na_Call_worth, na_Call_heard, n_isinstance, g_Call, ca_Call, cg_Call, ct_Call, ob_Call⟩
  have TE8 : TxE8 K CC _ _ := ⟨a_Call_eq, i_Call_eq, b_Call_eq⟩
  have TWo : TxWo K mg CS CC := ⟨cls_Scene, na_Scene_channels, na_Scene_calls, cls_Call, na_Call_worth, na_Call_heard, n_len⟩
  have cB : CalBd l.prog w K mg base CB "name" := ⟨_, _, a_BadName_init, i_BadName_init, b_BadName_init, ok_badI F_BadName_init O_BadName na_BadName_name scBadI fun _ _ _ _ _ _ _ => pss_one (ps_ostB (pv 0) (pv 1))⟩
  have c_wo : Cal l.prog w K mg base 6 "without" ["scene", "masts"] (spWithout K CS CC) := ⟨_, _, g_without, F_without.kp, b_without, ok_without F_without TWo c_Call c_Scene⟩
  have c_lost : Cal l.prog w K mg base 8 "lost_calls" ["scene"] (spLost K CS CC) := ⟨_, _, g_lost_calls, F_lost_calls.kp, b_lost_calls, ok_lost F_lost_calls TWo c_kept⟩
  have TLu : TxLu mg := ⟨n_sorted, n_range, n_min, n_len, n_list, g_combinations⟩
  have c_lup : Cal l.prog w K mg base 1 "lots_up_to" ["names", "most"] (spLup K) := ⟨_, _, g_lots_up_to, F_lots_up_to.kp, b_lots_up_to, ok_lup F_lots_up_to TLu⟩
  have c_worst : Cal l.prog w K mg base 9 "worst_falls" ["scene", "most"] (spWorst K CS CC) := ⟨_, _, g_worst_falls, F_worst_falls.kp, b_worst_falls, ok_worst F_worst_falls TWo c_num c_lost c_wo c_lup⟩
  have c_worstX : CalX l.prog w K mg base 4 "worst_falls" ["scene", "most"] (spWorstX CS CB) := ⟨_, _, g_worst_falls, F_worst_falls.kp, b_worst_falls, ok_worstX F_worst_falls TWo O_BadName g_BadName c_num cB⟩
  have c_sure : Cal l.prog w K mg base 9 "sure_calls" ["scene", "most"] (spSure K CS CC) := ⟨_, _, g_sure_calls, F_sure_calls.kp, b_sure_calls, ok_sure F_sure_calls TWo n_list n_tuple c_kept c_wo c_lup⟩
  have TL : TxL K mg CS CC CB _ _ := ⟨cls_Scene, na_Scene_channels, na_Scene_calls, cls_Call, na_Call_worth, na_Call_heard, n_len, n_dict, n_max, n_all, n_list, n_tuple, n_sorted, g_BadName, xf_BadName, na_BadName_name, te_BadName, a_Scene_eq, ne_Scene, ob_Scene, i_Scene_eq, b_Scene_eq⟩
  exact ok_law F_law TL (ok_seq8 F_Scene_eq TQ TE8 (ok_ceq F_Call_eq TCe)) c_ls c_take c_lots8 c_Call c_Scene c_wo c_best c_worst c_sure c_worstX
theorem walk {l : PySem.W.OpenLaw} {q : Program} {loose : List PySem.Str} {XP : (PySem.Str → Option Value) → Heap → Prop} {YP : World → Heap → Prop} {d : DefRec} {K : Params → PySem.W.Frag} (hn : l.most = some 63) (hdf : d.params.defaults = [])
    (hY : ∀ (w : World) (h : Heap), YP w h → (K w.params).In h)
    (F : ∀ (w : World) (mg : PySem.Str → Option Value) (fa : Addr) (h : Heap), YP w h → (K w.params).In h → h.Ns mainGlobals mg → mg d.name = some (.ref fa) → LamX.LawAtS l w (K w.params) CX0 10 63 "script" mg fa h) :
    PySem.W.WalkO q loose XP YP l.row.toRowW d [] (fun f vs => PySem.call f vs) :=
  LamX.walk_ofTs (n := 63) (k := 10) (x := "script") (CX := fun _ => CX0) hn (by decide) hdf ⟨rfl, by decide, by decide⟩ hY F fun _ _ _ _ _ z => z
end Mc
open PySem PySem.W PyProof.Rows
set_option maxRecDepth 100000 in
set_option maxHeartbeats 0 in
theorem PySem.Challenge.cw_mastcalls_k08_whole_falls_holds : PySem.Challenge.rw_mastcalls_k08_whole_falls.Holds := by
  w_on; o_law; k_head; (case hw => w_witness2)
  k_fill
  refine Mc.walk (l := PySem.Challenge.rw_mastcalls_k08_whole_falls) rfl rfl (fun w h Y => PySem.W.km_in_of Y) ?F
  case F =>
    intro w mg fa h Y KX G hmg
    refine' Mc.all_mk KX G hmg ?a_Seats ?a_Seats_init ?i_Seats_init ?l_Seats_init ?c_Seats_init ?k_Seats_init ?a_Seats_has_room ?i_Seats_has_room ?l_Seats_has_room ?c_Seats_has_room ?k_Seats_has_room ?a_Seats_add ?i_Seats_add ?l_Seats_add ?c_Seats_add ?k_Seats_add ?a_Seats_way_for ?i_Seats_way_for ?l_Seats_way_for ?c_Seats_way_for ?k_Seats_way_for ?a_Seats_lead ?i_Seats_lead ?l_Seats_lead ?c_Seats_lead ?k_Seats_lead ?a_Seats_put ?i_Seats_put ?l_Seats_put ?c_Seats_put ?k_Seats_put ?a_Seats_paper ?i_Seats_paper ?l_Seats_paper ?c_Seats_paper ?k_Seats_paper ?pg_Seats ?hd_Seats ?po_Seats ?sa_Seats ?mk_Seats ?kc_Seats ?na_Seats_scene ?na_Seats_seating ?na_Seats_seated ?a_Call ?a_Call_init ?i_Call_init ?l_Call_init ?c_Call_init ?k_Call_init ?a_Call_eq ?i_Call_eq ?l_Call_eq ?c_Call_eq ?k_Call_eq ?pg_Call ?hd_Call ?po_Call ?sa_Call ?mk_Call ?kc_Call ?ne_Call ?ob_Call ?ca_Call ?cg_Call ?ct_Call ?na_Call_worth ?na_Call_heard ?a_Scene ?a_Scene_init ?i_Scene_init ?l_Scene_init ?c_Scene_init ?k_Scene_init ?a_Scene_eq ?i_Scene_eq ?l_Scene_eq ?c_Scene_eq ?k_Scene_eq ?a_Scene_order ?i_Scene_order ?l_Scene_order ?c_Scene_order ?k_Scene_order ?a_Scene_rank ?i_Scene_rank ?l_Scene_rank ?c_Scene_rank ?k_Scene_rank ?pg_Scene ?hd_Scene ?po_Scene ?sa_Scene ?mk_Scene ?kc_Scene ?bg_Scene_rank ?bt_Scene_rank ?bf_Scene_rank ?ne_Scene ?ob_Scene ?ca_Scene ?cg_Scene ?ct_Scene ?na_Scene_channels ?na_Scene_calls ?a_Kept ?a_Kept_init ?i_Kept_init ?l_Kept_init ?c_Kept_init ?k_Kept_init ?pg_Kept ?hd_Kept ?po_Kept ?sa_Kept ?mk_Kept ?kc_Kept ?na_Kept_lot ?na_Kept_seating ?na_Kept_papers ?a_BadName ?a_BadName_init ?i_BadName_init ?l_BadName_init ?c_BadName_init ?k_BadName_init ?xi_BadName ?xo_BadName ?hd_BadName ?sa_BadName ?sb_BadName ?ty_BadName ?kc_BadName ?ga_BadName ?gg_BadName ?ic_BadName ?ss_BadName ?na_BadName_name ?a_is_number ?l_is_number ?c_is_number ?k_is_number ?a_has_key ?l_has_key ?c_has_key ?k_has_key ?a_put_in_order ?l_put_in_order ?c_put_in_order ?k_put_in_order ?a_is_name ?l_is_name ?c_is_name ?k_is_name ?a_check_mast ?l_check_mast ?c_check_mast ?k_check_mast ?a_check_heard ?l_check_heard ?c_check_heard ?k_check_heard ?a_check_call ?l_check_call ?c_check_call ?k_check_call ?a_law_number ?l_law_number ?c_law_number ?k_law_number ?a_law_take ?l_law_take ?c_law_take ?k_law_take ?a_law_pick ?l_law_pick ?c_law_pick ?k_law_pick ?a_law_masts ?l_law_masts ?c_law_masts ?k_law_masts ?a_law_heard ?l_law_heard ?c_law_heard ?k_law_heard ?a_law_scene ?l_law_scene ?c_law_scene ?k_law_scene ?a_kept ?l_kept ?c_kept ?k_kept ?a_law_lots ?l_law_lots ?c_law_lots ?k_law_lots ?a_law_seatings ?l_law_seatings ?c_law_seatings ?k_law_seatings ?a_law_best ?l_law_best ?c_law_best ?k_law_best ?a_without ?l_without ?c_without ?k_without ?a_lost_calls ?l_lost_calls ?c_lost_calls ?k_lost_calls ?a_lots_up_to ?l_lots_up_to ?c_lots_up_to ?k_lots_up_to ?a_worst_falls ?l_worst_falls ?c_worst_falls ?k_worst_falls ?a_sure_calls ?l_sure_calls ?c_sure_calls ?k_sure_calls ?a_law ?l_law ?c_law ?k_law ?a_SMALL_LETTERS ?a_FIGURES ?a_LONGEST_NAME ?a_LIMIT ?a_combinations ?z_abs ?z_all ?z_any ?z_bool ?z_dict ?z_int ?z_isinstance ?z_len ?z_list ?z_max ?z_min ?z_range ?z_set ?z_sorted ?z_str ?z_sum ?z_tuple ?ht_law_best ?cc_law_best ?ch_law_best ?np_law_best
    (case a_Seats => k_is)
    (case a_Seats_init => k_is)
    (case i_Seats_init => k_is)
    (case l_Seats_init => k_is)
    (case c_Seats_init => k_is)
    (case k_Seats_init => k_is)
    (case a_Seats_has_room => k_is)
    (case i_Seats_has_room => k_is)
    (case l_Seats_has_room => k_is)
    (case c_Seats_has_room => k_is)
    (case k_Seats_has_room => k_is)
    (case a_Seats_add => k_is)
    (case i_Seats_add => k_is)
    (case l_Seats_add => k_is)
    (case c_Seats_add => k_is)
    (case k_Seats_add => k_is)
    (case a_Seats_way_for => k_is)
    (case i_Seats_way_for => k_is)
    (case l_Seats_way_for => k_is)
    (case c_Seats_way_for => k_is)
    (case k_Seats_way_for => k_is)
    (case a_Seats_lead => k_is)
    (case i_Seats_lead => k_is)
    (case l_Seats_lead => k_is)
    (case c_Seats_lead => k_is)
    (case k_Seats_lead => k_is)
    (case a_Seats_put => k_is)
    (case i_Seats_put => k_is)
    (case l_Seats_put => k_is)
    (case c_Seats_put => k_is)
    (case k_Seats_put => k_is)
    (case a_Seats_paper => k_is)
    (case i_Seats_paper => k_is)
    (case l_Seats_paper => k_is)
    (case c_Seats_paper => k_is)
    (case k_Seats_paper => k_is)
    (case pg_Seats => k_is)
    (case hd_Seats => k_is)
    (case po_Seats => k_is)
    (case sa_Seats => k_is)
    (case mk_Seats => k_is)
    (case kc_Seats => k_is)
    (case na_Seats_scene => k_is)
    (case na_Seats_seating => k_is)
    (case na_Seats_seated => k_is)
    (case a_Call => k_is)
    (case a_Call_init => k_is)
    (case i_Call_init => k_is)
    (case l_Call_init => k_is)
    (case c_Call_init => k_is)
    (case k_Call_init => k_is)
    (case a_Call_eq => k_is)
    (case i_Call_eq => k_is)
    (case l_Call_eq => k_is)
    (case c_Call_eq => k_is)
    (case k_Call_eq => k_is)
    (case pg_Call => k_is)
    (case hd_Call => k_is)
    (case po_Call => k_is)
    (case sa_Call => k_is)
    (case mk_Call => k_is)
    (case kc_Call => k_is)
    (case ne_Call => first | k_is | rfl | decide +kernel)
    (case ob_Call => first | k_is | rfl | decide +kernel)
    (case ca_Call => first | k_is | rfl | decide +kernel)
    (case cg_Call => first | k_is | rfl | decide +kernel)
    (case ct_Call => first | k_is | rfl | decide +kernel)
    (case na_Call_worth => k_is)
    (case na_Call_heard => k_is)
    (case a_Scene => k_is)
    (case a_Scene_init => k_is)
    (case i_Scene_init => k_is)
    (case l_Scene_init => k_is)
    (case c_Scene_init => k_is)
    (case k_Scene_init => k_is)
    (case a_Scene_eq => k_is)
    (case i_Scene_eq => k_is)
    (case l_Scene_eq => k_is)
    (case c_Scene_eq => k_is)
    (case k_Scene_eq => k_is)
    (case a_Scene_order => k_is)
    (case i_Scene_order => k_is)
    (case l_Scene_order => k_is)
    (case c_Scene_order => k_is)
    (case k_Scene_order => k_is)
    (case a_Scene_rank => k_is)
    (case i_Scene_rank => k_is)
    (case l_Scene_rank => k_is)
    (case c_Scene_rank => k_is)
    (case k_Scene_rank => k_is)
    (case pg_Scene => k_is)
    (case hd_Scene => k_is)
    (case po_Scene => k_is)
    (case sa_Scene => k_is)
    (case mk_Scene => k_is)
    (case kc_Scene => k_is)
    (case bg_Scene_rank => first | k_is | rfl | decide +kernel)
    (case bt_Scene_rank => first | k_is | rfl | decide +kernel)
    (case bf_Scene_rank => first | k_is | rfl | decide +kernel)
    (case ne_Scene => first | k_is | rfl | decide +kernel)
    (case ob_Scene => first | k_is | rfl | decide +kernel)
    (case ca_Scene => first | k_is | rfl | decide +kernel)
    (case cg_Scene => first | k_is | rfl | decide +kernel)
    (case ct_Scene => first | k_is | rfl | decide +kernel)
    (case na_Scene_channels => k_is)
    (case na_Scene_calls => k_is)
    (case a_Kept => k_is)
    (case a_Kept_init => k_is)
    (case i_Kept_init => k_is)
    (case l_Kept_init => k_is)
    (case c_Kept_init => k_is)
    (case k_Kept_init => k_is)
    (case pg_Kept => k_is)
    (case hd_Kept => k_is)
    (case po_Kept => k_is)
    (case sa_Kept => k_is)
    (case mk_Kept => k_is)
    (case kc_Kept => k_is)
    (case na_Kept_lot => k_is)
    (case na_Kept_seating => k_is)
    (case na_Kept_papers => k_is)
    (case a_BadName => k_is)
    (case a_BadName_init => k_is)
    (case i_BadName_init => k_is)
    (case l_BadName_init => k_is)
    (case c_BadName_init => k_is)
    (case k_BadName_init => k_is)
    (case xi_BadName => first | k_is | rfl | decide +kernel)
    (case xo_BadName => first | k_is | rfl | decide +kernel)
    (case hd_BadName => k_is)
    (case sa_BadName => k_is)
    (case sb_BadName => k_is)
    (case ty_BadName => k_is)
    (case kc_BadName => k_is)
    (case ga_BadName => k_is)
    (case gg_BadName => k_is)
    (case ic_BadName => k_is)
    (case ss_BadName => first | rfl | k_is)
    (case na_BadName_name => k_is)
    (case a_is_number => k_is)
    (case l_is_number => k_is)
    (case c_is_number => k_is)
    (case k_is_number => k_is)
    (case a_has_key => k_is)
    (case l_has_key => k_is)
    (case c_has_key => k_is)
    (case k_has_key => k_is)
    (case a_put_in_order => k_is)
    (case l_put_in_order => k_is)
    (case c_put_in_order => k_is)
    (case k_put_in_order => k_is)
    (case a_is_name => k_is)
    (case l_is_name => k_is)
    (case c_is_name => k_is)
    (case k_is_name => k_is)
    (case a_check_mast => k_is)
    (case l_check_mast => k_is)
    (case c_check_mast => k_is)
    (case k_check_mast => k_is)
    (case a_check_heard => k_is)
    (case l_check_heard => k_is)
    (case c_check_heard => k_is)
    (case k_check_heard => k_is)
    (case a_check_call => k_is)
    (case l_check_call => k_is)
    (case c_check_call => k_is)
    (case k_check_call => k_is)
    (case a_law_number => k_is)
    (case l_law_number => k_is)
    (case c_law_number => k_is)
    (case k_law_number => k_is)
    (case a_law_take => k_is)
    (case l_law_take => k_is)
    (case c_law_take => k_is)
    (case k_law_take => k_is)
    (case a_law_pick => k_is)
    (case l_law_pick => k_is)
    (case c_law_pick => k_is)
    (case k_law_pick => k_is)
    (case a_law_masts => k_is)
    (case l_law_masts => k_is)
    (case c_law_masts => k_is)
    (case k_law_masts => k_is)
    (case a_law_heard => k_is)
    (case l_law_heard => k_is)
    (case c_law_heard => k_is)
    (case k_law_heard => k_is)
    (case a_law_scene => k_is)
    (case l_law_scene => k_is)
    (case c_law_scene => k_is)
    (case k_law_scene => k_is)
    (case a_kept => k_is)
    (case l_kept => k_is)
    (case c_kept => k_is)
    (case k_kept => k_is)
    (case a_law_lots => k_is)
    (case l_law_lots => k_is)
    (case c_law_lots => k_is)
    (case k_law_lots => k_is)
    (case a_law_seatings => k_is)
    (case l_law_seatings => k_is)
    (case c_law_seatings => k_is)
    (case k_law_seatings => k_is)
    (case a_law_best => k_is)
    (case l_law_best => k_is)
    (case c_law_best => k_is)
    (case k_law_best => k_is)
    (case a_without => k_is)
    (case l_without => k_is)
    (case c_without => k_is)
    (case k_without => k_is)
    (case a_lost_calls => k_is)
    (case l_lost_calls => k_is)
    (case c_lost_calls => k_is)
    (case k_lost_calls => k_is)
    (case a_lots_up_to => k_is)
    (case l_lots_up_to => k_is)
    (case c_lots_up_to => k_is)
    (case k_lots_up_to => k_is)
    (case a_worst_falls => k_is)
    (case l_worst_falls => k_is)
    (case c_worst_falls => k_is)
    (case k_worst_falls => k_is)
    (case a_sure_calls => k_is)
    (case l_sure_calls => k_is)
    (case c_sure_calls => k_is)
    (case k_sure_calls => k_is)
    (case a_law => k_is)
    (case l_law => k_is)
    (case c_law => k_is)
    (case k_law => k_is)
    (case a_SMALL_LETTERS => k_is)
    (case a_FIGURES => k_is)
    (case a_LONGEST_NAME => k_is)
    (case a_LIMIT => k_is)
    (case a_combinations => k_is)
    (case z_abs => k_is)
    (case z_all => k_is)
    (case z_any => k_is)
    (case z_bool => k_is)
    (case z_dict => k_is)
    (case z_int => k_is)
    (case z_isinstance => k_is)
    (case z_len => k_is)
    (case z_list => k_is)
    (case z_max => k_is)
    (case z_min => k_is)
    (case z_range => k_is)
    (case z_set => k_is)
    (case z_sorted => k_is)
    (case z_str => k_is)
    (case z_sum => k_is)
    (case z_tuple => k_is)
    (case ht_law_best => exact PySem.W.km_tabs_of Y _ (by first | exact List.mem_cons_self | exact List.mem_cons_of_mem _ List.mem_cons_self))
    (case cc_law_best => rfl)
    (case ch_law_best => kernel_rfl)
    (case np_law_best => kernel_rfl)
