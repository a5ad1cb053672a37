import PyProof.Rows.All
import Wide.All
import OpenK.AllK
import Wide.FinOn
import HandS.ForMost
import HandS.Wide
import HandS.IsInst
import HandS.Codes
import HandS.More
import HandS.DictComp
import HandS.Star
import HandS.CallLocal
import HandS.SortKw
import HandS.Set
import HandS.SetBool
import HandS.SetKeys
import HandS.Deep
import HandS.Iter
import HandS.SortInts
import HandS.Sort
import HandS.TupAny
import HandS.Strs
import KE.LtSeq
import KE.LtData
import KE.KSortTup
import KE.DataCmp
import KE.KMinKey
import KE.DataMinKey
import KE.DataMinMax
import KE.KDictKeyed
import KE.KTupTabMore
import HandS.DictTup
import HandS.TupLen
import HandS.TupMul
import PyProof.ReprRoads
import PyProof.ReprBulk
import PySem.Challenge.RW_lineworks_k64_candidates_of_tables
set_option Elab.async false
set_option linter.all false
set_option maxRecDepth 100000
namespace Lw
open PySem PySem.Spec PyProof.Rows L2
def topS (i : Nat) : Stmt := PySem.Challenge.pw_lineworks_k64_candidates_of_tables.main.body.getD i (.Pass ⟨0, 0, 0, 0⟩)
abbrev s__wall : Stmt := topS 0
abbrev s_Diagrams___init__ : Stmt := inClass (topS 5) 0
abbrev N_Diagrams___init__ : List Str := ["self"]
theorem sc_Diagrams___init__ : FnScope N_Diagrams___init__ ["self"] (defScope s_Diagrams___init__) := ⟨rfl, rfl, rfl, by decide +kernel, rfl, by decide +kernel, by decide +kernel⟩
abbrev s_Diagrams_there : Stmt := inClass (topS 5) 1
abbrev N_Diagrams_there : List Str := ["self", "entry"]
theorem sc_Diagrams_there : FnScope N_Diagrams_there ["self", "entry"] (defScope s_Diagrams_there) := ⟨rfl, rfl, rfl, by decide +kernel, rfl, by decide +kernel, by decide +kernel⟩
abbrev s_Diagrams_conjunction : Stmt := inClass (topS 5) 2
abbrev s_Diagrams_disjunction : Stmt := inClass (topS 5) 3
abbrev N_Diagrams_disjunction : List Str := ["self", "first", "second"]
theorem sc_Diagrams_disjunction : FnScope N_Diagrams_disjunction ["self", "first", "second"] (defScope s_Diagrams_disjunction) := ⟨rfl, rfl, rfl, by decide +kernel, rfl, by decide +kernel, by decide +kernel⟩
abbrev s_Diagrams_negation : Stmt := inClass (topS 5) 4
abbrev s_Diagrams_differs : Stmt := inClass (topS 5) 5
abbrev s_Diagrams_restrict : Stmt := inClass (topS 5) 6
abbrev s_Diagrams_holds : Stmt := inClass (topS 5) 7
abbrev N_Diagrams_holds : List Str := ["self", "condition", "present", "left", "entry", "without", "there"]
theorem sc_Diagrams_holds : FnScope N_Diagrams_holds ["self", "condition", "present"] (defScope s_Diagrams_holds) := ⟨rfl, rfl, rfl, by decide +kernel, rfl, by decide +kernel, by decide +kernel⟩
abbrev s_Diagrams_depends : Stmt := inClass (topS 5) 8
abbrev s_Diagrams_size : Stmt := inClass (topS 5) 9
abbrev s_Diagrams_implies : Stmt := inClass (topS 5) 10
abbrev s_Diagrams_helps : Stmt := inClass (topS 5) 11
abbrev s_Diagrams_hurts : Stmt := inClass (topS 5) 12
abbrev s_Diagrams_ways : Stmt := inClass (topS 5) 13
abbrev s_Diagrams_first_set : Stmt := inClass (topS 5) 14
abbrev s_Diagrams_table : Stmt := inClass (topS 5) 15
abbrev s_Diagrams_listed : Stmt := inClass (topS 5) 16
abbrev s_Diagrams_top : Stmt := inClass (topS 5) 17
abbrev N_Diagrams_top : List Str := ["self", "conditions", "condition"]
theorem sc_Diagrams_top : FnScope N_Diagrams_top ["self", "conditions"] (defScope s_Diagrams_top) := ⟨rfl, rfl, rfl, by decide +kernel, rfl, by decide +kernel, by decide +kernel⟩
abbrev s_Diagrams_branches : Stmt := inClass (topS 5) 18
abbrev N_Diagrams_branches : List Str := ["self", "condition", "entry", "asked", "without", "there"]
theorem sc_Diagrams_branches : FnScope N_Diagrams_branches ["self", "condition", "entry"] (defScope s_Diagrams_branches) := ⟨rfl, rfl, rfl, by decide +kernel, rfl, by decide +kernel, by decide +kernel⟩
abbrev s_Diagrams_node_of : Stmt := inClass (topS 5) 19
abbrev N_Diagrams_node_of : List Str := ["self", "condition"]
theorem sc_Diagrams_node_of : FnScope N_Diagrams_node_of ["self", "condition"] (defScope s_Diagrams_node_of) := ⟨rfl, rfl, rfl, by decide +kernel, rfl, by decide +kernel, by decide +kernel⟩
abbrev s_Diagrams_node : Stmt := inClass (topS 5) 20
abbrev N_Diagrams_node : List Str := ["self", "entry", "without", "there", "made"]
theorem sc_Diagrams_node : FnScope N_Diagrams_node ["self", "entry", "without", "there"] (defScope s_Diagrams_node) := ⟨rfl, rfl, rfl, by decide +kernel, rfl, by decide +kernel, by decide +kernel⟩
abbrev s_Diagrams_combine : Stmt := inClass (topS 5) 21
abbrev N_Diagrams_combine : List Str := ["self", "condition", "first", "second", "asked", "entry", "without", "there", "first_without", "first_there", "second_without", "second_there"]
theorem sc_Diagrams_combine : FnScope N_Diagrams_combine ["self", "condition", "first", "second"] (defScope s_Diagrams_combine) := ⟨rfl, rfl, rfl, by decide +kernel, rfl, by decide +kernel, by decide +kernel⟩
abbrev s_value_key : Stmt := topS 7
abbrev N_value_key : List Str := ["value"]
theorem sc_value_key : FnScope N_value_key ["value"] (defScope s_value_key) := ⟨rfl, rfl, rfl, by decide +kernel, rfl, by decide +kernel, by decide +kernel⟩
abbrev s_row_key : Stmt := topS 8
abbrev N_row_key : List Str := ["row", "value"]
theorem sc_row_key : FnScope N_row_key ["row"] (defScope s_row_key) := ⟨rfl, rfl, rfl, by decide +kernel, rfl, by decide +kernel, by decide +kernel⟩
abbrev s_entry_candidates : Stmt := topS 10
abbrev N_entry_candidates : List Str := ["store", "entries", "table", "conditions", "number", "at", "row"]
theorem sc_entry_candidates : FnScope N_entry_candidates ["store", "entries", "table"] (defScope s_entry_candidates) := ⟨rfl, rfl, rfl, by decide +kernel, rfl, by decide +kernel, by decide +kernel⟩
abbrev s_condition_of : Stmt := topS 11
abbrev N_condition_of : List Str := ["candidates", "row", "other", "condition"]
theorem sc_condition_of : FnScope N_condition_of ["candidates", "row"] (defScope s_condition_of) := ⟨rfl, rfl, rfl, by decide +kernel, rfl, by decide +kernel, by decide +kernel⟩
abbrev s_candidate_key : Stmt := topS 12
abbrev N_candidate_key : List Str := ["candidate", "row", "_"]
theorem sc_candidate_key : FnScope N_candidate_key ["candidate"] (defScope s_candidate_key) := ⟨rfl, rfl, rfl, by decide +kernel, rfl, by decide +kernel, by decide +kernel⟩
abbrev s_in_row_order : Stmt := topS 13
abbrev N_in_row_order : List Str := ["found"]
theorem sc_in_row_order : FnScope N_in_row_order ["found"] (defScope s_in_row_order) := ⟨rfl, rfl, rfl, by decide +kernel, rfl, by decide +kernel, by decide +kernel⟩
abbrev s__law_draw : Stmt := topS 15
abbrev N__law_draw : List Str := ["script"]
theorem sc__law_draw : FnScope N__law_draw ["script"] (defScope s__law_draw) := ⟨rfl, rfl, rfl, by decide +kernel, rfl, by decide +kernel, by decide +kernel⟩
abbrev s__law_next : Stmt := topS 16
abbrev N__law_next : List Str := ["draw", "many", "found", "cell"]
theorem sc__law_next : FnScope N__law_next ["draw", "many"] (defScope s__law_next) := ⟨rfl, rfl, rfl, by decide +kernel, rfl, by decide +kernel, by decide +kernel⟩
abbrev s__law_same : Stmt := topS 17
abbrev N__law_same : List Str := ["actual", "due", "k"]
theorem sc__law_same : FnScope N__law_same ["actual", "due"] (defScope s__law_same) := ⟨rfl, rfl, rfl, by decide +kernel, rfl, by decide +kernel, by decide +kernel⟩
abbrev s__law_cell : Stmt := topS 18
abbrev N__law_cell : List Str := ["draw", "form"]
theorem sc__law_cell : FnScope N__law_cell ["draw"] (defScope s__law_cell) := ⟨rfl, rfl, rfl, by decide +kernel, rfl, by decide +kernel, by decide +kernel⟩
abbrev s__law_key : Stmt := topS 19
abbrev N__law_key : List Str := ["value"]
theorem sc__law_key : FnScope N__law_key ["value"] (defScope s__law_key) := ⟨rfl, rfl, rfl, by decide +kernel, rfl, by decide +kernel, by decide +kernel⟩
abbrev s__law_row_key : Stmt := topS 20
abbrev N__law_row_key : List Str := ["row", "value"]
theorem sc__law_row_key : FnScope N__law_row_key ["row"] (defScope s__law_row_key) := ⟨rfl, rfl, rfl, by decide +kernel, rfl, by decide +kernel, by decide +kernel⟩
abbrev s__law_distinct : Stmt := topS 21
abbrev N__law_distinct : List Str := ["rows", "found", "row"]
theorem sc__law_distinct : FnScope N__law_distinct ["rows"] (defScope s__law_distinct) := ⟨rfl, rfl, rfl, by decide +kernel, rfl, by decide +kernel, by decide +kernel⟩
abbrev s__law_ordered : Stmt := topS 22
abbrev N__law_ordered : List Str := ["rows"]
theorem sc__law_ordered : FnScope N__law_ordered ["rows"] (defScope s__law_ordered) := ⟨rfl, rfl, rfl, by decide +kernel, rfl, by decide +kernel, by decide +kernel⟩
abbrev s__law_expression : Stmt := topS 23
abbrev s__law_known : Stmt := topS 24
abbrev s__law_bounded : Stmt := topS 25
abbrev s__law_arithmetic : Stmt := topS 26
abbrev s__law_logic : Stmt := topS 27
abbrev s__law_single : Stmt := topS 28
abbrev s__law_due : Stmt := topS 29
abbrev s__law_holds : Stmt := topS 30
abbrev s__law_total : Stmt := topS 31
abbrev s__law_form : Stmt := topS 32
abbrev s__law_subsets : Stmt := topS 33
abbrev N__law_subsets : List Str := ["entries", "found", "entry", "part"]
theorem sc__law_subsets : FnScope N__law_subsets ["entries"] (defScope s__law_subsets) := ⟨rfl, rfl, rfl, by decide +kernel, rfl, by decide +kernel, by decide +kernel⟩
abbrev s__law_inputs : Stmt := topS 34
abbrev N__law_inputs : List Str := ["draw", "widths", "most", "entries", "number", "k", "table", "j"]
theorem sc__law_inputs : FnScope N__law_inputs ["draw", "widths", "most"] (defScope s__law_inputs) := ⟨rfl, rfl, rfl, by decide +kernel, rfl, by decide +kernel, by decide +kernel⟩
abbrev s_law : Stmt := topS 35
abbrev N_law : List Str := ["script", "draw", "widths", "entries", "number", "table", "row", "store", "kept", "mine", "due", "found", "condition", "part", "held", "k", "entry", "place", "pair", "other"]
theorem sc_law : FnScope N_law ["script"] (defScope s_law) := ⟨rfl, rfl, rfl, by decide +kernel, rfl, by decide +kernel, by decide +kernel⟩
/-! ### heaps and calls -/
theorem same_upd {H : Hp} {p : Addr} {o : HO} (h : H p = none) : Same H (upd H p o) := fun b x e => by
  rw [upd_ne (ne_of_none e h)]
  exact e
/-- what stood stands, but for the object at d -/
def Fd (d : Addr) (H H' : Hp) : Prop := ∀ b o, b ≠ d → H b = some o → H' b = some o
theorem Fd.refl (d : Addr) (H : Hp) : Fd d H H := fun _ _ _ e => e
theorem Fd.trans {d : Addr} {H H1 H2 : Hp} (a : Fd d H H1) (b : Fd d H1 H2) : Fd d H H2 := fun c o n e => b c o n (a c o n e)
theorem Fd.of {d : Addr} {H H' : Hp} (a : Same H H') : Fd d H H' := fun b o _ e => a b o e
theorem Fd.new {d : Addr} {H : Hp} {p : Addr} {o : HO} (h : H p = none) : Fd d H (upd H p o) := Fd.of (same_upd h)
theorem Fd.at {d : Addr} {H : Hp} {o : HO} : Fd d H (upd H d o) := fun b x n e => by
  rw [upd_ne n]
  exact e
/-- a def that may be called by its name -/
structure Cl (P : Program) (w : World) (K : PySem.W.Frag) (mg : Str → Option Value) (base : Heap) (k : Nat) (x : Str) (sp : Sp) : Prop where
  ex : ∃ (f : Addr) (fd : FuncData) (ps : List Str), FnOk P w K mg base CX0 k f fd ps sp ∧ mg x = some (.ref f) ∧ PySem.W.keepIn K (.ref f) = true ∧ Binds K fd ps []
section
variable {X : Cx} {k j : Nat} {x : Str} {sp : Sp} {p pos : Pos} {e : Expr} {es : List Expr} {t : TA}
theorem pe_u (c : Cl X.prog X.w X.K X.mg X.base k x sp) (hr : Room j X.A) (hk : k ≤ j) (hg : Gl X x) (ha : PA X (e :: es) t)
    (hdb : (x == ("__debug__" : Str)) = false := by decide) (he : starEach (e :: es) X.env = (false, eval e X.env) :: starEach es X.env := by rfl) (hpl : (backTo pos (starEach es X.env)).any (·.1) = false := by rfl) :
    PE X (.Call (.Name x p) (e :: es) [] pos) (tCall sp [] E0 t) := by
  obtain ⟨f, fd, ps, F, hm, kp, b⟩ := c.ex
  exact pe_call F (hr.mono hk) hg hm kp b .nil pass0 ha hdb he hpl
theorem pe_u0 (c : Cl X.prog X.w X.K X.mg X.base k x sp) (hr : Room j X.A) (hk : k ≤ j) (hg : Gl X x) (hdb : (x == ("__debug__" : Str)) = false := by decide) : PE X (.Call (.Name x p) [] [] pos) (tCall sp [] E0 tNil) := by
  obtain ⟨f, fd, ps, F, hm, kp, b⟩ := c.ex
  exact pe_call0 F (hr.mono hk) hg hm kp b .nil pass0 hdb
end
theorem FnOk.cl {P : Program} {w : World} {K : PySem.W.Frag} {mg : Str → Option Value} {base : Heap} {k : Nat} {x q : Str} {st : Stmt} {f : Addr} {fd : FuncData} {ps : List Str} {sp : Sp} (h : FnOk P w K mg base CX0 k f fd ps sp) (F : Fun K x q st f fd) (g : mg x = some (.ref f)) (b : Binds K fd ps []) : Cl P w K mg base k x sp := ⟨f, fd, ps, h, g, F.kp, b⟩
/-! ### rules with the written part named (within a comprehension) -/
section
variable {X : Cx} (K : PySem.W.Frag)
theorem ix_listK (h : X.K = K := by rfl) : IxR X (rIxL K) := by subst h; exact ix_list
theorem ix_tupK (h : X.K = K := by rfl) : IxR X (rIxT K) := by subst h; exact ix_tup
theorem ix_seqK (h : X.K = K := by rfl) : IxR X (rIx K) := by subst h; exact ix_seq
theorem len_seqK (h : X.K = K := by rfl) : CallR X (.builtin "len") (fun xs H Q => ∃ p ys, xs = [.ref p] ∧ (SqL K H p ys ∨ SqT K H p ys) ∧ Q (.int ys.length) H) := by subst h; exact call_len_seq
theorem isiK (h : X.K = K := by rfl) : CallR X (.builtin "isinstance") (rIsi K) := by subst h; exact call_isi
theorem isiTK (h : X.K = K := by rfl) : CallR X (.builtin "isinstance") (rIsiT K) := by subst h; exact call_isiT
theorem allK (hc : X.calm = true) (h : X.K = K := by rfl) : CallR X (.builtin "all") (rAll K) := by subst h; exact cr_all hc
theorem listK (h : X.K = K := by rfl) : CallR X (.type "list") (fun xs H Q => ∃ p ys, xs = [.ref p] ∧ (SqL K H p ys ∨ SqT K H p ys) ∧ ∀ l, H l = none → Q (.ref l) (upd H l (.lst ys))) := by subst h; exact call_list_of
theorem tupleK (h : X.K = K := by rfl) : CallR X (.type "tuple") (fun xs H Q => ∃ p ys, xs = [.ref p] ∧ ((SqL K H p ys ∧ ∀ l, H l = none → Q (.ref l) (upd H l (.tup ys))) ∨ (SqT K H p ys ∧ Q (.ref p) H))) := by subst h; exact call_tuple_of
theorem inK (h : X.K = K := by rfl) : OpR X (compareOp .In) (rIn K false) := by subst h; exact op_in_seq
theorem notInK (h : X.K = K := by rfl) : OpR X (compareOp .NotIn) (rIn K true) := by subst h; exact op_notIn_seq
theorem pe_bmK {T : String} {name : Str} {id : String} {r : V → List V → Hp → VK → Prop} {o e : Expr} {es : List Expr} {to : TE} {t : TA} {apos cpos : Pos} (pa : PlainAttrs T) (slot : Slot T name id) (hty : typeOf (.builtin id) = pure (.type "method_descriptor")) (hm : MtR X id r) (ho : PE X o to) (ha : PA X (e :: es) t) (hK : X.K = K := by rfl)
    (hbase : attributeBase o name X.env (eval o X.env) = eval o X.env := by rfl)
    (hfew : ((backTo cpos (starEach (e :: es) X.env)).all (fun x => !x.1) && (backToKw cpos (keywordEach [] X.env)).all (fun x => x.1.isSome)
      && decide ((e :: es).length + ([] : List Keyword).length + (if ([] : List Keyword).isEmpty then 0 else 1) < 30)) = true := by rfl)
    (hline : (apos.endLine == cpos.line) = true := by rfl) (hs : starEach (e :: es) X.env = (false, eval e X.env) :: starEach es X.env := by rfl) (hplain : (backTo cpos (starEach es X.env)).any (·.1) = false := by rfl) :
    PE X (.Call (.Attribute o name apos) (e :: es) [] cpos) (tBM K T r to t) := by subst hK; exact pe_bm pa slot hty hm ho ha hbase hfew hline hs hplain
theorem pt_truthK {a : Expr} {ta : TE} (ha : PE X a ta) (he : ∀ whole, isTrue a X.env whole = (do let v ← whole; standAt a.pos; holding [v] (truthy v))) (h : X.K = K := by rfl) : PT X a (fun σ H Q => ta σ H fun x H' => ∃ k, TruV K x H' k ∧ Q k H') := by subst h; exact pt_truth ha he
theorem eqDK (hu : X.A.units + 64 < cLine) (h : X.K = K := by rfl) : OpR X (compareOp .Eq) (rEqD K) := by subst h; exact op_eqD hu
theorem neDK (hu : X.A.units + 64 < cLine) (h : X.K = K := by rfl) : OpR X (compareOp .NotEq) (rNeD K) := by subst h; exact op_neD hu
end
/-- over the signs of a text -/
theorem for_strs {x : Str} {g : TG} {tb : TS} {D : Ends} {σ : L2.St} {H : Hp} (Pv : Nat → L2.St → Hp → Prop) (h0 : Pv 0 σ H)
    (hs : ∀ i c σ H, x.cps.toList[i]? = some c → Pv i σ H → g (.str ⟨#[c]⟩) σ H fun σ2 H2 => tb { D with nx := Pv (i + 1), ct := Pv (i + 1), bk := D.nx } σ2 H2) (hd : ∀ σ H, Pv x.cps.toList.length σ H → D.nx σ H) :
    ∃ W : Nat → Nat → L2.St → Hp → Prop, (∃ m, W 0 m σ H) ∧ ∀ i m σ H, W i m σ H →
      ((Its x).stop i H ∧ D.nx σ H) ∨ ((Its x).go i H ∧ ∃ N : L2.St → Hp → Prop, (∀ σ' H', N σ' H' → ∃ m', m' < m ∧ W (i + 1) m' σ' H') ∧ ∀ v H', (Its x).yld i H v H' → g v σ H' fun σ2 H2 => tb { D with nx := N, ct := N, bk := D.nx } σ2 H2) := by
  have es : x.cps.toList.length = x.cps.size := by simp
  refine ⟨fun i m σ H => m = x.cps.size - i ∧ i ≤ x.cps.size ∧ Pv i σ H, ⟨x.cps.size, by simp, Nat.zero_le _, h0⟩, ?_⟩
  rintro i m σ H ⟨rfl, hi, p⟩
  by_cases hlt : i < x.cps.size
  · refine .inr ⟨hlt, Pv (i + 1), fun σ' H' p' => ⟨x.cps.size - (i + 1), by omega, rfl, hlt, p'⟩, fun v H' y => ?_⟩
    obtain ⟨e, c, hc, rfl⟩ := y
    subst e
    exact hs i c σ _ (by rw [Array.getElem?_toList]; exact hc) p
  · have e : i = x.cps.size := by omega
    subst e
    exact .inl ⟨Nat.le_refl _, hd σ H (by rw [es]; exact p)⟩
theorem joinL0 : ∀ ps : List (List Nat), TL.joinL [] ps = ps.flatten
  | [] => rfl
  | [p] => by
    show p = p ++ []
    rw [List.append_nil]
  | p :: q :: r => by
    show p ++ ([] ++ TL.joinL [] (q :: r)) = p ++ (q :: r).flatten
    rw [joinL0 (q :: r), List.nil_append]
theorem join0 (ys : List Str) : Txt.join ⟨#[]⟩ ys = ⟨((ys.map TL.tl).flatten).toArray⟩ := by
  refine TL.ext_tl ?_
  rw [TL.join_eq, TL.tl_join]
  show TL.joinL [] _ = _
  rw [joinL0]
theorem flat_len : ∀ ys : List Str, ((ys.map TL.tl).flatten).length = (ys.map (·.length)).sum
  | [] => rfl
  | y :: ys => by
    rw [List.map_cons, List.flatten_cons, List.length_append, flat_len ys, List.map_cons, List.sum_cons]
    show y.cps.toList.length + _ = _
    rw [Array.length_toList]
    rfl
theorem S_len' (l : List Nat) : (⟨l.toArray⟩ : Str).length = l.length := by simp [Str.length]
theorem cut_to (l : List Nat) {o : Nat} (h : o ≤ l.length) : cutS ⟨l.toArray⟩ none (some (o : Int)) = ⟨(l.take o).toArray⟩ := by
  unfold cutS
  rw [HT.sIx_none, HT.sIx_nat, S_len', Nat.sub_zero, Nat.min_eq_left h]
  show (⟨((l.drop 0).take o).toArray⟩ : Str) = _
  rw [List.drop_zero]
theorem str1 (c : Nat) (d : Nat) : decide (V.str ⟨#[c]⟩ = V.str ⟨#[d]⟩) = decide (c = d) := by
  by_cases h : c = d
  · subst h
    rw [decide_eq_true rfl, decide_eq_true rfl]
  · rw [decide_eq_false h, decide_eq_false]
    intro e
    have e1 := V.str.inj e
    have e2 := Array.toList_inj.mpr (Str.mk.inj e1)
    exact h (by simpa using e2)
def tx (l : List Nat) : V := .str ⟨l.toArray⟩
/-- a comprehension's scope within another scope -/
def relS (scope sc : Scope) : Scope := { scope with names := scope.names.map fun (n, k) => if (k == .free && sc.kind == .function && sc.names.lookup n == some .cell) then (n, .cell) else (n, k) }
theorem anyK {X : Cx} (K : PySem.W.Frag) (hc : X.calm = true) (h : X.K = K := by rfl) : CallR X (.builtin "any") (rAny K) := by subst h; exact cr_any hc
theorem pi_listK {X : Cx} (K : PySem.W.Frag) {l tg : Expr} {tl : TE} (hl : PE X l tl) (h : X.K = K := by rfl) : PI X tg l (iList K tl) := by subst h; exact pi_list hl
theorem pi_tupK {X : Cx} (K : PySem.W.Frag) {l tg : Expr} {tl : TE} (hl : PE X l tl) (h : X.K = K := by rfl) : PI X tg l (iTup K tl) := by subst h; exact pi_tup hl

/-! ### the law called by its caller, around which nothing is being shown: for repr -/
def CallerOk (P : Program) (w : World) (K : PySem.W.Frag) (mg : Str → Option Value) (base : Heap) (f : Addr) (fd : FuncData) (p : Str) (sp : Sp) : Prop :=
  ∀ (s : Shared) (H : Hp) (u : Value) (v : V) (Q : VK), Env0 P w K mg base callerA [] s H → BindsTo s fd ⟨[u], []⟩ [(p, u)] → RelV v u → sp [v] H Q E0 → codeAny (model P w) callerA (.call (.ref f) ⟨[u], []⟩) (CR CX0 [] P w H s Q E0) s
theorem callG {P : Program} {w : World} {K : PySem.W.Frag} {mg mb : Str → Option Value} {f a : Addr} {fd : FuncData} {p : Str} {sp : Sp} {s : Shared} {us : List Value} {ns : List Int} (kin : K.In s.heap) (ng : s.heap.Ns mainGlobals mg) (nb : s.heap.Ns builtinsNs mb) (eb : ∀ y : Str, y ≠ "__name__" → mb y = bootBuiltins y)
    (nl : s.heap.NoLimit) (gn : s.gens = #[]) (oa : s.heap.get? a = some { cls := .type "list", data := .seq us.toArray }) (ui : IntsAre us ns) (ln : ns.length ≤ sizeLine) (F : ∀ base : Heap, K.In base → base.Ns mainGlobals mg → CallerOk P w K mg base f fd p sp) (bd : ∀ (s : Shared) (u : Value), BindsTo s fd ⟨[u], []⟩ [(p, u)])
    (go : ∀ H : Hp, SqL K H a (ns.map V.int) → sp [.ref a] H (fun v _ => v = .bl true) E0) : codeAny (model P w) callerA (.call (.ref f) ⟨[.ref a], []⟩) (fun r z => r = .ok (.ret (.bool true)) ∧ OldK s.heap z.heap ∧ z.os = s.os ∧ AllBare z.gens) s := by
  have vu := vals_ints ui
  have lu := ui.length
  -- the script is told unless it is one of the module's own objects
  let fz : HO := .frz { cls := .type "list", data := .seq us.toArray } (.lst (ns.map V.int))
  let G : Hp := fun b => if b = a ∧ K.lookup a = none then some fz else none
  have gi : ∀ {b : Addr} {u : HO}, G b = some u → b = a ∧ K.lookup a = none ∧ u = fz := fun {b u} h => by
    by_cases c : b = a ∧ K.lookup a = none
    · have h' := (if_pos c).symm.trans h
      exact ⟨c.1, c.2, (Option.some.inj h').symm⟩
    · have h' := (if_neg c).symm.trans h
      cases h'
  have gn0 : ∀ {b : Addr}, (b = a → K.lookup a ≠ none) → G b = none := fun {b} h => if_neg fun c => h c.1 c.2
  have seq : SqL K G a (ns.map V.int) := by
    by_cases c : K.lookup a = none
    · exact .inl (.inr ⟨_, if_pos ⟨rfl, c⟩⟩)
    · obtain ⟨o, ho⟩ := Option.ne_none_iff_exists'.mp c
      have e := (kin a o ho).symm.trans oa
      cases e
      exact .inr ⟨_, us.toArray, _, ho, rfl, rfl, rfl, by rw [List.size_toArray, lu]; exact ln, by simpa using vu⟩
  have hok : HOk P w G s.heap := fun b u h => by
    obtain ⟨rfl, _, rfl⟩ := gi h
    exact ⟨oa, by rw [List.length_map]; exact ln, us, _, vu, oa⟩
  -- no dict is the script
  have dn : ∀ {b : Addr} {o : Obj} {es : Array DictEntry} {k : Nat}, s.heap.get? b = some o → o.data = .dict es k → G b = none := fun {b o es k} e d => gn0 fun z => by
    subst z
    have e' := e.symm.trans oa
    cases e'
    cases d
  have ns' : ∀ {b : Addr} {m : Str → Option Value}, s.heap.Ns b m → (hidT s.heap G).Ns b m := fun ⟨o, es, k, e, d, r⟩ => ⟨o, es, k, hidT_get e (dn e d), d, r⟩
  have kin' : K.In (hidT s.heap G) := fun b o e => hidT_get (kin b o e) (gn0 fun z => by subst z; rw [e]; exact fun q => nomatch q)
  have md : Mod K mg (hidT s.heap G) := ⟨kin', ns' ng, ⟨mb, ns' nb, eb⟩, nl.elim fun mc h => ⟨mc, ns' h.1, h.2⟩⟩
  have e0 : Env0 P w K mg (hidT s.heap G) callerA [] s G := ⟨rfl, md, fun b o e => of_hidT e, Nat.le_of_eq (hidT_size _ _), trivial, fun b hb => (List.not_mem_nil hb).elim, hok, .of_eq gn⟩
  refine codeAny_mono (F _ kin' (ns' ng) s G (.ref a) (.ref a) _ e0 (bd s (.ref a)) rfl (go G seq)) fun r z h => ?_
  match r, h with
  | .error _, h => exact False.elim h
  | .ok .next, h => exact False.elim h
  | .ok .brk, h => exact False.elim h
  | .ok .cont, h => exact False.elim h
  | .ok (.ret u), h =>
    obtain ⟨v, H', os, br, un, ok', rv, q⟩ := h
    cases (show v = .bl true from q)
    cases (show u = Value.bool true from rv)
    refine ⟨rfl, OldK.of_keep fun b o e => ?_, os, br⟩
    cases gb : G b with
    | none => exact un.keep b o e gb (fun z => (List.not_mem_nil z).elim) (by simp)
    | some y =>
      obtain ⟨_, _, rfl⟩ := gi gb
      have k1 := (hok b _ gb).1
      have k2 := (ok' b _ (un.frzs b _ _ gb)).1
      cases e.symm.trans k1
      exact k2
theorem walk_ofG {l : PySem.W.OpenLaw} {n : Nat} {q : Program} {loose : List Str} {XP : (Str → Option Value) → Heap → Prop} {YP : World → Heap → Prop} {d : DefRec} {K : Params → PySem.W.Frag} {sp : World → Sp} {p : Str} (hn : l.most = some n) (hn2 : n ≤ sizeLine) (hdf : d.params.defaults = [])
    (hY : ∀ (w : World) (h : Heap), YP w h → (K w.params).In h) (F : ∀ (w : World) (mg : Str → Option Value) (f : Addr) (h : Heap), (K w.params).In h → h.Ns mainGlobals mg → mg d.name = some (.ref f) → ∃ fd : FuncData, (∀ (s : Shared) (u : Value), BindsTo s fd ⟨[u], []⟩ [(p, u)]) ∧
      ∀ base : Heap, (K w.params).In base → base.Ns mainGlobals mg → CallerOk l.prog w (K w.params) mg base f fd p (sp w))
    (go : ∀ (w : World) (H : Hp) (a : Addr) (ns : List Int), ns.length ≤ n → SqL (K w.params) H a (ns.map V.int) → sp w [.ref a] H (fun v _ => v = .bl true) E0) : PySem.W.WalkO q loose XP YP l.row.toRowW d [] (fun f vs => PySem.call f vs) := by
  refine Att.attach_call hn hdf fun w s₀ s₁ mg mb fa o pm cd doc a vs ns G Y _ _ _ hm ob ui ln gn => ?_
  have kin := hY w _ Y
  obtain ⟨fd, bd, hF⟩ := F w mg fa _ kin G.T.g hm
  exact callG kin G.T.g G.T.b G.T.builtins G.T.nolimit gn ob ui (Nat.le_trans ln hn2) hF bd fun H hS => go w H a ns ln hS
section
variable {P : Program} {w : World} {K : PySem.W.Frag} {mg : Str → Option Value} {base : Heap}
/-- a def of one parameter by its body, called by the law's caller -/
theorem okG_of {x qual : Str} {st : Stmt} {f : Addr} {fd : FuncData} {N : List Str} {p : Str} {k : Nat} {sp : Sp} (F : Fun K x qual st f fd) (S : FnScope N [p] (defScope st)) (hr : Room (k + 1) callerA)
    (walk : ∀ (cdv : Value) (s : Shared) (H : Hp) (v : V) (Q : VK), Room k (callerA.deeper (envOfC qual (defScope st) s.heap.objs.size f cdv)) → sp [v] H Q E0 →
      ∃ t, PSs (cxOf CX0 P w K mg base N qual (defScope st) f cdv callerA [] s H E0).nox (defBody st) t ∧ t { nx := fun _ H' => Q .non H', rt := Q } (start N [v]) H) : CallerOk P w K mg base f fd p sp := by
  obtain ⟨oc, od, kV, doc, pm, an, cdv, ct, osl, rfl, lk, hcd⟩ := F.ex
  intro s H u v Q e0 bd rv ask
  have grow : ∀ (b : Addr) (o : Obj), base.get? b = some o → s.heap.get? b = some o := fun b o e => (e0.bs b o e).1
  have kin : K.In s.heap := e0.mod.kin.keeps grow
  have slot : ∀ y ∈ [(p, u)], (defScope st).names.lookup y.1 = some .local ∨ ((defScope st).names.lookup y.1 = some .cell ∧ ((cellsFrom (s.heap.objs.size + 1) (defScope st).names []).lookup y.1).isSome = true) := fun y hy => by
    cases List.mem_singleton.mp hy
    exact (S.par p List.mem_cons_self).imp id fun q => ⟨q, PySem.W.cellsFrom_some _ _ _ (.inl q)⟩
  refine codeAny_call_function hr.depth (kin _ _ lk) rfl S.co S.gen rfl (PySem.W.codeRec_of kin hcd) (bd _ _ _ _ ?_)
  refine wpAny_newFunctionEnv_cells S.kind slot fun env he s1 new => ?_
  subst he
  refine ⟨(e0.mod.nolimit.keeps grow).keeps new.toInCall.keep, codeAny_func ?_⟩
  obtain ⟨t, ht, red⟩ := walk cdv s H v Q (hr.deeper _) ask
  have I := inv_start (E := E0) (CX := CX0) S hr.hd e0 (rfl : [v].length = [p].length) (.cons rv .nil) new
  refine wpAny_mono (ht.nox.run [] s1 (start N [v]) H _ I red) (fun fl z hz => ?_) fun _ _ hz => hz
  match fl, hz with
  | .ret _, ⟨y, _, H', J, ry, qy⟩ => exact ⟨y, H', J.os, J.bare, J.base, J.hok, ry, qy⟩
  | .next, ⟨_, H', J, qy⟩ => exact ⟨V.non, H', J.os, J.bare, J.base, J.hok, rfl, qy⟩
  | .brk, ⟨_, _, _, qy⟩ => exact False.elim qy
  | .cont, ⟨_, _, _, qy⟩ => exact False.elim qy
end
/-! ### repr of data -/
def rRepr (K : PySem.W.Frag) : List V → Hp → VK → Prop := fun xs H Q => ∃ (a : Addr) (d : PyData), xs = [.ref a] ∧ Dp K H (.ref a) d ∧ d.showable = true ∧ d.hasDict = false ∧ d.depth ≤ 50 ∧ d.shown.length ≤ sizeLine ∧ Q (.str d.shown) H
theorem reprK {X : Cx} (K : PySem.W.Frag) (hg : X.A.guards = some []) (hu : X.A.units + 64 < cLine) (h : X.K = K := by rfl) : CallR X (.builtin "repr") (rRepr K) := by
  subst h
  intro pins s σ H xs us Q I r ask
  obtain ⟨a, d, rfl, dp, sh, nd, dd, ln, q⟩ := ask
  obtain ⟨u, rfl, rx⟩ := vals1 r
  obtain ⟨as, rd⟩ := Dp.reads I _ _ u dp rx
  cases (show u = Value.ref a from rx)
  refine repr_of_reads' rd sh (fun z => by rw [nd] at z; cases z) hg (by omega) (fun _ _ e => e) (fun _ u _ kp => ⟨.str d.shown, H, I.kept kp, ⟨u, rfl⟩, q⟩) ln

structure Mg (mg : Str → Option Value) : Prop where
  abs : mg "abs" = none
  all : mg "all" = none
  any : mg "any" = none
  bool : mg "bool" = none
  int : mg "int" = none
  isinstance : mg "isinstance" = none
  len : mg "len" = none
  list : mg "list" = none
  min : mg "min" = none
  range : mg "range" = none
  repr : mg "repr" = none
  sorted : mg "sorted" = none
  str : mg "str" = none
  tuple : mg "tuple" = none
/-! ### the law's draws: a list of the script's copy, a place in it, what is left of a great number, a seed -/
def Dr (H : Hp) (d c : Addr) : Prop := c ≠ d ∧ ∃ (ns : List Int) (pos rest seed : Int), H d = some (.lst [.ref c, .int pos, .int rest, .int seed]) ∧ H c = some (.lst (ns.map V.int)) ∧ 0 ≤ pos ∧ 0 ≤ rest ∧ 0 ≤ seed ∧ seed < 2147483647
theorem Dr.ext {H H' : Hp} {d c : Addr} (h : Dr H d c) (e : Same H H') : Dr H' d c := by
  obtain ⟨n, ns, pos, rest, seed, h1, h2, r⟩ := h
  exact ⟨n, ns, pos, rest, seed, e _ _ h1, e _ _ h2, r⟩
theorem Dr.upd {H : Hp} {d c p : Addr} {o : HO} (h : Dr H d c) (n1 : p ≠ d) (n2 : p ≠ c) : Dr (upd H p o) d c := by
  obtain ⟨n, ns, pos, rest, seed, h1, h2, r⟩ := h
  exact ⟨n, ns, pos, rest, seed, by rw [upd_ne n1.symm]; exact h1, by rw [upd_ne n2.symm]; exact h2, r⟩
theorem Dr.nd {H : Hp} {d c p : Addr} (h : Dr H d c) (n : H p = none) : p ≠ d := by
  obtain ⟨_, ns, pos, rest, seed, h1, _⟩ := h
  exact (ne_of_none h1 n).symm
theorem Dr.nc {H : Hp} {d c p : Addr} (h : Dr H d c) (n : H p = none) : p ≠ c := by
  obtain ⟨_, ns, pos, rest, seed, _, h2, _⟩ := h
  exact (ne_of_none h2 n).symm
theorem Dr.lst {H : Hp} {d c : Addr} (h : Dr H d c) : ∃ zs, H d = some (.lst zs) := by
  obtain ⟨_, ns, pos, rest, seed, h1, _⟩ := h
  exact ⟨_, h1⟩
theorem Dr.lift {H H' : Hp} {d c d' c' : Addr} (_h : Dr H d c) (h' : Dr H' d' c') : Dr H' d' c' := h'
def sp_draw (K : PySem.W.Frag) : Sp := fun vs H Q _ => ∃ (a : Addr) (ns : List Int), vs = [.ref a] ∧ SqL K H a (ns.map V.int) ∧ ∀ H' d c, Same H H' → H d = none → Dr H' d c → Q (.ref d) H'
/-- a draw: some number below many -/
def sp_next : Sp := fun vs H Q _ => ∃ (d c : Addr) (many : Int), vs = [.ref d, .int many] ∧ Dr H d c ∧ 1 ≤ many ∧ many < 2 ^ 64 ∧ ∀ H' r, Fd d H H' → (∀ p, p ≠ d → H' p = H p) → Dr H' d c → 0 ≤ r → r < many → Q (.int r) H'
section
variable {P : Program} {w : World} {K : PySem.W.Frag} {mg : Str → Option Value} {base : Heap}
theorem ok_draw {f : Addr} {fd : FuncData} (F : Fun K "_law_draw" "_law_draw" s__law_draw f fd) (M : Mg mg) : FnOk P w K mg base CX0 1 f fd ["script"] (sp_draw K) := by
  refine F.ok sc__law_draw (fun vs H Q E h => ?_) (fun cdv A outer s H vs Q E hr h => ?_)
  · obtain ⟨a, ns, rfl, _⟩ := h
    rfl
  · obtain ⟨a, ns, rfl, hS, q⟩ := h
    refine ⟨_, (pss_one (ps_ret (pe_lst (pa_cons (pe_callTy (listK K) (by rfl) M.list (by decide +kernel) (pa_cons (pv 0) pa_nil)) (pa_cons pe_int (pa_cons pe_int (pa_cons pe_int pa_nil))))))), ?_⟩
    refine ⟨_, rfl, a, _, rfl, .inl hS, fun c nc => ?_⟩
    refine ⟨by show 4 ≤ sizeLine; decide, fun d nd => ?_⟩
    have hc : (upd H c (.lst (ns.map V.int))) c = some (.lst (ns.map V.int)) := upd_same
    have ncd : c ≠ d := ne_of_none hc nd
    have s1 := (same_upd nc (o := .lst (ns.map V.int))).trans (same_upd nd (o := .lst [.ref c, .int 0, .int 0, .int 17]))
    refine q _ d c s1 ((same_upd nc).free nd) ⟨ncd, ns, 0, 0, 17, upd_same, ?_, by decide, by decide, by decide, by decide⟩
    rw [upd_ne ncd]
    exact hc
theorem next_aux {H : Hp} {d c : Addr} {xs' : List V} {pos rest seed : Int} {ns : List Int} (hn : c ≠ d) (h2 : H c = some (.lst (ns.map V.int))) (hx : xs' = [.ref c, .int pos, .int rest, .int seed]) (h0 : 0 ≤ pos) (h1 : 0 ≤ rest) (h3 : 0 ≤ seed) (h4 : seed < 2147483647) : Dr (upd H d (.lst xs')) d c := by
  subst hx
  refine ⟨hn, ns, pos, rest, seed, upd_same, ?_, h0, h1, h3, h4⟩
  rw [upd_ne hn]
  exact h2
theorem ok_next {f : Addr} {fd : FuncData} (F : Fun K "_law_next" "_law_next" s__law_next f fd) (M : Mg mg) : FnOk P w K mg base CX0 1 f fd ["draw", "many"] sp_next := by
  refine F.ok sc__law_next (fun vs H Q E h => ?_) (fun cdv A outer s H vs Q E hr h => ?_)
  · obtain ⟨d, c, many, rfl, _⟩ := h
    rfl
  · obtain ⟨d, c, many, rfl, ⟨ncd, ns, pos, rest, seed, h1, h2, h0, h3, h4, h5⟩, hm1, hm2, q⟩ := h
    have hdv : ∀ x : Int, CDivW x many := fun x => wide_div (b := 64) (by omega) (by omega) (by decide) (by decide)
    have hcd : d ≠ c := ncd.symm
    have L0 : SqL K H d [.ref c, .int pos, .int rest, .int seed] := .of h1
    have at0 : ∀ (a b e g : V), atI [a, b, e, g] (0 : Int) = some a := fun a b e g => atI_nat (j := 0) rfl
    have at1 : ∀ (a b e g : V), atI [a, b, e, g] (1 : Int) = some b := fun a b e g => atI_nat (j := 1) rfl
    have at2 : ∀ (a b e g : V), atI [a, b, e, g] (2 : Int) = some e := fun a b e g => atI_nat (j := 2) rfl
    have at3 : ∀ (a b e g : V), atI [a, b, e, g] (3 : Int) = some g := fun a b e g => atI_nat (j := 3) rfl
    have fr : ∀ (H0 : Hp) (o : HO), (∀ p, p ≠ d → H0 p = H p) → (∀ p, p ≠ d → (upd H0 d o) p = H p) := fun H0 o e p n => by rw [upd_ne n]; exact e p n
    have fF : ∀ (H0 : Hp), (∀ p, p ≠ d → H0 p = H p) → Fd d H H0 := fun H0 e b o n h => by rw [e b n]; exact h
    -- the last row's value
    have last : ∀ (seed' : Int), 0 ≤ seed' → seed' < 2147483647 → ∀ H0 : Hp, (∀ p, p ≠ d → H0 p = H p) → (∃ pos rest, H0 d = some (.lst [.ref c, .int pos, .int rest, .int seed']) ∧ 0 ≤ pos ∧ 0 ≤ rest) → Q (.int ((seed' * 69621 % 2147483629 / 7) % many)) H0 := by
      intro seed' g0 g1 H0 e ⟨pos', rest', g2, g3, g4⟩
      exact q H0 _ (fF _ e) e ⟨ncd, ns, pos', rest', seed', g2, by rw [e c ncd]; exact h2, g3, g4, g0, g1⟩ (Int.emod_nonneg _ (by omega)) (Int.emod_lt_of_pos _ (by omega))
    refine ⟨_, (pss_cons (ps_if (pt_cmpR op_gt (pe_ix (ix_listK K) (pv 0) pe_int (fun _ _ => rfl)) pe_int (nomark _)) (pss_cons (ps_set (i := 2) sc__law_next.nd rfl (.inl rfl) (pe_op op_mod (pe_callTy call_int1 (by rfl) M.int (by decide +kernel) (pa_cons (pe_ix (ix_listK K) (pv 0) pe_int (fun _ _ => rfl)) pa_nil)) (pv 1)))
      (pss_cons (ps_asg (pe_op op_fdivW (pe_ix (ix_listK K) (pv 0) pe_int (fun _ _ => rfl)) (pv 1)) (pg_sub (pv 0) pe_int set_list))
      (pss_one (ps_ret (pv 2))))) pss_nil)
      (pss_cons (ps_if (pt_cmpR op_lt (pe_ix (ix_listK K) (pv 0) pe_int (fun _ _ => rfl)) (pe_callB (len_seqK K) (by rfl) M.len PySem.boot_len (pa_cons (pe_ix (ix_listK K) (pv 0) pe_int (fun _ _ => rfl)) pa_nil)) (nomark _)) (pss_cons (ps_set (i := 3) sc__law_next.nd rfl (.inl rfl) (pe_callB call_abs (by rfl) M.abs (by decide +kernel) (pa_cons (pe_ix (ix_listK K) (pe_ix (ix_listK K) (pv 0) pe_int (fun _ _ => rfl)) (pe_ix (ix_listK K) (pv 0) pe_int (fun _ _ => rfl)) (fun _ _ => rfl)) pa_nil)))
      (pss_cons (ps_asg (pe_op op_add (pe_ix (ix_listK K) (pv 0) pe_int (fun _ _ => rfl)) pe_int) (pg_sub (pv 0) pe_int set_list))
      (pss_cons (ps_if (pt_cmpR op_ge (pv 3) (pe_op op_pow pe_int pe_int) (nomark _)) (pss_cons (ps_asg (pe_op op_fdivW (pv 3) (pv 1)) (pg_sub (pv 0) pe_int set_list))
      (pss_one (ps_ret (pe_op op_mod (pe_callTy call_int1 (by rfl) M.int (by decide +kernel) (pa_cons (pv 3) pa_nil)) (pv 1))))) pss_nil)
      (pss_one (ps_asg (pe_op op_mod (pe_callTy call_int1 (by rfl) M.int (by decide +kernel) (pa_cons (pe_op op_add (pe_op op_add (pe_op op_mul (pe_ix (ix_listK K) (pv 0) pe_int (fun _ _ => rfl)) pe_int) (pv 3)) pe_int) pa_nil)) pe_int) (pg_sub (pv 0) pe_int set_list)))))) (pss_one (ps_asg (pe_op op_mod (pe_callTy call_int1 (by rfl) M.int (by decide +kernel) (pa_cons (pe_op op_add (pe_op op_mul (pe_ix (ix_listK K) (pv 0) pe_int (fun _ _ => rfl)) pe_int) pe_int) pa_nil)) pe_int) (pg_sub (pv 0) pe_int set_list))))
      (pss_one (ps_ret (pe_op op_mod (pe_op op_fdivW (pe_callTy call_int1 (by rfl) M.int (by decide +kernel) (pa_cons (pe_op op_mod (pe_op op_mul (pe_ix (ix_listK K) (pv 0) pe_int (fun _ _ => rfl)) pe_int) pe_int) pa_nil)) pe_int) (pv 1)))))), ?_⟩
    refine ⟨_, rfl, d, _, 2, .int rest, rfl, rfl, L0, at2 .., ?_⟩
    refine ⟨_, _, rfl, rfl, _, rfl, ite2 (fun e => ?_) (fun e => ?_)⟩
    · -- draw[2] > 0
      have hr0 : 0 < rest := of_decide_eq_true e
      refine ⟨_, rfl, d, _, 2, .int rest, rfl, rfl, L0, at2 .., .inl ⟨_, rfl, ?_⟩⟩
      refine ⟨_, rfl, _, _, rfl, rfl, by omega, ?_⟩
      refine ⟨_, rfl, d, _, 2, .int rest, rfl, rfl, L0, at2 .., ?_⟩
      refine ⟨_, rfl, _, _, rfl, rfl, hdv _, ?_⟩
      refine ⟨_, rfl, d, _, 2, 2, rfl, rfl, h1, rfl, ?_⟩
      refine ⟨_, rfl, ?_⟩
      have e1 := fr H (.lst ([.ref c, .int pos, .int rest, .int seed].set 2 (.int (rest / many)))) (fun _ _ => rfl)
      exact q _ _ (fF _ e1) e1 (next_aux ncd h2 rfl h0 (Int.ediv_nonneg h3 (by omega)) h4 h5) (Int.emod_nonneg _ (by omega)) (Int.emod_lt_of_pos _ (by omega))
    · refine ⟨_, rfl, d, _, 1, .int pos, rfl, rfl, L0, at1 .., ?_⟩
      refine ⟨_, rfl, d, _, 0, .ref c, rfl, rfl, L0, at0 .., ?_⟩
      refine ⟨c, _, rfl, .inl (.of h2), ?_⟩
      refine ⟨_, _, rfl, rfl, _, rfl, ite2 (fun e2 => ?_) (fun e2 => ?_)⟩
      · have hp : pos < ((ns.map V.int).length : Int) := of_decide_eq_true e2
        rw [List.length_map] at hp
        obtain ⟨i, rfl⟩ := Int.eq_ofNat_of_zero_le h0
        have hi : i < ns.length := by omega
        have hat : atI (ns.map V.int) ((i : Nat) : Int) = some (.int ns[i]) := atI_nat (by rw [List.getElem?_map, List.getElem?_eq_getElem hi]; rfl)
        -- cell = abs(..)
        refine ⟨_, rfl, d, _, 0, .ref c, rfl, rfl, L0, at0 .., ?_⟩
        refine ⟨_, rfl, d, _, 1, _, rfl, rfl, L0, at1 .., ?_⟩
        refine ⟨c, _, _, _, rfl, rfl, .of h2, hat, ?_⟩
        refine ⟨_, rfl, ?_⟩
        have hcell : (0 : Int) ≤ (if ns[i] < 0 then -ns[i] else ns[i]) := by split <;> omega
        generalize (if ns[i] < 0 then -ns[i] else ns[i]) = cell at hcell
        -- draw[1] = draw[1] + 1
        refine ⟨_, rfl, d, _, 1, _, rfl, rfl, L0, at1 .., ?_⟩
        refine ⟨_, _, rfl, rfl, ?_⟩
        refine ⟨_, rfl, d, _, 1, 1, rfl, rfl, h1, rfl, ?_⟩
        have hd1 : (upd H d (.lst ([.ref c, .int ((i : Nat) : Int), .int rest, .int seed].set 1 (.int ((i : Nat) + 1))))) d = some (.lst [.ref c, .int ((i : Nat) + 1), .int rest, .int seed]) := upd_same
        have e1 := fr H (.lst ([.ref c, .int ((i : Nat) : Int), .int rest, .int seed].set 1 (.int ((i : Nat) + 1)))) (fun _ _ => rfl)
        generalize upd H d (.lst ([.ref c, .int ((i : Nat) : Int), .int rest, .int seed].set 1 (.int ((i : Nat) + 1)))) = H1 at hd1 e1
        have h2' : H1 c = some (.lst (ns.map V.int)) := by rw [e1 c ncd]; exact h2
        -- cell >= 10 ** 18
        refine ⟨_, rfl, _, _, rfl, rfl, ⟨by decide, by decide, by decide⟩, ?_⟩
        refine ⟨_, _, rfl, rfl, _, rfl, ite2 (fun e3 => ?_) (fun e3 => ?_)⟩
        · refine ⟨_, rfl, _, rfl, _, _, rfl, rfl, hdv _, ?_⟩
          refine ⟨_, rfl, d, _, 2, 2, rfl, rfl, hd1, rfl, ?_⟩
          refine ⟨_, rfl, .inl ⟨_, rfl, ?_⟩⟩
          refine ⟨_, rfl, _, _, rfl, rfl, by omega, ?_⟩
          have e5 := fr H1 (.lst ([.ref c, .int ((i : Nat) + 1), .int rest, .int seed].set 2 (.int (cell / many)))) e1
          exact q _ _ (fF _ e5) e5 (next_aux ncd h2' rfl (by omega) (Int.ediv_nonneg hcell (by omega)) h4 h5) (Int.emod_nonneg _ (by omega)) (Int.emod_lt_of_pos _ (by omega))
        · -- draw[3] = ..
          refine ⟨_, rfl, d, _, 3, .int seed, rfl, rfl, .of hd1, at3 .., ?_⟩
          refine ⟨_, _, rfl, rfl, .inl ⟨by omega, by omega⟩, ?_⟩
          refine ⟨_, rfl, _, _, rfl, rfl, ?_⟩
          refine ⟨_, _, rfl, rfl, .inl ⟨_, rfl, ?_⟩⟩
          refine ⟨_, _, rfl, rfl, by show (0 : Int) < 2147483647; decide, ?_⟩
          refine ⟨_, rfl, d, _, 3, 3, rfl, rfl, hd1, rfl, ?_⟩
          have hs0 : 0 ≤ (seed * 48271 + cell + 11) % 2147483647 := Int.emod_nonneg _ (by decide)
          have hs1 : (seed * 48271 + cell + 11) % 2147483647 < 2147483647 := Int.emod_lt_of_pos _ (by decide)
          have e5 := fr H1 (.lst ([.ref c, .int ((i : Nat) + 1), .int rest, .int seed].set 3 (.int ((seed * 48271 + cell + 11) % 2147483647)))) e1
          have hd5 : (upd H1 d (.lst ([.ref c, .int ((i : Nat) + 1), .int rest, .int seed].set 3 (.int ((seed * 48271 + cell + 11) % 2147483647))))) d = some (.lst [.ref c, .int ((i : Nat) + 1), .int rest, .int ((seed * 48271 + cell + 11) % 2147483647)]) := upd_same
          dsimp only
          generalize (seed * 48271 + cell + 11) % 2147483647 = seed' at hs0 hs1 e5 hd5 ⊢
          refine ⟨_, rfl, d, _, 3, .int seed', rfl, rfl, .of hd5, at3 .., ?_⟩
          refine ⟨_, _, rfl, rfl, .inl ⟨by omega, by omega⟩, ?_⟩
          refine ⟨_, _, rfl, rfl, by show (0 : Int) < 2147483629; decide, .inl ⟨_, rfl, ?_⟩⟩
          refine ⟨_, _, rfl, rfl, ⟨by decide, by decide⟩, ?_⟩
          refine ⟨_, rfl, _, _, rfl, rfl, by omega, ?_⟩
          exact last seed' hs0 hs1 _ e5 ⟨_, _, hd5, by omega, h3⟩
      · -- draw[3] = ..
        refine ⟨_, rfl, d, _, 3, .int seed, rfl, rfl, L0, at3 .., ?_⟩
        refine ⟨_, _, rfl, rfl, .inl ⟨by omega, by omega⟩, ?_⟩
        refine ⟨_, _, rfl, rfl, .inl ⟨_, rfl, ?_⟩⟩
        refine ⟨_, _, rfl, rfl, by show (0 : Int) < 2147483647; decide, ?_⟩
        refine ⟨_, rfl, d, _, 3, 3, rfl, rfl, h1, rfl, ?_⟩
        have hs0 : 0 ≤ (seed * 48271 + 12345) % 2147483647 := Int.emod_nonneg _ (by decide)
        have hs1 : (seed * 48271 + 12345) % 2147483647 < 2147483647 := Int.emod_lt_of_pos _ (by decide)
        have e5 := fr H (.lst ([.ref c, .int pos, .int rest, .int seed].set 3 (.int ((seed * 48271 + 12345) % 2147483647)))) (fun _ _ => rfl)
        have hd5 : (upd H d (.lst ([.ref c, .int pos, .int rest, .int seed].set 3 (.int ((seed * 48271 + 12345) % 2147483647))))) d = some (.lst [.ref c, .int pos, .int rest, .int ((seed * 48271 + 12345) % 2147483647)]) := upd_same
        dsimp only
        generalize (seed * 48271 + 12345) % 2147483647 = seed' at hs0 hs1 e5 hd5 ⊢
        refine ⟨_, rfl, d, _, 3, .int seed', rfl, rfl, .of hd5, at3 .., ?_⟩
        refine ⟨_, _, rfl, rfl, .inl ⟨by omega, by omega⟩, ?_⟩
        refine ⟨_, _, rfl, rfl, by show (0 : Int) < 2147483629; decide, .inl ⟨_, rfl, ?_⟩⟩
        refine ⟨_, _, rfl, rfl, ⟨by decide, by decide⟩, ?_⟩
        refine ⟨_, rfl, _, _, rfl, rfl, by omega, ?_⟩
        exact last seed' hs0 hs1 _ e5 ⟨_, _, hd5, h0, h3⟩
end

/-! ### data in the heap -/
theorem SqT.ext {K : PySem.W.Frag} {H H' : Hp} {a : Addr} {xs : List V} (e : Same H H') (h : SqT K H a xs) : SqT K H' a xs := by
  rcases h with (h | ⟨o, h⟩) | h
  · exact .inl (.inl (e _ _ h))
  · exact .inl (.inr ⟨o, e _ _ h⟩)
  · exact .inr h
mutual
theorem Dp.ext {K : PySem.W.Frag} {H H' : Hp} (e : Same H H') : ∀ (d : PyData) (v : V), Dp K H v d → Dp K H' v d
  | .none, _, h => by cases h; exact .non
  | .bool b, _, h => by cases h; exact .bl b
  | .int i, _, h => by cases h; exact .int i
  | .str x, _, h => by cases h; exact .str x
  | .list ds, _, h => by
    cases h with
    | lst hs ha => exact .lst (e.seq hs) (DpAll.ext e ds _ ha)
  | .tuple ds, _, h => by
    cases h with
    | tup hs ha => exact .tup (SqT.ext e hs) (DpAll.ext e ds _ ha)
  | .dict _, _, h => by cases h
theorem DpAll.ext {K : PySem.W.Frag} {H H' : Hp} (e : Same H H') : ∀ (ds : List PyData) (vs : List V), DpAll K H vs ds → DpAll K H' vs ds
  | [], _, h => by cases h; exact .nil
  | d :: ds, _, h => by
    cases h with
    | cons h1 h2 => exact .cons (Dp.ext e d _ h1) (DpAll.ext e ds _ h2)
end
theorem DpAll.len {K : PySem.W.Frag} {H : Hp} : ∀ {ds : List PyData} {vs : List V}, DpAll K H vs ds → vs.length = ds.length
  | [], _, h => by cases h; rfl
  | d :: ds, _, h => by
    cases h with
    | cons h1 h2 => exact congrArg (· + 1) (DpAll.len h2)
theorem DpAll.get {K : PySem.W.Frag} {H : Hp} : ∀ {ds : List PyData} {vs : List V} {i : Nat} {d : PyData}, DpAll K H vs ds → ds[i]? = some d → ∃ v, vs[i]? = some v ∧ Dp K H v d
  | [], _, _, _, _, e => by simp at e
  | x :: ds, _, 0, d, h, e => by
    cases h with
    | cons h1 h2 =>
      have e1 : x = d := Option.some.inj e
      subst e1
      exact ⟨_, rfl, h1⟩
  | x :: ds, _, i + 1, d, h, e => by
    cases h with
    | cons h1 h2 =>
      obtain ⟨v, hv, hd⟩ := DpAll.get (i := i) h2 (by simpa using e)
      exact ⟨v, by simpa using hv, hd⟩
theorem tyL {K : PySem.W.Frag} {H : Hp} {a : Addr} {xs : List V} (h : SqL K H a xs) : TyX K H (.ref a) (.type "list") := by
  rcases h with (h | ⟨o, h⟩) | ⟨o, its, n, h, c, _⟩
  · exact .base (.lst h)
  · exact .base (.frz h)
  · exact .kList h c
theorem tyT {K : PySem.W.Frag} {H : Hp} {a : Addr} {xs : List V} (h : SqT K H a xs) : TyX K H (.ref a) (.type "tuple") := by
  rcases h with (h | ⟨o, h⟩) | ⟨o, its, n, h, c, _⟩
  · exact .base (.tup h)
  · exact .fTuple h
  · exact .kTuple h c
mutual
/-- no list within -/
def tupOnly : PyData → Bool
  | .list _ => false
  | .dict _ => false
  | .tuple ds => tupOnlys ds
  | _ => true
def tupOnlys : List PyData → Bool
  | [] => true
  | d :: ds => tupOnly d && tupOnlys ds
end
mutual
theorem Dp.away {K : PySem.W.Frag} {H : Hp} {D : Addr} {zs : List V} {o : HO} (hD : H D = some (.lst zs)) : ∀ (d : PyData) (v : V), tupOnly d = true → Dp K H v d → Dp K (upd H D o) v d
  | .none, _, _, h => by cases h; exact .non
  | .bool b, _, _, h => by cases h; exact .bl b
  | .int i, _, _, h => by cases h; exact .int i
  | .str x, _, _, h => by cases h; exact .str x
  | .list ds, _, e, _ => by unfold tupOnly at e; cases e
  | .tuple ds, _, e, h => by
    unfold tupOnly at e
    cases h with
    | @tup a _ _ hs ha =>
      refine .tup ?_ (DpAll.away hD ds _ e ha)
      rcases hs with (hs | ⟨o', hs⟩) | hs
      · exact .inl (.inl (by rw [upd_ne (ne_of hs hD (fun z => nomatch z))]; exact hs))
      · exact .inl (.inr ⟨o', by rw [upd_ne (ne_of hs hD (fun z => nomatch z))]; exact hs⟩)
      · exact .inr hs
  | .dict _, _, _, h => by cases h
theorem DpAll.away {K : PySem.W.Frag} {H : Hp} {D : Addr} {zs : List V} {o : HO} (hD : H D = some (.lst zs)) : ∀ (ds : List PyData) (vs : List V), tupOnlys ds = true → DpAll K H vs ds → DpAll K (upd H D o) vs ds
  | [], _, _, h => by cases h; exact .nil
  | d :: ds, _, e, h => by
    unfold tupOnlys at e
    rw [Bool.and_eq_true] at e
    cases h with
    | cons h1 h2 => exact .cons (Dp.away hD d _ e.1 h1) (DpAll.away hD ds _ e.2 h2)
end
theorem DpAll.snoc {K : PySem.W.Frag} {H : Hp} : ∀ {ds : List PyData} {xs : List V} {v : V} {d : PyData}, DpAll K H xs ds → Dp K H v d → DpAll K H (xs ++ [v]) (ds ++ [d])
  | [], _, _, _, h, h2 => by cases h; exact .cons h2 .nil
  | _ :: ds, _, _, _, h, h2 => by
    cases h with
    | cons a b => exact .cons a (DpAll.snoc b h2)
theorem at_0 {α : Type} {xs : List α} {i : Nat} {v : α} (h : xs[i]? = some v) : atI xs (0 + (i : Int)) = some v := by
  rw [Int.zero_add]
  exact atI_nat h
mutual
/-- what is made of tuples stands when another list is changed -/
theorem Dp.fd {K : PySem.W.Frag} {H H' : Hp} {D : Addr} (hD : ∃ zs, H D = some (.lst zs)) (e : Fd D H H') : ∀ (d : PyData) (v : V), tupOnly d = true → Dp K H v d → Dp K H' v d
  | .none, _, _, h => by cases h; exact .non
  | .bool b, _, _, h => by cases h; exact .bl b
  | .int i, _, _, h => by cases h; exact .int i
  | .str x, _, _, h => by cases h; exact .str x
  | .list ds, _, e, _ => by unfold tupOnly at e; cases e
  | .tuple ds, _, e', h => by
    unfold tupOnly at e'
    obtain ⟨zs, hz⟩ := hD
    cases h with
    | @tup a _ _ hs ha =>
      refine .tup ?_ (DpAll.fd ⟨zs, hz⟩ e ds _ e' ha)
      rcases hs with (hs | ⟨o', hs⟩) | hs
      · exact .inl (.inl (e _ _ (ne_of hs hz (fun z => nomatch z)) hs))
      · exact .inl (.inr ⟨o', e _ _ (ne_of hs hz (fun z => nomatch z)) hs⟩)
      · exact .inr hs
  | .dict _, _, _, h => by cases h
theorem DpAll.fd {K : PySem.W.Frag} {H H' : Hp} {D : Addr} (hD : ∃ zs, H D = some (.lst zs)) (e : Fd D H H') : ∀ (ds : List PyData) (vs : List V), tupOnlys ds = true → DpAll K H vs ds → DpAll K H' vs ds
  | [], _, _, h => by cases h; exact .nil
  | d :: ds, _, e', h => by
    unfold tupOnlys at e'
    rw [Bool.and_eq_true] at e'
    cases h with
    | cons h1 h2 => exact .cons (Dp.fd hD e d _ e'.1 h1) (DpAll.fd hD e ds _ e'.2 h2)
end

/-! ### diagrams as trees -/
inductive Bd where
  | lf (b : Bool)
  | nd (e : Int) (w t : Bd)
deriving DecidableEq
def Bd.ev : Bd → (Int → Bool) → Bool
  | .lf b, _ => b
  | .nd e w t, r => if r e = true then t.ev r else w.ev r
/-- its questions ascend, they are all of the list; both sides of a node differ -/
inductive Wf : List Int → Bd → Prop
  | lf {es b} : Wf es (.lf b)
  | here {x es w t} : Wf es w → Wf es t → w ≠ t → Wf (x :: es) (.nd x w t)
  | skip {x es a} : Wf es a → Wf (x :: es) a
def setR (r : Int → Bool) (x : Int) (b : Bool) : Int → Bool := fun y => if y = x then b else r y
theorem setR_same (r : Int → Bool) (x : Int) (b : Bool) : setR r x b x = b := if_pos rfl
theorem setR_ne {r : Int → Bool} {x y : Int} {b : Bool} (h : y ≠ x) : setR r x b y = r y := if_neg h
theorem Wf.away {es : List Int} {a : Bd} (h : Wf es a) : ∀ {x : Int} {b : Bool} {r : Int → Bool}, x ∉ es → a.ev (setR r x b) = a.ev r := by
  induction h with
  | lf => intros; rfl
  | @here y es w t _ _ _ iw it =>
    intro x b r hx
    rw [List.mem_cons, not_or] at hx
    show (if setR r x b y = true then t.ev (setR r x b) else w.ev (setR r x b)) = if r y = true then t.ev r else w.ev r
    rw [setR_ne (Ne.symm hx.1), iw hx.2, it hx.2]
  | @skip y es a _ ih =>
    intro x b r hx
    rw [List.mem_cons, not_or] at hx
    exact ih hx.2
/-- both sides at the question x, which no other one comes ahead of -/
def Bd.cw (x : Int) : Bd → Bd
  | .nd e w t => if e = x then w else .nd e w t
  | a => a
def Bd.ct (x : Int) : Bd → Bd
  | .nd e w t => if e = x then t else .nd e w t
  | a => a
theorem Wf.none_of {es : List Int} {x : Int} {w t : Bd} (h : Wf es (.nd x w t)) : x ∈ es := by
  generalize e : Bd.nd x w t = a at h
  induction h with
  | lf => cases e
  | here _ _ _ => cases e; exact List.mem_cons_self
  | skip _ ih => exact List.mem_cons_of_mem _ (ih e)
theorem Wf.cw {x : Int} {es : List Int} {a : Bd} (hx : x ∉ es) (h : Wf (x :: es) a) : Wf es (a.cw x) ∧ ∀ r, (a.cw x).ev r = a.ev (setR r x false) := by
  cases h with
  | lf => exact ⟨.lf, fun _ => rfl⟩
  | @here _ _ w t hw ht hn =>
    have e1 : (Bd.nd x w t).cw x = w := if_pos rfl
    rw [e1]
    refine ⟨hw, fun r => ?_⟩
    show _ = if setR r x false x = true then _ else _
    rw [setR_same, if_neg Bool.false_ne_true, hw.away hx]
  | skip h =>
    have e : a.cw x = a := by
      cases a with
      | lf b => rfl
      | nd y w t =>
        have hy := h.none_of
        exact if_neg (fun (z : y = x) => hx (z ▸ hy))
    rw [e]
    exact ⟨h, fun r => (h.away hx).symm⟩
theorem Wf.ct {x : Int} {es : List Int} {a : Bd} (hx : x ∉ es) (h : Wf (x :: es) a) : Wf es (a.ct x) ∧ ∀ r, (a.ct x).ev r = a.ev (setR r x true) := by
  cases h with
  | lf => exact ⟨.lf, fun _ => rfl⟩
  | @here _ _ w t hw ht hn =>
    have e1 : (Bd.nd x w t).ct x = t := if_pos rfl
    rw [e1]
    refine ⟨ht, fun r => ?_⟩
    show _ = if setR r x true x = true then _ else _
    rw [setR_same, if_pos rfl, ht.away hx]
  | skip h =>
    have e : a.ct x = a := by
      cases a with
      | lf b => rfl
      | nd y w t =>
        have hy := h.none_of
        exact if_neg (fun (z : y = x) => hx (z ▸ hy))
    rw [e]
    exact ⟨h, fun r => (h.away hx).symm⟩
theorem Wf.cwt_eq {x : Int} {es : List Int} {a : Bd} (hx : x ∉ es) (h : Wf (x :: es) a) : (a.cw x = a.ct x ↔ Wf es a) ∧ (a.cw x = a.ct x → a.cw x = a) ∧ (a.cw x ≠ a.ct x → a = .nd x (a.cw x) (a.ct x)) := by
  have key : ∀ {a : Bd}, Wf es a → a.cw x = a ∧ a.ct x = a := fun {a} h => by
    cases a with
    | lf b => exact ⟨rfl, rfl⟩
    | nd y w t =>
      have hy := h.none_of
      exact ⟨if_neg (fun (z : y = x) => hx (z ▸ hy)), if_neg (fun (z : y = x) => hx (z ▸ hy))⟩
  cases h with
  | lf => exact ⟨⟨fun _ => .lf, fun _ => rfl⟩, fun _ => rfl, fun n => absurd rfl n⟩
  | @here _ _ w t hw ht hn =>
    have e1 : (Bd.nd x w t).cw x = w := if_pos rfl
    have e2 : (Bd.nd x w t).ct x = t := if_pos rfl
    rw [e1, e2]
    exact ⟨⟨fun e => absurd e hn, fun h => absurd h.none_of hx⟩, fun e => absurd e hn, fun _ => rfl⟩
  | skip h =>
    obtain ⟨e1, e2⟩ := key h
    rw [e1, e2]
    exact ⟨⟨fun _ => h, fun _ => rfl⟩, fun _ => rfl, fun n => absurd rfl n⟩
/-- just one diagram for each condition -/
theorem canon : ∀ {es : List Int} {a b : Bd}, es.Nodup → Wf es a → Wf es b → (∀ r, a.ev r = b.ev r) → a = b
  | [], a, b, _, ha, hb, h => by
    cases ha
    cases hb
    exact congrArg Bd.lf (h fun _ => false)
  | x :: es, a, b, hn, ha, hb, h => by
    rw [List.nodup_cons] at hn
    have w := canon hn.2 (ha.cw hn.1).1 (hb.cw hn.1).1 fun r => by rw [(ha.cw hn.1).2, (hb.cw hn.1).2, h]
    have t := canon hn.2 (ha.ct hn.1).1 (hb.ct hn.1).1 fun r => by rw [(ha.ct hn.1).2, (hb.ct hn.1).2, h]
    obtain ⟨_, ea, na⟩ := ha.cwt_eq hn.1
    obtain ⟨_, eb, nb⟩ := hb.cwt_eq hn.1
    by_cases e : a.cw x = a.ct x
    · rw [← ea e, ← eb (by rw [← w, ← t, e]), w]
    · rw [na e, nb (by rw [← w, ← t]; exact e), w, t]
/-- a node, or what both sides are -/
def mkB (x : Int) (w t : Bd) : Bd := if w = t then w else .nd x w t
theorem mkB_wf {x : Int} {es : List Int} {w t : Bd} (hw : Wf es w) (ht : Wf es t) : Wf (x :: es) (mkB x w t) := by
  unfold mkB
  split
  · exact .skip hw
  · exact .here hw ht ‹_›
theorem mkB_ev {x : Int} {w t : Bd} (r : Int → Bool) : (mkB x w t).ev r = if r x = true then t.ev r else w.ev r := by
  unfold mkB
  split
  · rename_i h
    subst h
    split <;> rfl
  · rfl
/-! ### diagrams in a store: its nodes by their places -/
abbrev Nds := List (Int × Nat × Nat)
inductive At (N : Nds) : Nat → Bd → Prop
  | f : At N 0 (.lf false)
  | t : At N 1 (.lf true)
  | nd {k : Nat} {e : Int} {w t : Nat} {a b : Bd} : N[k]? = some (e, w, t) → At N w a → At N t b → At N (k + 2) (.nd e a b)
theorem At.mono {N M : Nds} {c : Nat} {a : Bd} (h : At N c a) : At (N ++ M) c a := by
  induction h with
  | f => exact .f
  | t => exact .t
  | nd hk _ _ ia ib => exact .nd (by rw [List.getElem?_append_left (List.getElem?_eq_some_iff.mp hk).1]; exact hk) ia ib
theorem At.fn {N : Nds} {c : Nat} {a : Bd} (h : At N c a) : ∀ {b : Bd}, At N c b → a = b := by
  induction h with
  | f => intro b hb; cases hb; rfl
  | t => intro b hb; cases hb; rfl
  | nd hk _ _ ia ib =>
    intro b hb
    cases hb with
    | nd hk2 ha2 hb2 =>
      have e := Option.some.inj (hk.symm.trans hk2)
      cases e
      have e1 := ia ha2
      have e2 := ib hb2
      rw [e1, e2]
theorem nodup_at {α : Type} : ∀ {l : List α} {i j : Nat} {x : α}, l.Nodup → l[i]? = some x → l[j]? = some x → i = j
  | [], _, _, _, _, h, _ => by simp at h
  | y :: l, 0, 0, _, _, _, _ => rfl
  | y :: l, 0, j + 1, x, hn, h1, h2 => by
    rw [List.nodup_cons] at hn
    have e : y = x := Option.some.inj h1
    have h2 : l[j]? = some x := by simpa using h2
    exact absurd (e ▸ List.mem_of_getElem? h2) hn.1
  | y :: l, i + 1, 0, x, hn, h1, h2 => by
    rw [List.nodup_cons] at hn
    have e : y = x := Option.some.inj h2
    have h1 : l[i]? = some x := by simpa using h1
    exact absurd (e ▸ List.mem_of_getElem? h1) hn.1
  | y :: l, i + 1, j + 1, x, hn, h1, h2 => by
    rw [List.nodup_cons] at hn
    exact congrArg (· + 1) (nodup_at hn.2 (by simpa using h1) (by simpa using h2))
theorem At.inj {N : Nds} (hn : N.Nodup) {c : Nat} {a : Bd} (h : At N c a) : ∀ {d : Nat}, At N d a → c = d := by
  induction h with
  | f => intro d hd; cases hd; rfl
  | t => intro d hd; cases hd; rfl
  | nd hk _ _ ia ib =>
    intro d hd
    cases hd with
    | nd hk2 ha2 hb2 =>
      have e1 := ia ha2
      have e2 := ib hb2
      subst e1 e2
      rw [nodup_at hn hk hk2]
theorem At.lt {N : Nds} {c : Nat} {a : Bd} (h : At N c a) : c < N.length + 2 := by
  cases h with
  | f => omega
  | t => omega
  | nd hk _ _ => have := (List.getElem?_eq_some_iff.mp hk).1; omega
theorem At.leaf {N : Nds} {c : Nat} {b : Bool} (h : At N c (.lf b)) : c = if b = true then 1 else 0 := by cases h <;> rfl
theorem At.ge {N : Nds} {c : Nat} {a : Bd} (h : At N c a) (h2 : 2 ≤ c) : ∃ e w t a1 b1, N[c - 2]? = some (e, w, t) ∧ At N w a1 ∧ At N t b1 ∧ a = .nd e a1 b1 := by
  cases h with
  | f => omega
  | t => omega
  | nd hk ha hb => exact ⟨_, _, _, _, _, hk, ha, hb, rfl⟩

/-! ### a store of diagrams in the heap -/
/-! ### what is made of tuples stands where all tuples stand -/
theorem SqT.tsn {K : PySem.W.Frag} {H H' : Hp} {a : Addr} {xs : List V} (e : ∀ b o, (∃ ys, o = HO.tup ys) ∨ (∃ q u, o = HO.frz q u) → H b = some o → H' b = some o) (h : SqT K H a xs) : SqT K H' a xs := by
  rcases h with (h | ⟨o, h⟩) | h
  · exact .inl (.inl (e _ _ (.inl ⟨_, rfl⟩) h))
  · exact .inl (.inr ⟨o, e _ _ (.inr ⟨_, _, rfl⟩) h⟩)
  · exact .inr h
mutual
/-- what is made of tuples stands where all tuples stand -/
theorem Dp.tsn {K : PySem.W.Frag} {H H' : Hp} (e : ∀ b o, (∃ ys, o = HO.tup ys) ∨ (∃ q u, o = HO.frz q u) → H b = some o → H' b = some o) : ∀ (d : PyData) (v : V), tupOnly d = true → Dp K H v d → Dp K H' v d
  | .none, _, _, h => by cases h; exact .non
  | .bool b, _, _, h => by cases h; exact .bl b
  | .int i, _, _, h => by cases h; exact .int i
  | .str x, _, _, h => by cases h; exact .str x
  | .list ds, _, e', _ => by unfold tupOnly at e'; cases e'
  | .tuple ds, _, e', h => by
    unfold tupOnly at e'
    cases h with
    | tup hs ha => exact .tup (SqT.tsn e hs) (DpAll.tsn e ds _ e' ha)
  | .dict _, _, _, h => by cases h
theorem DpAll.tsn {K : PySem.W.Frag} {H H' : Hp} (e : ∀ b o, (∃ ys, o = HO.tup ys) ∨ (∃ q u, o = HO.frz q u) → H b = some o → H' b = some o) : ∀ (ds : List PyData) (vs : List V), tupOnlys ds = true → DpAll K H vs ds → DpAll K H' vs ds
  | [], _, _, h => by cases h; exact .nil
  | d :: ds, _, e', h => by
    unfold tupOnlys at e'
    rw [Bool.and_eq_true] at e'
    cases h with
    | cons h1 h2 => exact .cons (Dp.tsn e d _ e'.1 h1) (DpAll.tsn e ds _ e'.2 h2)
end

/-- the instance, its list, its two dicts -/
structure SA where
  p : Addr
  k : Addr
  u : Addr
  m : Addr
def sfl (s : SA) : List (Str × V) := [("kept", .ref s.k), ("numbers", .ref s.u), ("combined", .ref s.m)]
theorem sf_kept (s : SA) : (sfl s).lookup ("kept" : Str) = some (.ref s.k) := rfl
theorem sf_num (s : SA) : (sfl s).lookup ("numbers" : Str) = some (.ref s.u) := rfl
theorem sf_comb (s : SA) : (sfl s).lookup ("combined" : Str) = some (.ref s.m) := rfl
theorem sf_no (s : SA) {m : Str} (h1 : (m == ("kept" : Str)) = false) (h2 : (m == ("numbers" : Str)) = false) (h3 : (m == ("combined" : Str)) = false) : (sfl s).lookup m = none := by
  unfold sfl
  simp only [List.lookup, h1, h2, h3]
/-- what stood stands, but for the store's list and dicts -/
def FdS (s : SA) (H H' : Hp) : Prop := ∀ b o, b ≠ s.k → b ≠ s.u → b ≠ s.m → H b = some o → H' b = some o
theorem FdS.refl (s : SA) (H : Hp) : FdS s H H := fun _ _ _ _ _ h => h
theorem FdS.trans {s : SA} {H H1 H2 : Hp} (a : FdS s H H1) (b : FdS s H1 H2) : FdS s H H2 := fun x o h1 h2 h3 h => b x o h1 h2 h3 (a x o h1 h2 h3 h)
theorem FdS.of {s : SA} {H H' : Hp} (a : Same H H') : FdS s H H' := fun x o _ _ _ h => a x o h
def nD (n : Int × Nat × Nat) : PyData := .tuple [.int n.1, .int (n.2.1 : Nat), .int (n.2.2 : Nat)]
theorem nD_only : ∀ N : Nds, tupOnlys (N.map nD) = true
  | [] => rfl
  | n :: N => by
    rw [List.map_cons]
    unfold tupOnlys
    rw [nD_only N]
    rfl
abbrev ky3 (a b c : Int) : List Key := [.inl a, .inl b, .inl c]
def NumsOk (N : Nds) (kvs : List (List Key × V)) : Prop := (∀ (e : Int) (w t : Nat), valV kvs (ky3 e w t) = none → (e, w, t) ∉ N) ∧ ∀ (e : Int) (w t : Nat) v, valV kvs (ky3 e w t) = some v → ∃ i : Nat, N[i]? = some (e, w, t) ∧ v = .int ((i + 2 : Nat) : Int)
/-- the diagram that is one of two, where a third one holds -/
def IsIte (es : List Int) (a b c d : Bd) : Prop := Wf es d ∧ ∀ r, d.ev r = if a.ev r = true then b.ev r else c.ev r
def MemoOk (N : Nds) (es : List Int) (cvs : List (List Key × V)) : Prop := ∀ (c a b : Nat) v, valV cvs (ky3 c a b) = some v → ∃ (r : Nat) (A B C T : Bd), v = .int (r : Int) ∧ At N c A ∧ At N a B ∧ At N b C ∧ At N r T ∧ IsIte es A B C T
def Sto (C : Addr) (K : PySem.W.Frag) (H : Hp) (s : SA) (N : Nds) (es : List Int) (L : Nat) : Prop :=
  (∃ dx, H s.p = some (.ins C dx (sfl s))) ∧ (∃ xs, H s.k = some (.lst xs) ∧ DpAll K H xs (N.map nD)) ∧ (∃ kvs, H s.u = some (.dT kvs) ∧ kvs.length ≤ N.length ∧ NumsOk N kvs) ∧
    (∃ cvs, H s.m = some (.dT cvs) ∧ cvs.length ≤ L ∧ MemoOk N es cvs) ∧ N.Nodup ∧ s.u ≠ s.m ∧ es.Pairwise (· < ·)
section
variable {C : Addr} {K : PySem.W.Frag} {H H' : Hp} {s : SA} {N : Nds} {es : List Int} {L : Nat}
theorem Sto.ins (h : Sto C K H s N es L) : ∃ dx, H s.p = some (.ins C dx (sfl s)) := h.1
theorem Sto.nd (h : Sto C K H s N es L) : N.Nodup := h.2.2.2.2.1
theorem Sto.srt (h : Sto C K H s N es L) : es.Pairwise (· < ·) := h.2.2.2.2.2.2
theorem Sto.es_nd (h : Sto C K H s N es L) : es.Nodup := h.srt.imp fun h => by omega
theorem Sto.ext (e : Same H H') (h : Sto C K H s N es L) : Sto C K H' s N es L := by
  obtain ⟨⟨dx, h1⟩, ⟨xs, h2, h3⟩, ⟨kvs, h4, h5⟩, ⟨cvs, h6, h7⟩, h8⟩ := h
  exact ⟨⟨dx, e _ _ h1⟩, ⟨xs, e _ _ h2, DpAll.ext e _ _ h3⟩, ⟨kvs, e _ _ h4, h5⟩, ⟨cvs, e _ _ h6, h7⟩, h8⟩
theorem Sto.tup (h : Sto C K H s N es L) (f : FdS s H H') : ∀ b o, (∃ ys, o = HO.tup ys) ∨ (∃ q u, o = HO.frz q u) → H b = some o → H' b = some o := by
  obtain ⟨_, ⟨xs, h2, _⟩, ⟨kvs, h4, _⟩, ⟨cvs, h6, _⟩, _⟩ := h
  rintro b o (⟨ys, rfl⟩ | ⟨q, u, rfl⟩) hb
  · exact f _ _ (ne_of hb h2 (fun z => nomatch z)) (ne_of hb h4 (fun z => nomatch z)) (ne_of hb h6 (fun z => nomatch z)) hb
  · exact f _ _ (ne_of hb h2 (fun z => nomatch z)) (ne_of hb h4 (fun z => nomatch z)) (ne_of hb h6 (fun z => nomatch z)) hb
theorem Sto.dp (h : Sto C K H s N es L) (f : FdS s H H') {d : PyData} {v : V} (ht : tupOnly d = true) (hd : Dp K H v d) : Dp K H' v d := Dp.tsn (h.tup f) d v ht hd
theorem Sto.at (h : Sto C K H s N es L) {c : Nat} {n : Int × Nat × Nat} (h2 : 2 ≤ c) (hn : N[c - 2]? = some n) : ∃ dx xs q, H s.p = some (.ins C dx (sfl s)) ∧ SqL K H s.k xs ∧ atI xs ((c : Int) - 2) = some (.ref q) ∧ SqT K H q [.int n.1, .int (n.2.1 : Nat), .int (n.2.2 : Nat)] := by
  obtain ⟨⟨dx, h1⟩, ⟨xs, h3, h4⟩, _⟩ := h
  obtain ⟨v, hv, hd⟩ := DpAll.get h4 (show (N.map nD)[c - 2]? = some (nD n) by rw [List.getElem?_map, hn]; rfl)
  have e : (c : Int) - 2 = ((c - 2 : Nat) : Int) := by omega
  cases hd with
  | @tup q _ _ hs ha =>
    cases ha with
    | cons g1 g2 =>
      cases g1
      cases g2 with
      | cons g3 g4 =>
        cases g3
        cases g4 with
        | cons g5 g6 =>
          cases g5
          cases g6
          exact ⟨dx, xs, q, h1, .of h3, by rw [e]; exact atI_nat hv, hs⟩
end
theorem NumsOk.snoc {N : Nds} {kvs : List (List Key × V)} (h : NumsOk N kvs) {e : Int} {w t : Nat} (hn : valV kvs (ky3 e w t) = none) : NumsOk (N ++ [(e, w, t)]) (putK kvs (ky3 e w t) (.int ((N.length + 2 : Nat) : Int))) := by
  have inj : ∀ {e' : Int} {w' t' : Nat}, ky3 e' w' t' = ky3 e w t → (e', w', t') = (e, w, t) := by
    intro e' w' t' h
    injection h with h1 h2
    injection h2 with h2 h3
    injection h3 with h3 _
    injection h1 with h1
    injection h2 with h2
    injection h3 with h3
    have : w' = w := by omega
    have : t' = t := by omega
    subst_vars
    rfl
  refine ⟨fun e' w' t' h' hm => ?_, fun e' w' t' v h' => ?_⟩
  · rw [valV_put] at h'
    split at h'
    · cases h'
    · rename_i hne
      rcases List.mem_append.mp hm with hm | hm
      · exact h.1 _ _ _ h' hm
      · rw [List.mem_singleton] at hm
        cases hm
        exact hne rfl
  · rw [valV_put] at h'
    split at h'
    · rename_i he
      cases inj he
      refine ⟨N.length, by rw [List.getElem?_append_right (Nat.le_refl _), Nat.sub_self]; rfl, ?_⟩
      exact (Option.some.inj h').symm
    · obtain ⟨i, hi, hv⟩ := h.2 _ _ _ _ h'
      exact ⟨i, by rw [List.getElem?_append_left (List.getElem?_eq_some_iff.mp hi).1]; exact hi, hv⟩
theorem MemoOk.mono {N M : Nds} {es : List Int} {cvs : List (List Key × V)} (h : MemoOk N es cvs) : MemoOk (N ++ M) es cvs := fun c a b v hv => by
  obtain ⟨r, A, B, C, T, e, h1, h2, h3, h4, h5⟩ := h c a b v hv
  exact ⟨r, A, B, C, T, e, h1.mono, h2.mono, h3.mono, h4.mono, h5⟩
theorem MemoOk.put {N : Nds} {es : List Int} {cvs : List (List Key × V)} (h : MemoOk N es cvs) {c a b r : Nat} {A B C T : Bd} (h1 : At N c A) (h2 : At N a B) (h3 : At N b C) (h4 : At N r T) (h5 : IsIte es A B C T) : MemoOk N es (putK cvs (ky3 c a b) (.int (r : Int))) := fun c' a' b' v hv => by
  rw [valV_put] at hv
  split at hv
  · rename_i he
    injection he with e1 e2
    injection e2 with e2 e3
    injection e3 with e3 _
    injection e1 with e1
    injection e2 with e2
    injection e3 with e3
    have e1 : c' = c := by omega
    have e2 : a' = a := by omega
    have e3 : b' = b := by omega
    subst e1 e2 e3
    exact ⟨r, A, B, C, T, (Option.some.inj hv).symm, h1, h2, h3, h4, h5⟩
  · exact h _ _ _ _ hv
/-! ### what both sides give -/
theorem Wf.skips {es : List Int} {a : Bd} (h : Wf es a) : ∀ pre : List Int, Wf (pre ++ es) a
  | [] => h
  | _ :: pre => .skip (h.skips pre)
theorem ite_step {x : Int} {es : List Int} {a b c t1 t2 : Bd} (hx : x ∉ es) (ha : Wf (x :: es) a) (hb : Wf (x :: es) b) (hc : Wf (x :: es) c) (h1 : IsIte es (a.cw x) (b.cw x) (c.cw x) t1) (h2 : IsIte es (a.ct x) (b.ct x) (c.ct x) t2) : IsIte (x :: es) a b c (mkB x t1 t2) := by
  refine ⟨mkB_wf h1.1 h2.1, fun r => ?_⟩
  have hs : ∀ v, r x = v → setR r x v = r := fun v e => by
    funext y
    by_cases hy : y = x
    · subst hy
      rw [setR_same, e]
    · rw [setR_ne hy]
  rw [mkB_ev]
  cases e : r x with
  | true => rw [if_pos rfl, h2.2, (ha.ct hx).2, (hb.ct hx).2, (hc.ct hx).2, hs _ e]
  | false => rw [if_neg Bool.false_ne_true, h1.2, (ha.cw hx).2, (hb.cw hx).2, (hc.cw hx).2, hs _ e]
/-- there is one -/
theorem ite_ex : ∀ {es : List Int} {a b c : Bd}, es.Nodup → Wf es a → Wf es b → Wf es c → ∃ t, IsIte es a b c t
  | [], a, b, c, _, ha, hb, hc => by
    cases ha with
    | @lf _ v =>
      cases v with
      | true => exact ⟨b, hb, fun _ => (if_pos rfl).symm⟩
      | false => exact ⟨c, hc, fun _ => (if_neg Bool.false_ne_true).symm⟩
  | x :: es, a, b, c, hn, ha, hb, hc => by
    rw [List.nodup_cons] at hn
    obtain ⟨t1, h1⟩ := ite_ex hn.2 (ha.cw hn.1).1 (hb.cw hn.1).1 (hc.cw hn.1).1
    obtain ⟨t2, h2⟩ := ite_ex hn.2 (ha.ct hn.1).1 (hb.ct hn.1).1 (hc.ct hn.1).1
    exact ⟨_, ite_step hn.1 ha hb hc h1 h2⟩
theorem ite_low {pre es : List Int} {a b c t : Bd} (hn : (pre ++ es).Nodup) (ha : Wf es a) (hb : Wf es b) (hc : Wf es c) (h : IsIte (pre ++ es) a b c t) : IsIte es a b c t := by
  obtain ⟨t', h'⟩ := ite_ex (List.nodup_append.mp hn).2.1 ha hb hc
  have e := canon hn h.1 (h'.1.skips pre) fun r => by rw [h.2, h'.2]
  rw [e]
  exact h'
theorem IsIte.skips {es : List Int} {a b c t : Bd} (pre : List Int) (h : IsIte es a b c t) : IsIte (pre ++ es) a b c t := ⟨h.1.skips pre, h.2⟩
/-- the question of the first one that has one -/
theorem top_ex : ∀ {es : List Int} {cs : List Bd}, (∀ a ∈ cs, Wf es a) → (∃ a ∈ cs, ∀ b, a ≠ .lf b) → ∃ pre x rest, es = pre ++ x :: rest ∧ (∀ a ∈ cs, Wf (x :: rest) a) ∧ ∃ w t, Bd.nd x w t ∈ cs
  | [], cs, h, ⟨a, ha, hn⟩ => by
    have := h a ha
    cases this
    exact absurd rfl (hn _)
  | x :: es, cs, h, hex => by
    by_cases hx : ∃ w t, Bd.nd x w t ∈ cs
    · exact ⟨[], x, es, rfl, h, hx⟩
    · have h' : ∀ a ∈ cs, Wf es a := fun a ha => by
        cases h a ha with
        | lf => exact .lf
        | here _ _ _ => exact absurd ⟨_, _, ha⟩ hx
        | skip h => exact h
      obtain ⟨pre, y, rest, e, h1, h2⟩ := top_ex h' hex
      exact ⟨x :: pre, y, rest, by rw [e]; rfl, h1, h2⟩
theorem Wf.head {es : List Int} {x : Int} {w t : Bd} (h : Wf es (.nd x w t)) : x ∈ es := h.none_of

/-! ### methods, defs that a name holds, instances -/
structure ClM (P : Program) (w : World) (K : PySem.W.Frag) (mg : Str → Option Value) (base : Heap) (k : Nat) (C : Addr) (m : Str) (sp : Sp) : Prop where
  ex : ∃ (f : Addr) (fd : FuncData) (ps : List Str), FnOk P w K mg base CX0 k f fd ps sp ∧ Meth K C m f ∧ Cls K C ∧ Binds K fd ps []
structure ClC (P : Program) (w : World) (K : PySem.W.Frag) (mg : Str → Option Value) (base : Heap) (k : Nat) (x : Str) (C : Addr) (sp : Sp) : Prop where
  ex : ∃ (f : Addr) (fd : FuncData) (ps : List Str), FnOk P w K mg base CX0 k f fd ps sp ∧ Mk K C f ∧ mg x = some (.ref C) ∧ Binds K fd ps []
theorem FnOk.clm {P : Program} {w : World} {K : PySem.W.Frag} {mg : Str → Option Value} {base : Heap} {k : Nat} {C : Addr} {m : Str} {f : Addr} {fd : FuncData} {ps : List Str} {sp : Sp} (h : FnOk P w K mg base CX0 k f fd ps sp) (mt : Meth K C m f) (cl : Cls K C) (b : Binds K fd ps []) : ClM P w K mg base k C m sp := ⟨f, fd, ps, h, mt, cl, b⟩
section
variable {X : Cx} {k j i : Nat} {m x : Str} {C : Addr} {sp : Sp} {p pos apos : Pos} {o e : Expr} {es : List Expr} {t : TA} {ta : TE}
theorem pe_mt {pl : Sem Bool} (c : ClM X.prog X.w X.K X.mg X.base k C m sp) (hr : Room j X.A) (hk : k ≤ j) (he : PE X o ta) (ha : PA X (e :: es) t) (hst : starEach (e :: es) X.env = (false, eval e X.env) :: starEach es X.env := by rfl) (hpl : (backTo pos (starEach es X.env)).any (·.1) = false := by rfl)
    (ht : eval (.Call (.Attribute o m apos) (e :: es) [] pos) X.env = (do let ov ← eval o X.env; standAt apos.atName; let (f, first) ← holding [ov] (getMethod ov m pl); callWith pos f first (backTo pos (starEach (e :: es) X.env)) (backToKw pos (keywordEach [] X.env))) := by rfl) : PE X (.Call (.Attribute o m apos) (e :: es) [] pos) (tMeth C m sp [] E0 ta t) := by
  obtain ⟨f, fd, ps, F, hm, cl, b⟩ := c.ex
  exact pe_meth he cl hm F (hr.mono hk) b .nil pass0 ha hst hpl ht
theorem pe_mt0 {pl : Sem Bool} (c : ClM X.prog X.w X.K X.mg X.base k C m sp) (hr : Room j X.A) (hk : k ≤ j) (he : PE X o ta)
    (ht : eval (.Call (.Attribute o m apos) [] [] pos) X.env = (do let ov ← eval o X.env; standAt apos.atName; let (f, first) ← holding [ov] (getMethod ov m pl); callWith pos f first (backTo pos (starEach [] X.env)) (backToKw pos (keywordEach [] X.env))) := by rfl) : PE X (.Call (.Attribute o m apos) [] [] pos) (tMeth C m sp [] E0 ta tNil) := by
  obtain ⟨f, fd, ps, F, hm, cl, b⟩ := c.ex
  exact pe_meth0 he cl hm F (hr.mono hk) b .nil pass0 ht
theorem pe_mk (c : ClC X.prog X.w X.K X.mg X.base k x C sp) (hr : Room j X.A) (hk : k + 1 ≤ j) (hg : L2.Gl X x) (ha : PA X (e :: es) t) (hdb : (x == ("__debug__" : Str)) = false := by decide) (he : starEach (e :: es) X.env = (false, eval e X.env) :: starEach es X.env := by rfl) (hpl : (backTo pos (starEach es X.env)).any (·.1) = false := by rfl) : PE X (.Call (.Name x p) (e :: es) [] pos) (tMake C sp [] E0 t) := by
  obtain ⟨f, fd, ps, F, M, hm, b⟩ := c.ex
  exact pe_make M F (hr.mono hk) hg hm b .nil pass0 ha hdb he hpl
theorem pe_mk0 (c : ClC X.prog X.w X.K X.mg X.base k x C sp) (hr : Room j X.A) (hk : k + 1 ≤ j) (hg : L2.Gl X x) (hdb : (x == ("__debug__" : Str)) = false := by decide) : PE X (.Call (.Name x p) [] [] pos) (tMake C sp [] E0 tNil) := by
  obtain ⟨f, fd, ps, F, M, hm, b⟩ := c.ex
  exact pe_make0 M F (hr.mono hk) hg hm b .nil pass0 hdb
end

/-! ### the store's methods -/
structure DgC (K : PySem.W.Frag) (C : Addr) (mg : Str → Option Value) : Prop where
  cl : Cls K C
  nK : NoAttr K C "kept"
  nN : NoAttr K C "numbers"
  nM : NoAttr K C "combined"
  NEVER : ∃ u, mg "NEVER" = some u ∧ RelV (.int 0) u
  ALWAYS : ∃ u, mg "ALWAYS" = some u ∧ RelV (.int 1) u
  FIRST_NODE : ∃ u, mg "FIRST_NODE" = some u ∧ RelV (.int 2) u
theorem Sto.go {C : Addr} {K : PySem.W.Frag} {H : Hp} {s : SA} {N : Nds} {es : List Int} {L : Nat} (h : Sto C K H s N es L) {m : Str} (h1 : (m == ("kept" : Str)) = false) (h2 : (m == ("numbers" : Str)) = false) (h3 : (m == ("combined" : Str)) = false) {R : Prop} (r : R) : ∃ a dx fs, V.ref s.p = .ref a ∧ H a = some (.ins C dx fs) ∧ fs.lookup m = none ∧ R := by
  obtain ⟨dx, hp⟩ := h.ins
  exact ⟨s.p, dx, _, rfl, hp, sf_no s h1 h2 h3, r⟩
def sp_nof (C : Addr) (K : PySem.W.Frag) : Sp := fun vs H Q _ => ∃ s N es L c n, vs = [.ref s.p, .int ((c : Nat) : Int)] ∧ Sto C K H s N es L ∧ 2 ≤ c ∧ N[c - 2]? = some n ∧ ∀ q, SqT K H q [.int n.1, .int (n.2.1 : Nat), .int (n.2.2 : Nat)] → Q (.ref q) H
def sp_node (C : Addr) (K : PySem.W.Frag) : Sp := fun vs H Q _ => ∃ s N es L x w t W T, vs = [.ref s.p, .int x, .int ((w : Nat) : Int), .int ((t : Nat) : Int)] ∧ Sto C K H s N es L ∧ At N w W ∧ At N t T ∧ N.length + 1 < sizeLine ∧
  ∀ H' M r, FdS s H H' → M.length ≤ 1 → Sto C K H' s (N ++ M) es L → At (N ++ M) r (mkB x W T) → Q (.int ((r : Nat) : Int)) H'
def sp_top (C : Addr) (K : PySem.W.Frag) : Sp := fun vs H Q _ => ∃ s N es L pre es' a, ∃ cs : List (Nat × Bd), vs = [.ref s.p, .ref a] ∧ Sto C K H s N es L ∧ SqT K H a (cs.map fun c => .int ((c.1 : Nat) : Int)) ∧ es = pre ++ es' ∧ cs.length ≤ 3 ∧ (∀ c ∈ cs, At N c.1 c.2 ∧ Wf es' c.2) ∧ (∃ c ∈ cs, 2 ≤ c.1) ∧
  ∀ H' pre2 x es2, Same H H' → es' = pre2 ++ x :: es2 → (∀ c ∈ cs, Wf (x :: es2) c.2) → Q (.int x) H'
def sp_bra (C : Addr) (K : PySem.W.Frag) : Sp := fun vs H Q _ => ∃ s N es L x es2 c A, vs = [.ref s.p, .int ((c : Nat) : Int), .int x] ∧ Sto C K H s N es L ∧ At N c A ∧ Wf (x :: es2) A ∧ x ∉ es2 ∧
  ∀ H' q w t, Same H H' → H' q = some (.tup [.int ((w : Nat) : Int), .int ((t : Nat) : Int)]) → At N w (A.cw x) → At N t (A.ct x) → Q (.ref q) H'
def sp_comb (C : Addr) (K : PySem.W.Frag) (n : Nat) : Sp := fun vs H Q _ => ∃ s N es L pre es' c a b A B D, vs = [.ref s.p, .int ((c : Nat) : Int), .int ((a : Nat) : Int), .int ((b : Nat) : Int)] ∧ Sto C K H s N es L ∧ es = pre ++ es' ∧ es'.length < n ∧ At N c A ∧ At N a B ∧ At N b D ∧ Wf es' A ∧ Wf es' B ∧ Wf es' D ∧
  N.length + 2 ^ es'.length < sizeLine ∧ L + 2 ^ es'.length < sizeLine ∧
  ∀ H' M r T, FdS s H H' → M.length + 1 ≤ 2 ^ es'.length → Sto C K H' s (N ++ M) es (L + (2 ^ es'.length - 1)) → At (N ++ M) r T → IsIte es' A B D T → Q (.int ((r : Nat) : Int)) H'
section
variable {P : Program} {w : World} {K : PySem.W.Frag} {mg : Str → Option Value} {base : Heap}
theorem ok_nof {f C : Addr} {fd : FuncData} (F : Fun K "node_of" "Diagrams.node_of" s_Diagrams_node_of f fd) (M : Mg mg) (G : DgC K C mg) : FnOk P w K mg base CX0 1 f fd ["self", "condition"] (sp_nof C K) := by
  refine F.ok sc_Diagrams_node_of (fun vs H Q E h => ?_) (fun cdv A outer s H vs Q E hr h => ?_)
  · obtain ⟨s, N, es, L, c, n, rfl, _⟩ := h
    rfl
  · obtain ⟨s, N, es, L, c, n, rfl, st, h2, hn, q⟩ := h
    obtain ⟨dx, xs, a, hp, hk, hat, hq⟩ := st.at h2 hn
    refine ⟨_, (pss_one (ps_ret (pe_ix (ix_listK K) (pe_fld (pv 0) rfl) (pe_op op_sub (pv 1) (C8.pe_gc (by rfl) G.FIRST_NODE)) (fun _ _ => rfl)))), ?_⟩
    exact ⟨_, rfl, s.p, C, dx, _, _, rfl, hp, G.cl, G.nK, sf_kept s, _, rfl, _, _, rfl, rfl, s.k, xs, _, _, rfl, rfl, hk, hat, q a hq⟩
theorem ok_node {f C : Addr} {fd : FuncData} (F : Fun K "node" "Diagrams.node" s_Diagrams_node f fd) (M : Mg mg) (G : DgC K C mg) : FnOk P w K mg base CX0 1 f fd ["self", "entry", "without", "there"] (sp_node C K) := by
  refine F.ok sc_Diagrams_node (fun vs H Q E h => ?_) (fun cdv A outer s H vs Q E hr h => ?_)
  · obtain ⟨s, N, es, L, x, w, t, W, T, rfl, _⟩ := h
    rfl
  · obtain ⟨s, N, es, L, x, w, t, W, T, rfl, st, hw, ht, hz, q⟩ := h
    refine ⟨_, (pss_cons (ps_if (pt_cmpR op_eq (pv 2) (pv 3) (nomark _)) (pss_one (ps_ret (pv 2))) pss_nil)
      (pss_cons (ps_set (i := 4) sc_Diagrams_node.nd rfl (.inl rfl) (pe_tup (pa_cons (pv 1) (pa_cons (pv 2) (pa_cons (pv 3) pa_nil)))))
      (pss_cons (ps_if (pt_cmp (pc_dnotin (hu_of hr) (pv 4) (pe_fld (pv 0) rfl))) (pss_cons (ps_dput (hu_of hr) (pe_fld (pv 0) rfl) (pv 4) (pe_op op_add (pe_callB (len_seqK K) (by rfl) M.len PySem.boot_len (pa_cons (pe_fld (pv 0) rfl) pa_nil)) (C8.pe_gc (by rfl) G.FIRST_NODE)) rfl)
      (pss_one (ps_expr (pe_bmK K PySem.F.plainAttrs_list PySem.F.slot_list_append PySem.F.type_list_append mt_append (pe_fld (pv 0) rfl) (pa_cons (pv 4) pa_nil))))) pss_nil)
      (pss_one (ps_ret (pe_dget (hu_of hr) (pe_fld (pv 0) rfl) (pv 4) (fun _ _ => rfl))))))), ?_⟩
    refine ⟨_, rfl, _, rfl, rfl, _, rfl, ite2 (fun e => ?_) (fun e => ?_)⟩
    · have e1 : w = t := by
        have := V.int.inj (of_decide_eq_true e)
        omega
      subst e1
      have e2 := hw.fn ht
      subst e2
      refine ⟨_, rfl, q H [] w (FdS.refl s H) (Nat.zero_le _) (by rw [List.append_nil]; exact st) ?_⟩
      rw [List.append_nil, show mkB x W W = W from if_pos rfl]
      exact hw
    · have hne : W ≠ T := fun z => by
        subst z
        exact e (by rw [hw.inj st.nd ht]; exact decide_eq_true rfl)
      have em : mkB x W T = .nd x W T := if_neg hne
      rw [em] at q
      refine ⟨_, rfl, _, rfl, _, rfl, by show 3 ≤ sizeLine; decide, fun tp ntp => ?_⟩
      have s1 := same_upd ntp (o := .tup [.int x, .int ((w : Nat) : Int), .int ((t : Nat) : Int)])
      have et : (upd H tp (.tup [.int x, .int ((w : Nat) : Int), .int ((t : Nat) : Int)])) tp = some (.tup ((ky3 x w t).map kV)) := upd_same
      generalize upd H tp (.tup [.int x, .int ((w : Nat) : Int), .int ((t : Nat) : Int)]) = H1 at s1 et
      have st1 := st.ext s1
      obtain ⟨⟨dx, hp⟩, ⟨xs, hk, hxs⟩, ⟨kvs, hu, hkl, hko⟩, ⟨cvs, hm, hcl, hco⟩, hnd, hum, hes⟩ := id st1
      have npk : s.p ≠ s.k := ne_of hp hk (fun z => nomatch z)
      have npu : s.p ≠ s.u := ne_of hp hu (fun z => nomatch z)
      have nku : s.k ≠ s.u := ne_of hk hu (fun z => nomatch z)
      have nkm : s.k ≠ s.m := ne_of hk hm (fun z => nomatch z)
      have ntk : tp ≠ s.k := ne_of et hk (fun z => nomatch z)
      have ntu : tp ≠ s.u := ne_of et hu (fun z => nomatch z)
      refine ⟨_, rfl, _, rfl, s.p, C, dx, _, _, rfl, hp, G.cl, G.nN, sf_num s, s.u, _, rfl, DGet.t hu et, _, rfl, ?_⟩
      cases ev : valV kvs (ky3 x w t) with
      | some v =>
        obtain ⟨i, hi, rfl⟩ := hko.2 _ _ _ _ ev
        refine iteF ?_
        refine ⟨_, rfl, s.p, C, dx, _, _, rfl, hp, G.cl, G.nN, sf_num s, _, rfl, s.u, .int ((i + 2 : Nat) : Int), rfl, ?_, ?_⟩
        · have := DGet.t hu et
          rw [ev] at this
          exact this
        · exact q H1 [] (i + 2) (FdS.of s1) (Nat.zero_le _) (by rw [List.append_nil]; exact st1) (by rw [List.append_nil]; exact .nd hi hw ht)
      | none =>
        have hnew : (x, w, t) ∉ N := hko.1 _ _ _ ev
        have lxs : xs.length = N.length := by rw [DpAll.len hxs, List.length_map]
        refine iteT ?_
        refine ⟨_, rfl, s.p, C, dx, _, _, rfl, hp, G.cl, G.nK, sf_kept s, s.k, xs, rfl, .inl (.of hk), _, _, rfl, rfl, _, rfl, s.p, C, dx, _, _, rfl, hp, G.cl, G.nN, sf_num s, _, rfl, s.u, _, rfl, DPut.t hu et (by omega), ?_⟩
        rw [lxs]
        dsimp only
        rw [show ((N.length : Nat) : Int) + 2 = ((N.length + 2 : Nat) : Int) by omega]
        have hk2 : (upd H1 s.u (.dT (putK kvs (ky3 x w t) (.int ((N.length + 2 : Nat) : Int))))) s.k = some (.lst xs) := by rw [upd_ne nku]; exact hk
        have hp2 : (upd H1 s.u (.dT (putK kvs (ky3 x w t) (.int ((N.length + 2 : Nat) : Int))))) s.p = some (.ins C dx (sfl s)) := by rw [upd_ne npu]; exact hp
        refine ⟨_, rfl, s.p, C, dx, _, _, rfl, hp2, G.cl, G.nK, sf_kept s, .inl ⟨rfl, _, .inl (.inl hk2)⟩, _, rfl, s.k, xs, _, rfl, rfl, hk2, by omega, ?_⟩
        have eu3 : (upd (upd H1 s.u (.dT (putK kvs (ky3 x w t) (.int ((N.length + 2 : Nat) : Int))))) s.k (.lst (xs ++ [.ref tp]))) s.u = some (.dT (putK kvs (ky3 x w t) (.int ((N.length + 2 : Nat) : Int)))) := by rw [upd_ne nku.symm, upd_same]
        have f3 : FdS s H1 (upd (upd H1 s.u (.dT (putK kvs (ky3 x w t) (.int ((N.length + 2 : Nat) : Int))))) s.k (.lst (xs ++ [.ref tp]))) := fun b o n1 n2 n3 hb => by
          rw [upd_ne n1, upd_ne n2]
          exact hb
        have ep3 : (upd (upd H1 s.u (.dT (putK kvs (ky3 x w t) (.int ((N.length + 2 : Nat) : Int))))) s.k (.lst (xs ++ [.ref tp]))) s.p = some (.ins C dx (sfl s)) := by rw [upd_ne npk]; exact hp2
        have em3 : (upd (upd H1 s.u (.dT (putK kvs (ky3 x w t) (.int ((N.length + 2 : Nat) : Int))))) s.k (.lst (xs ++ [.ref tp]))) s.m = some (.dT cvs) := by rw [upd_ne nkm.symm, upd_ne hum.symm]; exact hm
        have ek3 : (upd (upd H1 s.u (.dT (putK kvs (ky3 x w t) (.int ((N.length + 2 : Nat) : Int))))) s.k (.lst (xs ++ [.ref tp]))) s.k = some (.lst (xs ++ [.ref tp])) := upd_same
        have et3 : (upd (upd H1 s.u (.dT (putK kvs (ky3 x w t) (.int ((N.length + 2 : Nat) : Int))))) s.k (.lst (xs ++ [.ref tp]))) tp = some (.tup ((ky3 x w t).map kV)) := by rw [upd_ne ntk, upd_ne ntu]; exact et
        generalize upd (upd H1 s.u (.dT (putK kvs (ky3 x w t) (.int ((N.length + 2 : Nat) : Int))))) s.k (.lst (xs ++ [.ref tp])) = H3 at eu3 f3 ep3 em3 ek3 et3
        have nk : NumsOk (N ++ [(x, w, t)]) (putK kvs (ky3 x w t) (.int ((N.length + 2 : Nat) : Int))) := hko.snoc ev
        have st3 : Sto C K H3 s (N ++ [(x, w, t)]) es L := by
          refine ⟨⟨dx, ep3⟩, ⟨_, ek3, ?_⟩, ⟨_, eu3, ?_, nk⟩, ⟨cvs, em3, hcl, hco.mono⟩, ?_, hum, hes⟩
          · rw [List.map_append]
            exact DpAll.snoc (DpAll.tsn (st1.tup f3) _ _ (nD_only _) hxs) (.tup (.of et3) (.cons (.int _) (.cons (.int _) (.cons (.int _) .nil))))
          · have := length_putK kvs (ky3 x w t) (.int ((N.length + 2 : Nat) : Int))
            rw [List.length_append]
            show _ ≤ _ + 1
            omega
          · rw [List.nodup_append]
            exact ⟨hnd, List.nodup_cons.mpr ⟨List.not_mem_nil, List.nodup_nil⟩, fun a ha b hb z => by
              rw [List.mem_singleton] at hb
              subst z hb
              exact hnew ha⟩
        refine ⟨_, rfl, s.p, C, dx, _, _, rfl, ep3, G.cl, G.nN, sf_num s, _, rfl, s.u, .int ((N.length + 2 : Nat) : Int), rfl, ?_, ?_⟩
        · have := DGet.t eu3 et3
          rw [valV_put, if_pos rfl] at this
          exact this
        · refine q H3 [(x, w, t)] (N.length + 2) ((FdS.of s1).trans f3) (Nat.le_refl _) st3 (.nd ?_ hw.mono ht.mono)
          rw [List.getElem?_append_right (Nat.le_refl _), Nat.sub_self]
          rfl
def topOf : Bd → Option Int
  | .nd x _ _ => some x
  | .lf _ => none
theorem srt_le {pre es : List Int} {x y : Int} (h : (pre ++ x :: es).Pairwise (· < ·)) (hy : y ∈ x :: es) : x ≤ y := by
  have h2 := (List.pairwise_append.mp h).2.1
  rw [List.pairwise_cons] at h2
  rcases List.mem_cons.mp hy with e | hy
  · omega
  · have := h2.1 y hy
    omega
theorem ok_top {f C : Addr} {fd : FuncData} (F : Fun K "top" "Diagrams.top" s_Diagrams_top f fd) (M : Mg mg) (G : DgC K C mg) (c_Diagrams_node_of : ClM P w K mg base 1 C "node_of" (sp_nof C K)) : FnOk P w K mg base CX0 2 f fd ["self", "conditions"] (sp_top C K) := by
  refine F.ok sc_Diagrams_top (fun vs H Q E h => ?_) (fun cdv A outer s H vs Q E hr h => ?_)
  · obtain ⟨s, N, es, L, pre, es', a, cs, rfl, _⟩ := h
    rfl
  · obtain ⟨s, N, es, L, pre, es', a, cs, rfl, st, ha, he, hl, hc, hex, q⟩ := h
    refine ⟨_, (pss_one (ps_ret (pe_callB (cr_min rfl) (by rfl) M.min (by decide +kernel) (pa_cons (pe_lc (own := [("condition", 2)]) (g := gName 2) rfl sc_Diagrams_top.nd (pi_tup (pv 1)) (blkOk_by (N := N_Diagrams_top) (sc := defScope s_Diagrams_top) (by decide +kernel)) (fun _ _ _ _ _ => (pg_name (i := 2) sc_Diagrams_top.nd rfl (.inl rfl))) (fun _ _ _ _ _ => (pts_one (pt_cmpR op_ge (pv 2) (C8.pe_gc (by rfl) G.FIRST_NODE) (nomark _)))) (fun _ _ _ _ _ => (pe_ix (ix_tupK K) (pe_mt c_Diagrams_node_of hr (by first | decide | omega) (pv 0) (pa_cons (pv 2) pa_nil)) pe_int (fun _ _ => rfl)))) pa_nil)))), ?_⟩
    refine ⟨_, rfl, a, rfl, ⟨_, ha⟩, fun D nD => ?_⟩
    refine lc_tup (K := K) (a := a) (xs := cs.map fun c => .int ((c.1 : Nat) : Int)) (fun i Hi => Same H Hi ∧ ∃ ns : List Int, Hi D = some (.lst (ns.map V.int)) ∧ ns.length ≤ i ∧ ns = (cs.take i).filterMap fun c => topOf c.2) ⟨same_upd nD, [], upd_same, Nat.zero_le _, rfl⟩ (fun i Hi _ hp => SqT.ext hp.1 ha) (fun i x Hi hx hp => ?_) (fun Hn hp => ?_)
    · obtain ⟨si, ns, eD, ln, en⟩ := hp
      rw [List.getElem?_map] at hx
      obtain ⟨c, hcv, rfl⟩ := Option.map_eq_some_iff.mp hx
      have hi : i < cs.length := (List.getElem?_eq_some_iff.mp hcv).1
      obtain ⟨hAt, hWf⟩ := hc c (List.mem_of_getElem? hcv)
      have sti := st.ext si
      refine ⟨rfl, ?_⟩
      refine ⟨_, rfl, _, _, rfl, rfl, _, rfl, ite2 (fun e => ?_) (fun e => ?_)⟩
      · have h2 : 2 ≤ c.1 := by
          have := of_decide_eq_true e
          omega
        obtain ⟨e1, w1, t1, a1, b1, hn, hw1, ht1, ea⟩ := hAt.ge h2
        refine ⟨_, rfl, sti.go (by decide +kernel) (by decide +kernel) (by decide +kernel) ⟨_, rfl, ?_⟩⟩
        refine ⟨s, N, es, L, c.1, _, rfl, sti, h2, hn, fun qa hq => ?_⟩
        refine ⟨qa, _, _, _, rfl, rfl, hq, atI_nat (j := 0) rfl, ?_⟩
        refine ⟨_, eD, by rw [List.length_map]; exact Nat.lt_of_le_of_lt ln (Nat.lt_of_lt_of_le hi (Nat.le_trans hl (by decide))), ?_, ns ++ [e1], ?_, ?_, ?_⟩
        · intro b o hb
          rw [upd_ne (ne_of_none hb nD)]
          exact si _ _ hb
        · rw [upd_same, List.map_append]
          rfl
        · rw [List.length_append]
          show _ + 1 ≤ _
          omega
        · rw [List.take_add_one, hcv, List.filterMap_append, ← en]
          show _ = _ ++ ([c].filterMap fun c => topOf c.2)
          rw [List.filterMap_cons, ea]
          rfl
      · have h2 : ¬ 2 ≤ c.1 := by
          intro h
          exact e (decide_eq_true (by omega))
        refine ⟨si, ns, eD, by omega, ?_⟩
        rw [List.take_add_one, hcv, List.filterMap_append, ← en]
        show _ = _ ++ ([c].filterMap fun c => topOf c.2)
        have : topOf c.2 = none := by
          generalize c.1 = cn at hAt h2
          generalize c.2 = A at hAt
          cases hAt with
          | f => rfl
          | t => rfl
          | nd _ _ _ => omega
        rw [List.filterMap_cons, this]
        exact (List.append_nil _).symm
    · obtain ⟨sn, ns, eD, ln, en⟩ := hp
      rw [List.length_map, List.take_of_length_le (Nat.le_refl _)] at en
      obtain ⟨c0, hc0, h20⟩ := hex
      have hex' : ∃ a ∈ cs.map (·.2), ∀ b, a ≠ .lf b := by
        refine ⟨c0.2, List.mem_map.mpr ⟨c0, hc0, rfl⟩, fun b z => ?_⟩
        obtain ⟨_, _, _, _, _, _, _, _, ea⟩ := (hc c0 hc0).1.ge h20
        rw [ea] at z
        cases z
      obtain ⟨pre2, x, es2, ee, hwf, w0, t0, hm0⟩ := top_ex (es := es') (cs := cs.map (·.2)) (fun a ha => by
        obtain ⟨c, hcm, rfl⟩ := List.mem_map.mp ha
        exact (hc c hcm).2) hex'
      have hwf' : ∀ c ∈ cs, Wf (x :: es2) c.2 := fun c hcm => hwf _ (List.mem_map.mpr ⟨c, hcm, rfl⟩)
      have hx : x ∈ ns := by
        obtain ⟨c, hcm, ec⟩ := List.mem_map.mp hm0
        rw [en]
        exact List.mem_filterMap.mpr ⟨c, hcm, by rw [ec]; rfl⟩
      refine ⟨D, ns, rfl, .of eD, List.length_pos_of_mem hx, fun m hm hmin => ?_⟩
      have h1 := hmin x hx
      rw [en] at hm
      obtain ⟨c, hcm, ec⟩ := List.mem_filterMap.mp hm
      have h2 : x ≤ m := by
        have hw := hwf' c hcm
        generalize c.2 = A at hw ec
        cases A with
        | lf b => cases ec
        | nd y w t =>
          have e : y = m := Option.some.inj ec
          subst e
          have srt := st.srt
          rw [he, ee, ← List.append_assoc] at srt
          exact srt_le srt hw.none_of
      obtain rfl : m = x := by omega
      exact q Hn pre2 m es2 sn ee hwf'
theorem ok_bra {f C : Addr} {fd : FuncData} (F : Fun K "branches" "Diagrams.branches" s_Diagrams_branches f fd) (M : Mg mg) (G : DgC K C mg) (c_Diagrams_node_of : ClM P w K mg base 1 C "node_of" (sp_nof C K)) : FnOk P w K mg base CX0 2 f fd ["self", "condition", "entry"] (sp_bra C K) := by
  refine F.ok sc_Diagrams_branches (fun vs H Q E h => ?_) (fun cdv A outer s H vs Q E hr h => ?_)
  · obtain ⟨s, N, es, L, x, es2, c, A, rfl, _⟩ := h
    rfl
  · obtain ⟨s, N, es, L, x, es2, c, A, rfl, st, hAt, hWf, hx, q⟩ := h
    refine ⟨_, (pss_cons (ps_if (pt_cmpR op_ge (pv 1) (C8.pe_gc (by rfl) G.FIRST_NODE) (nomark _)) (pss_cons (ps_asg (pe_mt c_Diagrams_node_of hr (by first | decide | omega) (pv 0) (pa_cons (pv 1) pa_nil)) (pg_tup (by rfl) (pgs_cons (pg_name (i := 3) sc_Diagrams_branches.nd rfl (.inl rfl)) (pgs_cons (pg_name (i := 4) sc_Diagrams_branches.nd rfl (.inl rfl)) (pgs_cons (pg_name (i := 5) sc_Diagrams_branches.nd rfl (.inl rfl)) pgs_nil)))))
      (pss_one (ps_if (pt_cmpR op_eq (pv 3) (pv 2) (nomark _)) (pss_one (ps_ret (pe_tup (pa_cons (pv 4) (pa_cons (pv 5) pa_nil))))) pss_nil))) pss_nil)
      (pss_one (ps_ret (pe_tup (pa_cons (pv 1) (pa_cons (pv 1) pa_nil)))))), ?_⟩
    have both : A.cw x = A → A.ct x = A → ∀ q', H q' = none → Q (.ref q') (upd H q' (.tup [.int ((c : Nat) : Int), .int ((c : Nat) : Int)])) := fun e1 e2 q' nq => by
      refine q _ q' c c (same_upd nq) upd_same ?_ ?_
      · rw [e1]; exact hAt
      · rw [e2]; exact hAt
    refine ⟨_, rfl, _, _, rfl, rfl, _, rfl, ite2 (fun e => ?_) (fun e => ?_)⟩
    · have h2 : 2 ≤ c := by
        have := of_decide_eq_true e
        omega
      obtain ⟨e1, w1, t1, a1, b1, hn, hw1, ht1, ea⟩ := hAt.ge h2
      refine ⟨_, rfl, st.go (by decide +kernel) (by decide +kernel) (by decide +kernel) ⟨_, rfl, ?_⟩⟩
      refine ⟨s, N, es, L, c, _, rfl, st, h2, hn, fun qa hq => ?_⟩
      refine ⟨qa, _, rfl, hq, rfl, _, _, rfl, _, _, rfl, _, _, rfl, rfl, ?_⟩
      refine ⟨_, rfl, _, rfl, rfl, _, rfl, ite2 (fun e => ?_) (fun e => ?_)⟩
      · have ee : e1 = x := V.int.inj (of_decide_eq_true e)
        refine ⟨_, rfl, _, rfl, by show 2 ≤ sizeLine; decide, fun q' nq => ?_⟩
        refine q _ q' w1 t1 (same_upd nq) upd_same ?_ ?_
        · rw [ea, show (Bd.nd e1 a1 b1).cw x = a1 from if_pos ee]; exact hw1
        · rw [ea, show (Bd.nd e1 a1 b1).ct x = b1 from if_pos ee]; exact ht1
      · have ee : e1 ≠ x := fun z => e (by rw [z]; exact decide_eq_true rfl)
        exact ⟨_, rfl, _, rfl, by show 2 ≤ sizeLine; decide, both (by rw [ea]; exact if_neg ee) (by rw [ea]; exact if_neg ee)⟩
    · have hlf : A.cw x = A ∧ A.ct x = A := by
        cases hAt with
        | f => exact ⟨rfl, rfl⟩
        | t => exact ⟨rfl, rfl⟩
        | nd _ _ _ => exact absurd (decide_eq_true (by omega)) e
      exact ⟨_, rfl, _, rfl, by show 2 ≤ sizeLine; decide, both hlf.1 hlf.2⟩
theorem Sto.more {C : Addr} {H : Hp} {s : SA} {N : Nds} {es : List Int} {L L' : Nat} (h : Sto C K H s N es L) (hl : L ≤ L') : Sto C K H s N es L' := by
  obtain ⟨h1, h2, h3, ⟨cvs, h4, h5, h6⟩, h7⟩ := h
  exact ⟨h1, h2, h3, ⟨cvs, h4, Nat.le_trans h5 hl, h6⟩, h7⟩
theorem Sto.put {C : Addr} {H : Hp} {s : SA} {N : Nds} {es : List Int} {L : Nat} (st : Sto C K H s N es L) {c a b r : Nat} {A B D T : Bd} (h1 : At N c A) (h2 : At N a B) (h3 : At N b D) (h4 : At N r T) (h5 : IsIte es A B D T) :
    ∃ cvs, H s.m = some (.dT cvs) ∧ cvs.length ≤ L ∧ Sto C K (upd H s.m (.dT (putK cvs (ky3 c a b) (.int ((r : Nat) : Int))))) s N es (L + 1) ∧ FdS s H (upd H s.m (.dT (putK cvs (ky3 c a b) (.int ((r : Nat) : Int))))) := by
  have f : ∀ cvs, FdS s H (upd H s.m (.dT (putK cvs (ky3 c a b) (.int ((r : Nat) : Int))))) := fun cvs x o n1 n2 n3 e => by
    rw [upd_ne n3]
    exact e
  obtain ⟨⟨dx, hp⟩, ⟨xs, hk, hxs⟩, ⟨kvs, hu, hkl, hko⟩, ⟨cvs, hm, hcl, hco⟩, hnd, hum, hes⟩ := id st
  refine ⟨cvs, hm, hcl, ⟨⟨dx, ?_⟩, ⟨xs, ?_, ?_⟩, ⟨kvs, ?_, hkl, hko⟩, ⟨_, upd_same, ?_, hco.put h1 h2 h3 h4 h5⟩, hnd, hum, hes⟩, f cvs⟩
  · rw [upd_ne (ne_of hp hm (fun z => nomatch z))]; exact hp
  · rw [upd_ne (ne_of hk hm (fun z => nomatch z))]; exact hk
  · exact DpAll.tsn (st.tup (f cvs)) _ _ (nD_only _) hxs
  · rw [upd_ne hum]; exact hu
  · have := length_putK cvs (ky3 c a b) (.int ((r : Nat) : Int))
    omega
set_option maxHeartbeats 4000000 in
theorem ok_comb (n : Nat) {f C : Addr} {fd : FuncData} (F : Fun K "combine" "Diagrams.combine" s_Diagrams_combine f fd) (M : Mg mg) (G : DgC K C mg) (c_Diagrams_node : ClM P w K mg base 1 C "node" (sp_node C K)) (c_Diagrams_top : ClM P w K mg base 2 C "top" (sp_top C K)) (c_Diagrams_branches : ClM P w K mg base 2 C "branches" (sp_bra C K))
    (c_Diagrams_combine : ClM P w K mg base (n + 2) C "combine" (sp_comb C K n)) : FnOk P w K mg base CX0 (n + 3) f fd ["self", "condition", "first", "second"] (sp_comb C K (n + 1)) := by
  refine F.ok sc_Diagrams_combine (fun vs H Q E h => ?_) (fun cdv A outer s H vs Q E hr h => ?_)
  · obtain ⟨s, N, es, L, pre, es', c, a, b, A, B, D, rfl, _⟩ := h
    rfl
  · obtain ⟨s, N, es, L, pre, es', c, a, b, A, B, D, rfl, st, he, hn, hA, hB, hD, wA, wB, wD, z1, z2, q⟩ := h
    have hp1 : 1 ≤ 2 ^ es'.length := Nat.one_le_two_pow
    have ret : ∀ H1 r T, Same H H1 → At N r T → IsIte es' A B D T → Q (.int ((r : Nat) : Int)) H1 := fun H1 r T s1 h1 h2 => q H1 [] r T (FdS.of s1) (by rw [List.length_nil]; exact hp1) (by rw [List.append_nil]; exact (st.ext s1).more (Nat.le_add_right _ _)) (by rw [List.append_nil]; exact h1) h2
    have inat : ∀ {x y : Nat}, decide (V.int ((x : Nat) : Int) = V.int ((y : Nat) : Int)) = true → x = y := fun {x y} e => by
      have := V.int.inj (of_decide_eq_true e)
      omega
    refine ⟨_, (pss_cons (ps_if (PW.pt (pw_or (pt_cmpR op_eq (pv 1) (C8.pe_gc (by rfl) G.ALWAYS) (nomark _)) (pw_or1 (pt_cmpR op_eq (pv 2) (pv 3) (nomark _))))) (pss_one (ps_ret (pv 2))) pss_nil)
      (pss_cons (ps_if (pt_cmpR op_eq (pv 1) (C8.pe_gc (by rfl) G.NEVER) (nomark _)) (pss_one (ps_ret (pv 3))) pss_nil)
      (pss_cons (ps_set (i := 4) sc_Diagrams_combine.nd rfl (.inl rfl) (pe_tup (pa_cons (pv 1) (pa_cons (pv 2) (pa_cons (pv 3) pa_nil)))))
      (pss_cons (ps_if (pt_cmp (pc_dnotin (hu_of hr) (pv 4) (pe_fld (pv 0) rfl))) (pss_cons (ps_set (i := 5) sc_Diagrams_combine.nd rfl (.inl rfl) (pe_mt c_Diagrams_top hr (by first | decide | omega) (pv 0) (pa_cons (pv 4) pa_nil)))
      (pss_cons (ps_asg (pe_mt c_Diagrams_branches hr (by first | decide | omega) (pv 0) (pa_cons (pv 1) (pa_cons (pv 5) pa_nil))) (pg_tup (by rfl) (pgs_cons (pg_name (i := 6) sc_Diagrams_combine.nd rfl (.inl rfl)) (pgs_cons (pg_name (i := 7) sc_Diagrams_combine.nd rfl (.inl rfl)) pgs_nil))))
      (pss_cons (ps_asg (pe_mt c_Diagrams_branches hr (by first | decide | omega) (pv 0) (pa_cons (pv 2) (pa_cons (pv 5) pa_nil))) (pg_tup (by rfl) (pgs_cons (pg_name (i := 8) sc_Diagrams_combine.nd rfl (.inl rfl)) (pgs_cons (pg_name (i := 9) sc_Diagrams_combine.nd rfl (.inl rfl)) pgs_nil))))
      (pss_cons (ps_asg (pe_mt c_Diagrams_branches hr (by first | decide | omega) (pv 0) (pa_cons (pv 3) (pa_cons (pv 5) pa_nil))) (pg_tup (by rfl) (pgs_cons (pg_name (i := 10) sc_Diagrams_combine.nd rfl (.inl rfl)) (pgs_cons (pg_name (i := 11) sc_Diagrams_combine.nd rfl (.inl rfl)) pgs_nil))))
      (pss_one (ps_dput (hu_of hr) (pe_fld (pv 0) rfl) (pv 4) (pe_mt c_Diagrams_node hr (by first | decide | omega) (pv 0) (pa_cons (pv 5) (pa_cons (pe_mt c_Diagrams_combine hr (by first | decide | omega) (pv 0) (pa_cons (pv 6) (pa_cons (pv 8) (pa_cons (pv 10) pa_nil)))) (pa_cons (pe_mt c_Diagrams_combine hr (by first | decide | omega) (pv 0) (pa_cons (pv 7) (pa_cons (pv 9) (pa_cons (pv 11) pa_nil)))) pa_nil)))) rfl)))))) pss_nil)
      (pss_one (ps_ret (pe_dget (hu_of hr) (pe_fld (pv 0) rfl) (pv 4) (fun _ _ => rfl)))))))), ?_⟩
    refine ⟨_, rfl, rfl, _, rfl, ite2 (fun e => ?_) (fun e => ?_)⟩
    · obtain rfl : c = 1 := inat (y := 1) e
      have eA := hA.fn .t
      exact ⟨_, rfl, ret H a B (fun _ _ h => h) hB ⟨wB, fun r => by rw [eA]; exact (if_pos rfl).symm⟩⟩
    refine ⟨_, rfl, _, rfl, rfl, _, rfl, ite2 (fun e2 => ?_) (fun e2 => ?_)⟩
    · obtain rfl := inat e2
      have eB := hB.fn hD
      exact ⟨_, rfl, ret H a B (fun _ _ h => h) hB ⟨wB, fun r => by rw [← eB]; split <;> rfl⟩⟩
    refine ⟨_, rfl, rfl, _, rfl, ite2 (fun e3 => ?_) (fun e3 => ?_)⟩
    · obtain rfl : c = 0 := inat (y := 0) e3
      have eA := hA.fn .f
      exact ⟨_, rfl, ret H b D (fun _ _ h => h) hD ⟨wD, fun r => by rw [eA]; exact (if_neg Bool.false_ne_true).symm⟩⟩
    have hc2 : 2 ≤ c := by
      have g1 : c ≠ 1 := fun z => e (by subst z; exact decide_eq_true rfl)
      have g0 : c ≠ 0 := fun z => e3 (by subst z; exact decide_eq_true rfl)
      omega
    refine ⟨_, rfl, _, rfl, _, rfl, by show 3 ≤ sizeLine; decide, fun tp ntp => ?_⟩
    have s1 := same_upd ntp (o := .tup [.int ((c : Nat) : Int), .int ((a : Nat) : Int), .int ((b : Nat) : Int)])
    have et : (upd H tp (.tup [.int ((c : Nat) : Int), .int ((a : Nat) : Int), .int ((b : Nat) : Int)])) tp = some (.tup ((ky3 c a b).map kV)) := upd_same
    generalize upd H tp (.tup [.int ((c : Nat) : Int), .int ((a : Nat) : Int), .int ((b : Nat) : Int)]) = H1 at s1 et
    have st1 := st.ext s1
    obtain ⟨⟨dx, hp⟩, _, _, ⟨cvs, hm, hcl, hco⟩, _⟩ := id st1
    refine ⟨_, rfl, _, rfl, s.p, C, dx, _, _, rfl, hp, G.cl, G.nM, sf_comb s, s.m, _, rfl, DGet.t hm et, _, rfl, ?_⟩
    cases ev : valV cvs (ky3 c a b) with
    | some v =>
      obtain ⟨r, A', B', D', T, rfl, h1, h2, h3, h4, h5⟩ := hco _ _ _ _ ev
      have e1 := h1.fn hA
      have e2' := h2.fn hB
      have e3' := h3.fn hD
      subst e1 e2' e3'
      refine iteF ⟨_, rfl, s.p, C, dx, _, _, rfl, hp, G.cl, G.nM, sf_comb s, _, rfl, s.m, .int ((r : Nat) : Int), rfl, ?_, ?_⟩
      · have := DGet.t hm et
        rw [ev] at this
        exact this
      · refine ret H1 r T s1 h4 (ite_low (pre := pre) (by rw [← he]; exact st.es_nd) wA wB wD (by rw [← he]; exact h5))
    | none =>
      refine iteT ?_
      refine ⟨_, rfl, st1.go (by decide +kernel) (by decide +kernel) (by decide +kernel) ⟨_, rfl, ?_⟩⟩
      refine ⟨s, N, es, L, pre, es', tp, [(c, A), (a, B), (b, D)], rfl, st1, .of et, he, Nat.le_refl _, ?_, ⟨(c, A), List.mem_cons_self, hc2⟩, fun H2 pre2 x es2 s2 ee hw => ?_⟩
      · intro y hy
        simp only [List.mem_cons, List.not_mem_nil, or_false] at hy
        rcases hy with rfl | rfl | rfl
        · exact ⟨hA, wA⟩
        · exact ⟨hB, wB⟩
        · exact ⟨hD, wD⟩
      have st2 := st1.ext s2
      have vA := hw (c, A) (by simp)
      have vB := hw (a, B) (by simp)
      have vD := hw (b, D) (by simp)
      have hx : x ∉ es2 := by
        have := st.es_nd
        rw [he, ee] at this
        exact (List.nodup_cons.mp (List.nodup_append.mp (List.nodup_append.mp this).2.1).2.1).1
      refine ⟨_, rfl, st2.go (by decide +kernel) (by decide +kernel) (by decide +kernel) ⟨_, rfl, _, rfl, ?_⟩⟩
      refine ⟨s, N, es, L, x, es2, c, A, rfl, st2, hA, vA, hx, fun H3 q3 w1 t1 s3 e3 hw1 ht1 => ?_⟩
      refine ⟨q3, _, rfl, .of e3, rfl, _, _, rfl, _, _, rfl, rfl, ?_⟩
      have st3 := st2.ext s3
      refine ⟨_, rfl, st3.go (by decide +kernel) (by decide +kernel) (by decide +kernel) ⟨_, rfl, _, rfl, ?_⟩⟩
      refine ⟨s, N, es, L, x, es2, a, B, rfl, st3, hB, vB, hx, fun H4 q4 w2 t2 s4 e4 hw2 ht2 => ?_⟩
      refine ⟨q4, _, rfl, .of e4, rfl, _, _, rfl, _, _, rfl, rfl, ?_⟩
      have st4 := st3.ext s4
      refine ⟨_, rfl, st4.go (by decide +kernel) (by decide +kernel) (by decide +kernel) ⟨_, rfl, _, rfl, ?_⟩⟩
      refine ⟨s, N, es, L, x, es2, b, D, rfl, st4, hD, vD, hx, fun H5 q5 w3 t3 s5 e5 hw3 ht3 => ?_⟩
      refine ⟨q5, _, rfl, .of e5, rfl, _, _, rfl, _, _, rfl, rfl, ?_⟩
      have st5 := st4.ext s5
      have s25 := ((s2.trans s3).trans s4).trans s5
      have et5 := s25 _ _ et
      have lee : es'.length = pre2.length + (es2.length + 1) := by rw [ee, List.length_append, List.length_cons]
      have hpow : 2 ^ es2.length + 2 ^ es2.length ≤ 2 ^ es'.length := by
        have : 2 ^ (es2.length + 1) ≤ 2 ^ es'.length := Nat.pow_le_pow_right (by decide) (by omega)
        rw [Nat.pow_succ] at this
        omega
      have hp2 : 1 ≤ 2 ^ es2.length := Nat.one_le_two_pow
      have he2 : es = (pre ++ pre2 ++ [x]) ++ es2 := by rw [he, ee]; simp
      refine ⟨_, rfl, st5.go (by decide +kernel) (by decide +kernel) (by decide +kernel) ⟨_, rfl, ?_⟩⟩
      refine ⟨_, rfl, st5.go (by decide +kernel) (by decide +kernel) (by decide +kernel) ⟨_, rfl, _, rfl, _, rfl, ?_⟩⟩
      refine ⟨s, N, es, L, pre ++ pre2 ++ [x], es2, w1, w2, w3, A.cw x, B.cw x, D.cw x, rfl, st5, he2, by omega, hw1, hw2, hw3, (vA.cw hx).1, (vB.cw hx).1, (vD.cw hx).1, by omega, by omega, fun H6 M1 r1 T1 f6 l1 st6 a1 i1 => ?_⟩
      refine ⟨_, rfl, st6.go (by decide +kernel) (by decide +kernel) (by decide +kernel) ⟨_, rfl, _, rfl, _, rfl, ?_⟩⟩
      refine ⟨s, N ++ M1, es, _, pre ++ pre2 ++ [x], es2, t1, t2, t3, A.ct x, B.ct x, D.ct x, rfl, st6, he2, by omega, ht1.mono, ht2.mono, ht3.mono, (vA.ct hx).1, (vB.ct hx).1, (vD.ct hx).1, by rw [List.length_append]; omega, by omega, fun H7 M2 r2 T2 f7 l2 st7 a2 i2 => ?_⟩
      refine ⟨s, (N ++ M1) ++ M2, es, _, x, r1, r2, T1, T2, rfl, st7, a1.mono, a2, by rw [List.length_append, List.length_append]; omega, fun H8 M3 r f8 l3 st8 a3 => ?_⟩
      have f58 := (f6.trans f7).trans f8
      have et8 := st5.tup f58 _ _ (.inl ⟨_, rfl⟩) et5
      have eN : N ++ M1 ++ M2 ++ M3 = N ++ (M1 ++ M2 ++ M3) := by simp only [List.append_assoc]
      rw [eN] at st8 a3
      have hI : IsIte es' A B D (mkB x T1 T2) := by
        rw [ee]
        exact (ite_step hx vA vB vD i1 i2).skips pre2
      obtain ⟨cv8, hm8, hl8, st9, f9⟩ := st8.put (hA.mono (M := M1 ++ M2 ++ M3)) (hB.mono (M := M1 ++ M2 ++ M3)) (hD.mono (M := M1 ++ M2 ++ M3)) a3 (by rw [he]; exact hI.skips pre)
      obtain ⟨dx8, hp8⟩ := st8.ins
      refine ⟨_, rfl, s.p, C, dx8, _, _, rfl, hp8, G.cl, G.nM, sf_comb s, _, rfl, s.m, _, rfl, DPut.t hm8 et8 (by omega), ?_⟩
      obtain ⟨dx9, hp9⟩ := st9.ins
      have et9 := st8.tup f9 _ _ (.inl ⟨_, rfl⟩) et8
      have em9 : (upd H8 s.m (.dT (putK cv8 (ky3 c a b) (.int ((r : Nat) : Int))))) s.m = some (.dT (putK cv8 (ky3 c a b) (.int ((r : Nat) : Int)))) := upd_same
      refine ⟨_, rfl, s.p, C, dx9, _, _, rfl, hp9, G.cl, G.nM, sf_comb s, _, rfl, s.m, .int ((r : Nat) : Int), rfl, ?_, ?_⟩
      · have := DGet.t em9 et9
        rw [valV_put, if_pos rfl] at this
        exact this
      · refine q _ (M1 ++ M2 ++ M3) r _ (((FdS.of (s1.trans s25)).trans f58).trans f9) ?_ (st9.more ?_) a3 hI
        · rw [List.length_append, List.length_append]
          omega
        · omega
end

/-! ### the operations, and what is said of a condition -/
theorem inV_int (e : Int) (ps : List Int) : inV (.int e) (ps.map V.int) = decide (e ∈ ps) := by
  unfold inV
  rw [List.any_map]
  by_cases h : e ∈ ps
  · rw [decide_eq_true h, List.any_eq_true]
    exact ⟨e, h, beq_self_eq_true e⟩
  · rw [decide_eq_false h]
    cases h2 : ps.any ((fun y => eqV y (.int e)) ∘ V.int) with
    | false => rfl
    | true =>
      exfalso
      obtain ⟨y, hy, hb⟩ := List.any_eq_true.mp h2
      have : y = e := eq_of_beq hb
      exact h (this ▸ hy)
theorem ints_flat (ps : List Int) : (ps.map V.int).all flatV = true := by
  rw [List.all_map]
  exact List.all_eq_true.mpr fun _ _ => rfl
def Bd.ht : Bd → Nat
  | .lf _ => 0
  | .nd _ w t => max w.ht t.ht + 1
def sp_there (C : Addr) (K : PySem.W.Frag) : Sp := fun vs H Q _ => ∃ s N es L x, vs = [.ref s.p, .int x] ∧ Sto C K H s N es L ∧ N.length + 1 < sizeLine ∧
  ∀ H' M r, FdS s H H' → M.length ≤ 1 → Sto C K H' s (N ++ M) es L → At (N ++ M) r (.nd x (.lf false) (.lf true)) → Q (.int ((r : Nat) : Int)) H'
def opB (es : List Int) : Nat := 2 * 2 ^ es.length
def sp_op2 (C : Addr) (K : PySem.W.Frag) (n : Nat) (f : Bool → Bool → Bool) : Sp := fun vs H Q _ => ∃ s N es L a b A B, vs = [.ref s.p, .int ((a : Nat) : Int), .int ((b : Nat) : Int)] ∧ Sto C K H s N es L ∧ es.length < n ∧ At N a A ∧ At N b B ∧ Wf es A ∧ Wf es B ∧ N.length + opB es < sizeLine ∧ L + opB es < sizeLine ∧
  ∀ H' M r T, FdS s H H' → M.length ≤ opB es → Sto C K H' s (N ++ M) es (L + opB es) → At (N ++ M) r T → Wf es T → (∀ ρ, T.ev ρ = f (A.ev ρ) (B.ev ρ)) → Q (.int ((r : Nat) : Int)) H'
def sp_neg (C : Addr) (K : PySem.W.Frag) (n : Nat) : Sp := fun vs H Q _ => ∃ s N es L a A, vs = [.ref s.p, .int ((a : Nat) : Int)] ∧ Sto C K H s N es L ∧ es.length < n ∧ At N a A ∧ Wf es A ∧ N.length + 2 ^ es.length < sizeLine ∧ L + 2 ^ es.length < sizeLine ∧
  ∀ H' M r T, FdS s H H' → M.length ≤ 2 ^ es.length → Sto C K H' s (N ++ M) es (L + 2 ^ es.length) → At (N ++ M) r T → Wf es T → (∀ ρ, T.ev ρ = !(A.ev ρ)) → Q (.int ((r : Nat) : Int)) H'
def sp_holds (C : Addr) (K : PySem.W.Frag) : Sp := fun vs H Q _ => ∃ s N es L c A a, ∃ ps : List Int, vs = [.ref s.p, .int ((c : Nat) : Int), .ref a] ∧ Sto C K H s N es L ∧ At N c A ∧ SqL K H a (ps.map V.int) ∧ Q (.bl (A.ev fun e => decide (e ∈ ps))) H
def sp_dinit (C : Addr) (K : PySem.W.Frag) : Sp := fun vs H Q _ => ∃ p dx, vs = [.ref p] ∧ H p = some (.ins C dx []) ∧ ∀ H' s, s.p = p → Fd p H H' → H s.k = none → H s.u = none → H s.m = none → (∀ es : List Int, es.Pairwise (· < ·) → Sto C K H' s [] es 0) → Q .non H'
theorem dk1 : ¬ (("kept" : Str) = "numbers") := by decide +kernel
theorem dk2 : ¬ (("kept" : Str) = "combined") := by decide +kernel
theorem dk3 : ¬ (("numbers" : Str) = "combined") := by decide +kernel
theorem sf_mk (s : SA) : putF "combined" (.ref s.m) (putF "numbers" (.ref s.u) (putF "kept" (.ref s.k) [])) = sfl s := by
  unfold sfl
  simp only [putF, if_neg dk1, if_neg dk2, if_neg dk3]
section
variable {P : Program} {w : World} {K : PySem.W.Frag} {mg : Str → Option Value} {base : Heap}
theorem bu_ne {C : Addr} {sa : SA} {N : Nds} {es : List Int} {L : Nat} {H : Hp} {B : Addr} (st : Sto C K H sa N es L) (nB : H B = none) : B ≠ sa.k ∧ B ≠ sa.u ∧ B ≠ sa.m := by
  obtain ⟨_, ⟨_, g1, _⟩, ⟨_, g2, _⟩, ⟨_, g3, _⟩, _⟩ := st
  exact ⟨(ne_of_none g1 nB).symm, (ne_of_none g2 nB).symm, (ne_of_none g3 nB).symm⟩
theorem cl_comb {f C : Addr} {fd : FuncData} (F : Fun K "combine" "Diagrams.combine" s_Diagrams_combine f fd) (M : Mg mg) (G : DgC K C mg) (mt : Meth K C "combine" f) (bi : Binds K fd ["self", "condition", "first", "second"] []) (c_Diagrams_node : ClM P w K mg base 1 C "node" (sp_node C K)) (c_Diagrams_top : ClM P w K mg base 2 C "top" (sp_top C K)) (c_Diagrams_branches : ClM P w K mg base 2 C "branches" (sp_bra C K)) :
    ∀ n, ClM P w K mg base (n + 2) C "combine" (sp_comb C K n)
  | 0 => FnOk.clm (P := P) (w := w) (base := base) (mg := mg) (F.ok sc_Diagrams_combine (fun vs H Q E h => by obtain ⟨s, N, es, L, pre, es', c, a, b, A, B, D, rfl, _⟩ := h; rfl) (fun cdv A outer s H vs Q E hr h => by obtain ⟨s, N, es, L, pre, es', c, a, b, A, B, D, rfl, st, he, hn, _⟩ := h; omega)) mt G.cl bi
  | n + 1 => FnOk.clm (ok_comb n F M G c_Diagrams_node c_Diagrams_top c_Diagrams_branches (cl_comb F M G mt bi c_Diagrams_node c_Diagrams_top c_Diagrams_branches n)) mt G.cl bi
theorem ok_there {f C : Addr} {fd : FuncData} (F : Fun K "there" "Diagrams.there" s_Diagrams_there f fd) (M : Mg mg) (G : DgC K C mg) (c_Diagrams_node : ClM P w K mg base 1 C "node" (sp_node C K)) : FnOk P w K mg base CX0 2 f fd ["self", "entry"] (sp_there C K) := by
  refine F.ok sc_Diagrams_there (fun vs H Q E h => ?_) (fun cdv A outer s H vs Q E hr h => ?_)
  · obtain ⟨s, N, es, L, x, rfl, _⟩ := h
    rfl
  · obtain ⟨s, N, es, L, x, rfl, st, hz, q⟩ := h
    refine ⟨_, (pss_one (ps_ret (pe_mt c_Diagrams_node hr (by first | decide | omega) (pv 0) (pa_cons (pv 1) (pa_cons (C8.pe_gc (by rfl) G.NEVER) (pa_cons (C8.pe_gc (by rfl) G.ALWAYS) pa_nil)))))), ?_⟩
    refine ⟨_, rfl, st.go (by decide +kernel) (by decide +kernel) (by decide +kernel) ⟨_, rfl, ?_⟩⟩
    exact ⟨s, N, es, L, x, 0, 1, _, _, rfl, st, .f, .t, hz, fun H' M r f l st' a => q H' M r f l st' a⟩
theorem opB_ge (es : List Int) : 2 ^ es.length + 2 ^ es.length = opB es := by unfold opB; omega

theorem ok_disj {n : Nat} {f C : Addr} {fd : FuncData} (F : Fun K "disjunction" "Diagrams.disjunction" s_Diagrams_disjunction f fd) (M : Mg mg) (G : DgC K C mg) (c_Diagrams_combine : ClM P w K mg base (n + 2) C "combine" (sp_comb C K n)) : FnOk P w K mg base CX0 (n + 3) f fd ["self", "first", "second"] (sp_op2 C K n or) := by
  refine F.ok sc_Diagrams_disjunction (fun vs H Q E h => ?_) (fun cdv A outer s H vs Q E hr h => ?_)
  · obtain ⟨s, N, es, L, a, b, A, B, rfl, _⟩ := h
    rfl
  · obtain ⟨s, N, es, L, a, b, A, B, rfl, st, hn, hA, hB, wA, wB, z1, z2, q⟩ := h
    have ob := opB_ge es
    refine ⟨_, (pss_one (ps_ret (pe_mt c_Diagrams_combine hr (by first | decide | omega) (pv 0) (pa_cons (pv 1) (pa_cons (C8.pe_gc (by rfl) G.ALWAYS) (pa_cons (pv 2) pa_nil)))))), ?_⟩
    refine ⟨_, rfl, st.go (by decide +kernel) (by decide +kernel) (by decide +kernel) ⟨_, rfl, _, rfl, ?_⟩⟩
    refine ⟨s, N, es, L, [], es, a, 1, b, A, _, B, rfl, st, rfl, hn, hA, .t, hB, wA, .lf, wB, by omega, by omega, fun H' M r T f l st' a i => q H' M r T f (by omega) (st'.more (by omega)) a i.1 fun ρ => ?_⟩
    rw [i.2]
    cases A.ev ρ <;> rfl

theorem ok_dinit {f C : Addr} {fd : FuncData} (F : Fun K "__init__" "Diagrams.__init__" s_Diagrams___init__ f fd) (G : DgC K C mg) : FnOk P w K mg base CX0 1 f fd ["self"] (sp_dinit C K) := by
  refine F.ok sc_Diagrams___init__ (fun vs H Q E h => ?_) (fun cdv A outer s H vs Q E hr h => ?_)
  · obtain ⟨p, dx, rfl, _⟩ := h
    rfl
  · obtain ⟨p, dx, rfl, hp, q⟩ := h
    refine ⟨_, (pss_cons (ps_fld (pv 0) (pe_lst pa_nil) rfl)
      (pss_cons (ps_fld (pv 0) pe_dnewT rfl)
      (pss_one (ps_fld (pv 0) pe_dnewT rfl)))), ?_⟩
    refine ⟨by show 0 ≤ sizeLine; decide, fun k nk => ?_⟩
    have npk : p ≠ k := ne_of_none hp nk
    have e1 : (upd H k (.lst [])) p = some (.ins C dx []) := by rw [upd_ne npk]; exact hp
    refine ⟨_, rfl, p, C, dx, [], rfl, e1, G.cl, G.nK, by show 0 < 1000; decide, ?_⟩
    have f1 : Fd p H (upd (upd H k (.lst [])) p (.ins C dx (putF "kept" (.ref k) []))) := Fd.trans (Fd.new nk) Fd.at
    have ek1 : (upd (upd H k (.lst [])) p (.ins C dx (putF "kept" (.ref k) []))) k = some (.lst []) := by rw [upd_ne npk.symm, upd_same]
    have ep1 : (upd (upd H k (.lst [])) p (.ins C dx (putF "kept" (.ref k) []))) p = some (.ins C dx (putF "kept" (.ref k) [])) := upd_same
    generalize upd (upd H k (.lst [])) p (.ins C dx (putF "kept" (.ref k) [])) = H1 at f1 ek1 ep1
    intro u nu
    have npu : p ≠ u := ne_of_none ep1 nu
    have hu0 : H u = none := by
      cases e : H u with
      | none => rfl
      | some o => exact absurd (f1 u o npu.symm e) (by rw [nu]; exact fun z => nomatch z)
    have nku : k ≠ u := ne_of_none ek1 nu
    have e2 : (upd H1 u (.dT [])) p = some (.ins C dx (putF "kept" (.ref k) [])) := by rw [upd_ne npu]; exact ep1
    refine ⟨_, rfl, p, C, dx, _, rfl, e2, G.cl, G.nN, by show 1 < 1000; decide, ?_⟩
    have f2 : Fd p H1 (upd (upd H1 u (.dT [])) p (.ins C dx (putF "numbers" (.ref u) (putF "kept" (.ref k) [])))) := Fd.trans (Fd.new nu) Fd.at
    have eu2 : (upd (upd H1 u (.dT [])) p (.ins C dx (putF "numbers" (.ref u) (putF "kept" (.ref k) [])))) u = some (.dT []) := by rw [upd_ne npu.symm, upd_same]
    have ep2 : (upd (upd H1 u (.dT [])) p (.ins C dx (putF "numbers" (.ref u) (putF "kept" (.ref k) [])))) p = some (.ins C dx (putF "numbers" (.ref u) (putF "kept" (.ref k) []))) := upd_same
    generalize upd (upd H1 u (.dT [])) p (.ins C dx (putF "numbers" (.ref u) (putF "kept" (.ref k) []))) = H2 at f2 eu2 ep2
    intro m nm
    have npm : p ≠ m := ne_of_none ep2 nm
    have f12 := f1.trans f2
    have hm0 : H m = none := by
      cases e : H m with
      | none => rfl
      | some o => exact absurd (f12 m o npm.symm e) (by rw [nm]; exact fun z => nomatch z)
    have num : u ≠ m := ne_of_none eu2 nm
    have ek2 := f2 k _ npk.symm ek1
    have e3 : (upd H2 m (.dT [])) p = some (.ins C dx (putF "numbers" (.ref u) (putF "kept" (.ref k) []))) := by rw [upd_ne npm]; exact ep2
    refine ⟨_, rfl, p, C, dx, _, rfl, e3, G.cl, G.nM, by show 2 < 1000; decide, ?_⟩
    have f3 : Fd p H2 (upd (upd H2 m (.dT [])) p (.ins C dx (putF "combined" (.ref m) (putF "numbers" (.ref u) (putF "kept" (.ref k) []))))) := Fd.trans (Fd.new nm) Fd.at
    have em3 : (upd (upd H2 m (.dT [])) p (.ins C dx (putF "combined" (.ref m) (putF "numbers" (.ref u) (putF "kept" (.ref k) []))))) m = some (.dT []) := by rw [upd_ne npm.symm, upd_same]
    refine q _ ⟨p, k, u, m⟩ rfl (f12.trans f3) nk hu0 hm0 fun es hes => ⟨⟨dx, ?_⟩, ⟨[], f3 _ _ npk.symm ek2, .nil⟩, ⟨[], f3 _ _ npu.symm eu2, Nat.le_refl _, ⟨fun _ _ _ _ => List.not_mem_nil, fun _ _ _ _ h => nomatch (show none = some _ from h)⟩⟩, ⟨[], em3, Nat.le_refl _, fun _ _ _ _ h => nomatch (show none = some _ from h)⟩, List.nodup_nil, num, hes⟩
    rw [upd_same]
    exact congrArg (fun z => some (HO.ins C dx z)) (sf_mk ⟨p, k, u, m⟩)
end

theorem wne (a b : String) (h : (Str.ofString a == Str.ofString b) = false) : decide (V.str (Str.ofString a) = V.str (Str.ofString b)) = false := by
  refine decide_eq_false fun e => ?_
  rw [V.str.inj e] at h
  have : (Str.ofString b == Str.ofString b) = true := beq_self_eq_true _
  rw [this] at h
  cases h
theorem weq (a : Str) : decide (V.str a = V.str a) = true := decide_eq_true rfl
section
variable {K : PySem.W.Frag}
/-- a tuple's word and the rest -/
theorem dp_tup {H : Hp} {p : V} {ds : List PyData} (h : Dp K H p (.tuple ds)) : ∃ a xs, p = .ref a ∧ SqT K H a xs ∧ DpAll K H xs ds := by
  cases h with
  | tup hs ha => exact ⟨_, _, rfl, hs, ha⟩
theorem dp_two {H : Hp} {xs : List V} {s : Str} {d : PyData} (h : DpAll K H xs [.str s, d]) : ∃ v, xs = [.str s, v] ∧ Dp K H v d := by
  cases h with
  | cons h1 h2 =>
    cases h1
    cases h2 with
    | cons h3 h4 =>
      cases h4
      exact ⟨_, rfl, h3⟩
theorem dp_three {H : Hp} {xs : List V} {s : Str} {d e : PyData} (h : DpAll K H xs [.str s, d, e]) : ∃ v u, xs = [.str s, v, u] ∧ Dp K H v d ∧ Dp K H u e := by
  cases h with
  | cons h1 h2 =>
    cases h1
    cases h2 with
    | cons h3 h4 =>
      cases h4 with
      | cons h5 h6 =>
        cases h6
        exact ⟨_, _, rfl, h3, h5⟩
end

section
variable {P : Program} {w : World} {K : PySem.W.Frag} {mg : Str → Option Value} {base : Heap}
theorem ok_holds {f C : Addr} {fd : FuncData} (F : Fun K "holds" "Diagrams.holds" s_Diagrams_holds f fd) (M : Mg mg) (G : DgC K C mg) (c_Diagrams_node_of : ClM P w K mg base 1 C "node_of" (sp_nof C K)) : FnOk P w K mg base CX0 2 f fd ["self", "condition", "present"] (sp_holds C K) := by
  refine F.ok sc_Diagrams_holds (fun vs H Q E h => ?_) (fun cdv A outer s H vs Q E hr h => ?_)
  · obtain ⟨s, N, es, L, c, A, a, ps, rfl, _⟩ := h
    rfl
  · obtain ⟨s, N, es, L, c, A, a, ps, rfl, st, hA, ha, q⟩ := h
    refine ⟨_, (pss_cons (ps_set (i := 3) sc_Diagrams_holds.nd rfl (.inl rfl) (pv 1))
      (pss_cons (ps_while PassesOwn.never (pt_cmpR op_ge (pv 3) (C8.pe_gc (by rfl) G.FIRST_NODE) (nomark _)) (pss_cons (ps_asg (pe_mt c_Diagrams_node_of hr (by first | decide | omega) (pv 0) (pa_cons (pv 3) pa_nil)) (pg_tup (by rfl) (pgs_cons (pg_name (i := 4) sc_Diagrams_holds.nd rfl (.inl rfl)) (pgs_cons (pg_name (i := 5) sc_Diagrams_holds.nd rfl (.inl rfl)) (pgs_cons (pg_name (i := 6) sc_Diagrams_holds.nd rfl (.inl rfl)) pgs_nil)))))
      (pss_one (ps_set (i := 3) sc_Diagrams_holds.nd rfl (.inl rfl) (pe_ifExp (pt_cmpR (inK K) (pv 4) (pv 2) (by rfl)) (pv 6) (pv 5))))))
      (pss_one (ps_ret (pe_cmpR op_eq (pv 3) (C8.pe_gc (by rfl) G.ALWAYS) (nomark _)))))), ?_⟩
    refine ⟨_, rfl, ?_⟩
    refine ⟨fun m σ Hi => Hi = H ∧ ∃ c' A' z1 z2 z3, m = Bd.ht A' ∧ At N c' A' ∧ A'.ev (fun e => decide (e ∈ ps)) = A.ev (fun e => decide (e ∈ ps)) ∧ σ = [some (.ref s.p), some (.int ((c : Nat) : Int)), some (.ref a), some (.int ((c' : Nat) : Int)), z1, z2, z3], ⟨A.ht, rfl, c, A, none, none, none, rfl, hA, rfl, rfl⟩, ?_⟩
    rintro m σ Hi ⟨rfl, c', A', z1, z2, z3, rfl, hA', ev', rfl⟩
    refine ⟨_, rfl, _, _, rfl, rfl, _, rfl, ?_⟩
    refine ite2 (fun e => ?_) (fun e => ?_)
    · have h2 : 2 ≤ c' := by
        have := of_decide_eq_true e
        omega
      obtain ⟨e1, w1, t1, a1, b1, hn, hw1, ht1, ea⟩ := hA'.ge h2
      refine ⟨fun σ' H' => ∃ m', m' < A'.ht ∧ (H' = Hi ∧ ∃ c' A' z1 z2 z3, m' = Bd.ht A' ∧ At N c' A' ∧ A'.ev (fun e => decide (e ∈ ps)) = A.ev (fun e => decide (e ∈ ps)) ∧ σ' = [some (.ref s.p), some (.int ((c : Nat) : Int)), some (.ref a), some (.int ((c' : Nat) : Int)), z1, z2, z3]), fun _ _ h => h, ?_⟩
      refine ⟨_, rfl, st.go (by decide +kernel) (by decide +kernel) (by decide +kernel) ⟨_, rfl, ?_⟩⟩
      refine ⟨s, N, es, L, c', _, rfl, st, h2, hn, fun qa hq => ?_⟩
      refine ⟨qa, _, rfl, hq, rfl, _, _, rfl, _, _, rfl, _, _, rfl, rfl, ?_⟩
      refine ⟨_, rfl, _, rfl, a, _, rfl, .inl ha, rfl, ints_flat ps, _, rfl, ?_⟩
      rw [if_neg Bool.false_ne_true, inV_int]
      have ev2 : (if decide (e1 ∈ ps) = true then b1.ev (fun e => decide (e ∈ ps)) else a1.ev (fun e => decide (e ∈ ps))) = A.ev (fun e => decide (e ∈ ps)) := by
        rw [ea] at ev'
        exact ev'
      refine ite2 (fun e => ?_) (fun e => ?_)
      · rw [if_pos e] at ev2
        exact ⟨_, rfl, b1.ht, by rw [ea]; show _ < max _ _ + 1; omega, rfl, t1, b1, _, _, _, rfl, ht1, ev2, rfl⟩
      · rw [if_neg e] at ev2
        exact ⟨_, rfl, a1.ht, by rw [ea]; show _ < max _ _ + 1; omega, rfl, w1, a1, _, _, _, rfl, hw1, ev2, rfl⟩
    · have hv : decide (V.int ((c' : Nat) : Int) = V.int 1) = A.ev (fun e => decide (e ∈ ps)) := by
        rw [← ev']
        cases hA' with
        | f => exact decide_eq_false (by intro z; have := V.int.inj z; omega)
        | t => exact decide_eq_true rfl
        | nd _ _ _ => exact absurd (decide_eq_true (by omega)) e
      refine ⟨_, rfl, rfl, ?_⟩
      rw [hv]
      exact q
end

/-! ### lists of numbers and of truth values as data -/
theorem dpa_map {K : PySem.W.Frag} {H : Hp} {α : Type} (f : α → V) (g : α → PyData) (h : ∀ a, Dp K H (f a) (g a)) : ∀ l : List α, DpAll K H (l.map f) (l.map g)
  | [] => .nil
  | a :: l => .cons (h a) (dpa_map f g h l)
theorem dp_ints {K : PySem.W.Frag} {H : Hp} {a : Addr} {ps : List Int} (h : SqL K H a (ps.map V.int)) : Dp K H (.ref a) (.list (ps.map PyData.int)) := .lst h (dpa_map _ _ (fun i => .int i) ps)
theorem dp_bls {K : PySem.W.Frag} {H : Hp} {a : Addr} {ps : List Bool} (h : SqL K H a (ps.map V.bl)) : Dp K H (.ref a) (.list (ps.map PyData.bool)) := .lst h (dpa_map _ _ (fun i => .bl i) ps)
theorem flat_shaped {α : Type} (g : α → PyData) (h1 : ∀ a, PyData.canLay0 (g a) = true) (h2 : ∀ a, PyData.depth (g a) = 0) (l : List α) : SeqAt.shaped (.list (l.map g)) = true := by
  have e1 : PyData.canLayAll0 (l.map g) = true := by
    induction l with
    | nil => rfl
    | cons x xs ih =>
      rw [List.map_cons]
      unfold PyData.canLayAll0
      rw [ih, h1]
      rfl
  have e2 : PyData.depthAll (l.map g) = 0 := by
    clear e1
    induction l with
    | nil => rfl
    | cons x xs ih =>
      rw [List.map_cons]
      unfold PyData.depthAll
      rw [ih, h2]
      rfl
  unfold SeqAt.shaped
  rw [Bool.and_eq_true]
  refine ⟨by unfold PyData.canLay0; exact e1, decide_eq_true ?_⟩
  unfold PyData.depth
  omega
theorem ints_shaped (l : List Int) : SeqAt.shaped (.list (l.map PyData.int)) = true := flat_shaped _ (fun _ => rfl) (fun _ => rfl) l
theorem bls_shaped (l : List Bool) : SeqAt.shaped (.list (l.map PyData.bool)) = true := flat_shaped _ (fun _ => rfl) (fun _ => rfl) l
theorem ints_eqv (l : List Int) : PyData.eqv (.list (l.map PyData.int)) (.list (l.map PyData.int)) = true := SeqAt.eqv_refl _ (SeqAt.canLay_of_shaped (ints_shaped l))
theorem Sto.fd {C : Addr} {K : PySem.W.Frag} {H H' : Hp} {s : SA} {N : Nds} {es : List Int} {L : Nat} {d : Addr} (st : Sto C K H s N es L) (hd : ∃ zs, H d = some (.lst zs)) (n : d ≠ s.k) (f : Fd d H H') : Sto C K H' s N es L := by
  obtain ⟨⟨dx, h1⟩, ⟨xs, h2, h3⟩, ⟨kvs, h4, h5⟩, ⟨cvs, h6, h7⟩, h8⟩ := st
  obtain ⟨zs, hz⟩ := hd
  exact ⟨⟨dx, f _ _ (ne_of h1 hz (fun z => nomatch z)) h1⟩, ⟨xs, f _ _ n.symm h2, DpAll.fd ⟨zs, hz⟩ f _ _ (nD_only _) h3⟩, ⟨kvs, f _ _ (ne_of h4 hz (fun z => nomatch z)) h4, h5⟩, ⟨cvs, f _ _ (ne_of h6 hz (fun z => nomatch z)) h6, h7⟩, h8⟩
theorem andV {c b : Bool} {i : Nat} {σ : L2.St} {H : Hp} {Q : VK} (hs : σ[i]? = some (some (.bl b))) (h : Q (.bl (c && b)) H) : if c = true then tVar i σ H Q else Q (.bl false) H := by
  cases c with
  | true => exact iteT ⟨_, hs, h⟩
  | false => exact iteF h
theorem orV {c b : Bool} {i : Nat} {σ : L2.St} {H : Hp} {Q : VK} (hs : σ[i]? = some (some (.bl b))) (h : Q (.bl (c || b)) H) : if c = true then Q (.bl true) H else tVar i σ H Q := by
  cases c with
  | true => exact iteT h
  | false => exact iteF ⟨_, hs, h⟩
theorem bne_dec (a b : Bool) : (!decide (V.bl a = V.bl b)) = bne a b := by cases a <;> cases b <;> rfl
/-- the store made, beside what was there -/
theorem made_same {p dx C : Addr} {H H' : Hp} (np : H p = none) (nd : H dx = none) (f : Fd p (upd (upd H dx (.own p)) p (.ins C dx [])) H') : Same H H' := fun b o e => by
  have h1 : b ≠ p := ne_of_none e np
  have h2 : b ≠ dx := ne_of_none e nd
  refine f b o h1 ?_
  rw [upd_ne h1, upd_ne h2]
  exact e
theorem made_free {p dx C k : Addr} {H : Hp} (h : (upd (upd H dx (.own p)) p (.ins C dx [])) k = none) : H k = none := by
  by_cases h1 : k = p
  · subst h1
    rw [upd_same] at h
    cases h
  by_cases h2 : k = dx
  · subst h2
    rw [upd_ne h1, upd_same] at h
    cases h
  rw [upd_ne h1, upd_ne h2] at h
  exact h
/-- what stood before the store was made stands behind all its operations -/
theorem FdS.same {s : SA} {H0 H H' : Hp} (h : Same H0 H) (nk : H0 s.k = none) (nu : H0 s.u = none) (nm : H0 s.m = none) (f : FdS s H H') : Same H0 H' := fun b o e => f b o (ne_of_none e nk) (ne_of_none e nu) (ne_of_none e nm) (h b o e)

/-! ### two data that are the same -/
/-- data of some depth, their lists not too long -/
inductive Sh : Nat → PyData → Prop
  | non {n : Nat} : Sh n .none
  | bl {n : Nat} (b : Bool) : Sh n (.bool b)
  | int {n : Nat} (i : Int) : Sh n (.int i)
  | str {n : Nat} (x : Str) : Sh n (.str x)
  | lst {n : Nat} {ds : List PyData} (l : ds.length ≤ 100000) (h : ∀ d ∈ ds, Sh n d) : Sh (n + 1) (.list ds)
  | tup {n : Nat} {ds : List PyData} (l : ds.length ≤ 100000) (h : ∀ d ∈ ds, Sh n d) : Sh (n + 1) (.tuple ds)
def tnm : PyData → String
  | .none => "NoneType"
  | .bool _ => "bool"
  | .int _ => "int"
  | .str _ => "str"
  | .list _ => "list"
  | .tuple _ => "tuple"
  | .dict _ => "dict"
theorem tyD {K : PySem.W.Frag} {H : Hp} {v : V} {d : PyData} (h : Dp K H v d) : TyX K H v (.type (tnm d)) := by
  cases h with
  | non => exact .base .non
  | bl b => exact .base (.bl b)
  | int i => exact .base (.int i)
  | str x => exact .base (.str x)
  | lst hs _ => exact tyL hs
  | tup hs _ => exact tyT hs
theorem k_any2 {K : PySem.W.Frag} {tn c1 c2 : String} {r1 r2 : Bool} (h1 : kitB tn c1 = some r1) (h2 : kitB tn c2 = some r2) : PySem.W.kitAny K (.type tn) [.type c1, .type c2] = some (r1 || r2) :=
  kitAny_cons (kit_ty h1) (fun e => by
    rw [e, Bool.false_or]
    exact kitAny_cons (b := r2) (kit_ty h2) (fun e2 => by rw [e2]; exact kitAny_nil) (fun e2 => e2)) (fun e => by rw [e, Bool.true_or])
theorem rep_bl (n : Nat) : (List.replicate n true).all id = true := by
  rw [List.all_replicate]
  simp
def sp_same (K : PySem.W.Frag) (n : Nat) : Sp := fun vs H Q _ => ∃ (x y : V) (D : PyData) (m : Nat), n = m + 1 ∧ vs = [x, y] ∧ Sh m D ∧ Dp K H x D ∧ Dp K H y D ∧ ∀ H', Same H H' → Q (.bl true) H'
section
variable {P : Program} {w : World} {K : PySem.W.Frag} {mg : Str → Option Value} {base : Heap}
theorem ok_same {f : Addr} {fd : FuncData} {n l : Nat} (F : Fun K "_law_same" "_law_same" s__law_same f fd) (M : Mg mg) (c__law_same : Cl P w K mg base l "_law_same" (sp_same K n)) : FnOk P w K mg base CX0 (l + 1) f fd ["actual", "due"] (sp_same K (n + 1)) := by
  refine F.ok sc__law_same (fun vs H Q E h => ?_) (fun cdv A outer s H vs Q E hr h => ?_)
  · obtain ⟨x, y, D, m, _, rfl, _⟩ := h
    rfl
  · obtain ⟨x, y, D, m, em, rfl, sh, hx, hy, q⟩ := h
    refine ⟨_, (pss_cons (ps_if (pt_val (pe_callB (isiTK K) (by rfl) M.isinstance (by decide +kernel) (pa_cons (pv 1) (pa_cons (pe_tup (pa_cons (pe_bltn (v := .ty "list") (by rfl) M.list (by decide +kernel) rfl) (pa_cons (pe_bltn (v := .ty "tuple") (by rfl) M.tuple (by decide +kernel) rfl) pa_nil))) pa_nil)))) (pss_cons (ps_if (PW.pt (pw_or (pt_cmpR op_ne (pe_callB (isiK K) (by rfl) M.isinstance (by decide +kernel) (pa_cons (pv 1) (pa_cons (pe_bltn (v := .ty "list") (by rfl) M.list (by decide +kernel) rfl) pa_nil))) (pe_callB (isiK K) (by rfl) M.isinstance (by decide +kernel) (pa_cons (pv 0) (pa_cons (pe_bltn (v := .ty "list") (by rfl) M.list (by decide +kernel) rfl) pa_nil))) (nomark _)) (pw_or1 (pt_cmpR op_ne (pe_callB (isiK K) (by rfl) M.isinstance (by decide +kernel) (pa_cons (pv 1) (pa_cons (pe_bltn (v := .ty "tuple") (by rfl) M.tuple (by decide +kernel) rfl) pa_nil))) (pe_callB (isiK K) (by rfl) M.isinstance (by decide +kernel) (pa_cons (pv 0) (pa_cons (pe_bltn (v := .ty "tuple") (by rfl) M.tuple (by decide +kernel) rfl) pa_nil))) (nomark _))))) (pss_one (ps_ret pe_bl)) pss_nil)
      (pss_cons (ps_if (pt_cmpR op_ne (pe_callB (len_seqK K) (by rfl) M.len PySem.boot_len (pa_cons (pv 0) pa_nil)) (pe_callB (len_seqK K) (by rfl) M.len PySem.boot_len (pa_cons (pv 1) pa_nil)) (nomark _)) (pss_one (ps_ret pe_bl)) pss_nil)
      (pss_one (ps_ret (pe_callB (allK K rfl) (by rfl) M.all (by decide +kernel) (pa_cons (pe_lc (own := [("k", 2)]) (g := gName 2) (tt := tYes) rfl sc__law_same.nd (pi_range1 (by rfl) M.range (pa_cons (pe_callB (len_seqK K) (by rfl) M.len PySem.boot_len (pa_cons (pv 1) pa_nil)) pa_nil)) (blkOk_by (N := N__law_same) (sc := defScope s__law_same) (by decide +kernel)) (fun _ _ _ _ _ => (pg_name (i := 2) sc__law_same.nd rfl (.inl rfl))) (fun _ _ _ _ _ => pts_nil) (fun _ _ _ _ _ => (pe_u c__law_same hr (by first | decide | omega) (by rfl) (pa_cons (pe_ix (ix_seqK K) (pv 0) (pv 2) (fun _ _ => rfl)) (pa_cons (pe_ix (ix_seqK K) (pv 1) (pv 2) (fun _ _ => rfl)) pa_nil))))) pa_nil)))))) pss_nil)
      (pss_cons (ps_if (pt_cmpR op_isN (pv 1) pe_non (nomark _)) (pss_one (ps_ret (pe_cmpR op_isN (pv 0) pe_non (nomark _)))) pss_nil)
      (pss_cons (ps_if (pt_cmpR op_ne (pe_callB (isiK K) (by rfl) M.isinstance (by decide +kernel) (pa_cons (pv 1) (pa_cons (pe_bltn (v := .ty "bool") (by rfl) M.bool (by decide +kernel) rfl) pa_nil))) (pe_callB (isiK K) (by rfl) M.isinstance (by decide +kernel) (pa_cons (pv 0) (pa_cons (pe_bltn (v := .ty "bool") (by rfl) M.bool (by decide +kernel) rfl) pa_nil))) (nomark _)) (pss_one (ps_ret pe_bl)) pss_nil)
      (pss_cons (ps_if (pt_val (pe_callB (isiK K) (by rfl) M.isinstance (by decide +kernel) (pa_cons (pv 1) (pa_cons (pe_bltn (v := .ty "str") (by rfl) M.str (by decide +kernel) rfl) pa_nil)))) (pss_one (ps_ret (pe_and (pe_callB (isiK K) (by rfl) M.isinstance (by decide +kernel) (pa_cons (pv 0) (pa_cons (pe_bltn (v := .ty "str") (by rfl) M.str (by decide +kernel) rfl) pa_nil))) (pe_one (pe_cmpR op_eq (pv 0) (pv 1) (nomark _)))))) pss_nil)
      (pss_one (ps_ret (pe_and (pe_callB (isiK K) (by rfl) M.isinstance (by decide +kernel) (pa_cons (pv 0) (pa_cons (pe_bltn (v := .ty "int") (by rfl) M.int (by decide +kernel) rfl) pa_nil))) (pe_one (pe_cmpR op_eq (pv 0) (pv 1) (nomark _)))))))))), ?_⟩
    refine ⟨_, rfl, by show 2 ≤ sizeLine; decide, fun p np => ?_⟩
    have s1 : Same H (upd H p (.tup [.ty "list", .ty "tuple"])) := same_upd np
    have h1 : (upd H p (.tup [.ty "list", .ty "tuple"])) p = some (.tup [.ty "list", .ty "tuple"]) := upd_same
    generalize upd H p (.tup [.ty "list", .ty "tuple"]) = H1 at s1 h1
    have hx1 := Dp.ext s1 D x hx
    have hy1 := Dp.ext s1 D y hy
    have key : (∃ (a b : Addr) (xs ys : List V) (ds : List PyData) (k : Nat) (tn : String) (r1 r2 : Bool), x = .ref a ∧ y = .ref b ∧ (SqL K H1 a xs ∧ SqL K H1 b ys ∨ SqT K H1 a xs ∧ SqT K H1 b ys) ∧ DpAll K H1 xs ds ∧ DpAll K H1 ys ds ∧ ds.length ≤ 100000 ∧ m = k + 1 ∧ (∀ d ∈ ds, Sh k d) ∧
        TyX K H1 x (.type tn) ∧ TyX K H1 y (.type tn) ∧ kitB tn "list" = some r1 ∧ kitB tn "tuple" = some r2 ∧ (r1 || r2) = true) ∨
        (∃ (tn : String), TyX K H1 x (.type tn) ∧ TyX K H1 y (.type tn) ∧ kitB tn "list" = some false ∧ kitB tn "tuple" = some false ∧ (x = .non ∧ y = .non ∨ (∃ b, x = .bl b ∧ y = .bl b ∧ tn = "bool") ∨ (∃ i, x = .int i ∧ y = .int i ∧ tn = "int") ∨ (∃ z, x = .str z ∧ y = .str z ∧ tn = "str"))) := by
      cases sh with
      | non => cases hx1; cases hy1; exact .inr ⟨"NoneType", .base .non, .base .non, by decide +kernel, by decide +kernel, .inl ⟨rfl, rfl⟩⟩
      | bl b => cases hx1; cases hy1; exact .inr ⟨"bool", .base (.bl b), .base (.bl b), by decide +kernel, by decide +kernel, .inr (.inl ⟨b, rfl, rfl, rfl⟩)⟩
      | int i => cases hx1; cases hy1; exact .inr ⟨"int", .base (.int i), .base (.int i), by decide +kernel, by decide +kernel, .inr (.inr (.inl ⟨i, rfl, rfl, rfl⟩))⟩
      | str z => cases hx1; cases hy1; exact .inr ⟨"str", .base (.str z), .base (.str z), by decide +kernel, by decide +kernel, .inr (.inr (.inr ⟨z, rfl, rfl, rfl⟩))⟩
      | lst l h =>
        cases hx1 with
        | lst hs ha =>
          cases hy1 with
          | lst hs' ha' => exact .inl ⟨_, _, _, _, _, _, "list", true, false, rfl, rfl, .inl ⟨hs, hs'⟩, ha, ha', l, rfl, h, tyL hs, tyL hs', by decide +kernel, by decide +kernel, rfl⟩
      | tup l h =>
        cases hx1 with
        | tup hs ha =>
          cases hy1 with
          | tup hs' ha' => exact .inl ⟨_, _, _, _, _, _, "tuple", false, true, rfl, rfl, .inr ⟨hs, hs'⟩, ha, ha', l, rfl, h, tyT hs, tyT hs', by decide +kernel, by decide +kernel, rfl⟩
    rcases key with ⟨a, b, xs, ys, ds, k, tn, r1, r2, rfl, rfl, hq, ha, hb, hl, ek, hk, tx, ty, k1, k2, kr⟩ | ⟨tn, tx, ty, k1, k2, hs⟩
    · -- a list or a tuple
      have ex := DpAll.len ha
      have ey := DpAll.len hb
      have hqa : SqL K H1 a xs ∨ SqT K H1 a xs := hq.elim (fun z => .inl z.1) (fun z => .inr z.1)
      have hqb : SqL K H1 b ys ∨ SqT K H1 b ys := hq.elim (fun z => .inl z.2) (fun z => .inr z.2)
      refine ⟨_, _, _, _, _, _, rfl, h1, .cons (.ty _) (.cons (.ty _) .nil), ty, k_any2 k1 k2, ?_⟩
      refine ⟨_, rfl, ?_⟩
      rw [kr]
      refine iteT ?_
      -- the kinds
      refine ⟨_, rfl, ⟨_, _, _, _, _, rfl, .ty _, ty, kit_ty k1, _, rfl, ⟨_, _, _, _, _, rfl, .ty _, tx, kit_ty k1, rfl, _, rfl, ?_⟩⟩⟩
      rw [decide_eq_true (rfl : V.bl r1 = V.bl r1)]
      refine iteF ?_
      refine ⟨_, rfl, ⟨_, _, _, _, _, rfl, .ty _, ty, kit_ty k2, _, rfl, ⟨_, _, _, _, _, rfl, .ty _, tx, kit_ty k2, rfl, _, rfl, ?_⟩⟩⟩
      rw [decide_eq_true (rfl : V.bl r2 = V.bl r2)]
      refine iteF ?_
      -- the lengths
      refine ⟨_, rfl, a, xs, rfl, hqa, ⟨_, rfl, b, ys, rfl, hqb, rfl, _, rfl, ?_⟩⟩
      rw [ex, ey, decide_eq_true (rfl : V.int (ds.length : Int) = V.int (ds.length : Int))]
      refine iteF ?_
      -- by places
      refine ⟨_, rfl, b, ys, rfl, hqb, _, rfl, by omega, by omega, fun D nD => ?_⟩
      rw [ey]
      refine lc_range (lo := 0) (n := ((ds.length : Nat) : Int).toNat) (fun i Hi => Same H1 Hi ∧ Hi D = some (.lst ((List.replicate i true).map V.bl))) ⟨same_upd nD, upd_same⟩ (fun i Hi hi hp => ?_) (fun Hn hp => ?_)
      · obtain ⟨si, eD⟩ := hp
        have hi2 : i < ds.length := by omega
        obtain ⟨va, hva, da⟩ := DpAll.get (DpAll.ext si ds xs ha) (List.getElem?_eq_getElem hi2)
        obtain ⟨vb, hvb, db⟩ := DpAll.get (DpAll.ext si ds ys hb) (List.getElem?_eq_getElem hi2)
        have ia : rIx K (.ref a) (.int (0 + (i : Int))) Hi = rIx K (.ref a) (.int (0 + (i : Int))) Hi := rfl
        refine ⟨rfl, ?_⟩
        have go : ∀ (c : Addr) (zs : List V) (v : V) (Q : VK), (SqL K H1 c zs ∨ SqT K H1 c zs) → zs[i]? = some v → Q v Hi → rIx K (.ref c) (.int (0 + (i : Int))) Hi Q := fun c zs v Q hz hv hQ => by
          rcases hz with hz | hz
          · exact .inl ⟨c, zs, _, v, rfl, rfl, si.seq hz, at_0 hv, hQ⟩
          · exact .inr (.inl ⟨c, zs, _, v, rfl, rfl, SqT.ext si hz, at_0 hv, hQ⟩)
        refine ⟨_, rfl, _, rfl, go a xs va _ hqa hva ⟨_, rfl, _, rfl, go b ys vb _ hqb hvb ?_⟩⟩
        refine ⟨va, vb, ds[i], k, by omega, rfl, hk _ (List.getElem_mem hi2), da, db, fun H' s' => ?_⟩
        refine ⟨_, s' _ _ eD, ?_, fun b o e => ?_, ?_⟩
        · rw [List.length_map, List.length_replicate]
          exact Nat.lt_of_lt_of_le (m := 100000) (by omega) (by decide)
        · have nb : b ≠ D := ne_of_none e nD
          rw [upd_ne nb]
          exact s' _ _ (si _ _ e)
        · rw [upd_same, List.replicate_succ', List.map_append]
          rfl
      · obtain ⟨si, eD⟩ := hp
        refine ⟨D, _, rfl, .of eD, ?_⟩
        rw [rep_bl]
        exact q _ (s1.trans si)
    · -- neither
      refine ⟨_, _, _, _, _, _, rfl, h1, .cons (.ty _) (.cons (.ty _) .nil), ty, k_any2 k1 k2, ?_⟩
      refine ⟨_, rfl, iteF ?_⟩
      rcases hs with ⟨rfl, rfl⟩ | ⟨b, rfl, rfl, rfl⟩ | ⟨i, rfl, rfl, rfl⟩ | ⟨z, rfl, rfl, rfl⟩
      · -- None
        refine ⟨_, rfl, rfl, _, rfl, iteT ?_⟩
        refine ⟨_, rfl, rfl, ?_⟩
        exact q _ s1
      · refine ⟨_, rfl, rfl, _, rfl, iteF ?_⟩
        refine ⟨_, rfl, ⟨_, _, _, _, _, rfl, .ty _, ty, kit_ty (show kitB _ _ = some true by decide +kernel), _, rfl, ⟨_, _, _, _, _, rfl, .ty _, tx, kit_ty (show kitB _ _ = some true by decide +kernel), rfl, _, rfl, iteF ?_⟩⟩⟩
        refine ⟨_, rfl, ⟨_, _, _, _, _, rfl, .ty _, ty, kit_ty (show kitB _ _ = some false by decide +kernel), _, rfl, iteF ?_⟩⟩
        refine ⟨_, rfl, ⟨_, _, _, _, _, rfl, .ty _, tx, kit_ty (show kitB _ _ = some true by decide +kernel), _, rfl, iteT ?_⟩⟩
        refine ⟨_, rfl, _, rfl, by cases b <;> rfl, ?_⟩
        rw [decide_eq_true (rfl : V.bl b = V.bl b)]
        exact q _ s1
      · refine ⟨_, rfl, rfl, _, rfl, iteF ?_⟩
        refine ⟨_, rfl, ⟨_, _, _, _, _, rfl, .ty _, ty, kit_ty (show kitB _ _ = some false by decide +kernel), _, rfl, ⟨_, _, _, _, _, rfl, .ty _, tx, kit_ty (show kitB _ _ = some false by decide +kernel), rfl, _, rfl, iteF ?_⟩⟩⟩
        refine ⟨_, rfl, ⟨_, _, _, _, _, rfl, .ty _, ty, kit_ty (show kitB _ _ = some false by decide +kernel), _, rfl, iteF ?_⟩⟩
        refine ⟨_, rfl, ⟨_, _, _, _, _, rfl, .ty _, tx, kit_ty (show kitB _ _ = some true by decide +kernel), _, rfl, iteT ?_⟩⟩
        refine ⟨_, rfl, _, rfl, rfl, ?_⟩
        rw [decide_eq_true (rfl : V.int i = V.int i)]
        exact q _ s1
      · refine ⟨_, rfl, rfl, _, rfl, iteF ?_⟩
        refine ⟨_, rfl, ⟨_, _, _, _, _, rfl, .ty _, ty, kit_ty (show kitB _ _ = some false by decide +kernel), _, rfl, ⟨_, _, _, _, _, rfl, .ty _, tx, kit_ty (show kitB _ _ = some false by decide +kernel), rfl, _, rfl, iteF ?_⟩⟩⟩
        refine ⟨_, rfl, ⟨_, _, _, _, _, rfl, .ty _, ty, kit_ty (show kitB _ _ = some true by decide +kernel), _, rfl, iteT ?_⟩⟩
        refine ⟨_, rfl, ⟨_, _, _, _, _, rfl, .ty _, tx, kit_ty (show kitB _ _ = some true by decide +kernel), _, rfl, iteT ?_⟩⟩
        refine ⟨_, rfl, _, rfl, rfl, ?_⟩
        rw [decide_eq_true (rfl : V.str z = V.str z)]
        exact q _ s1
/-- no data at all: where the recursion ends -/
theorem ok_same0 {f : Addr} {fd : FuncData} (F : Fun K "_law_same" "_law_same" s__law_same f fd) : FnOk P w K mg base CX0 1 f fd ["actual", "due"] (sp_same K 0) := by
  refine F.ok sc__law_same (fun vs H Q E h => ?_) (fun cdv A outer s H vs Q E hr h => ?_)
  · obtain ⟨x, y, D, m, e, _⟩ := h
    exact absurd e (by omega)
  · obtain ⟨x, y, D, m, e, _⟩ := h
    exact absurd e (by omega)
/-- of any depth -/
theorem cl_same {f : Addr} {fd : FuncData} (F : Fun K "_law_same" "_law_same" s__law_same f fd) (M : Mg mg) (g : mg "_law_same" = some (.ref f)) (b : Binds K fd ["actual", "due"] []) : ∀ n : Nat, Cl P w K mg base (n + 1) "_law_same" (sp_same K n)
  | 0 => FnOk.cl (ok_same0 F) F g b
  | n + 1 => FnOk.cl (ok_same F M (cl_same F M g b n)) F g b
end

/-! ### t < u of tuples whose first different place alone can be compared -/
section
open PySem.SeqAt AutoSeq1 MeetsSeq MeetsSeq2 MeetsSeq3 SeqRoads2
/-- what the first different place says; fin where there is none -/
def fstLt (e r : Nat → Bool) (fin : Bool) (n : Nat) : Bool := SeqAt.firstLt e r fin (List.range n)
theorem ltFirst (p q : Addr) (xs ys : Array Value) (n1 n2 : Nat) (d1 d2 : Option Addr) (z1 z2 : Array (Option Value)) (e r : Nat → Bool) :
    Meets (Builtin.«tuple.__lt__» ⟨[.ref p, .ref q], []⟩) (fun A R s =>
      s.heap.get? p = some { cls := .type "tuple", dict := d1, data := .seq xs n1, slots := z1 } ∧
      s.heap.get? q = some { cls := .type "tuple", dict := d2, data := .seq ys n2, slots := z2 } ∧
      (∀ j (a : j < xs.size) (b : j < ys.size), (∀ i < j, e i = true) → EqAt A.in1 s xs[j] ys[j] (e j)) ∧
      (∀ j (a : j < xs.size) (b : j < ys.size), (∀ i < j, e i = true) → e j = false → RcLt A.in1 s xs[j] ys[j] (r j)) ∧
      R (.ok (.ret (.bool (fstLt e r (decide (xs.size < ys.size)) (min xs.size ys.size))))) s) :=
  .of_wp fun prog w A R s h => by
    obtain ⟨h0, g, d, tk, os⟩ := s
    obtain ⟨hp, hq, he, hr, h⟩ := h
    have sub := AutoSeq1.sub_tuple_tuple
    have len : (xs.toList.zip ys.toList).length = min xs.size ys.size := by simp
    unfold fstLt at h
    wp_walk using wpAny_loadPart' hp, wpAny_loadPart' hq,
      wpAny_forIn_list _ (fun rest b s' => b.1 = none ∧ s' = ⟨h0, g, d, tk, os⟩ ∧ ∃ i, rest = (xs.toList.zip ys.toList).drop i ∧ (∀ k < i, e k = true) ∧
        R (.ok (.ret (.bool (firstLt e r (decide (xs.size < ys.size)) ((List.range (min xs.size ys.size)).drop i))))) ⟨h0, g, d, tk, os⟩) _
    case turn =>
      rintro ⟨y, x⟩ rest b s' ⟨eb, rfl, i, ez, ei, hR⟩
      have lt : i < (xs.toList.zip ys.toList).length := by
        refine Nat.lt_of_not_le fun z => ?_
        rw [List.drop_of_length_le z] at ez
        cases ez
      have lm : i < min xs.size ys.size := len ▸ lt
      have l1 : i < xs.size := by omega
      have l2 : i < ys.size := by omega
      rw [List.drop_eq_getElem_cons lt] at ez
      injection ez with e1 e2
      have ey : y = xs[i] := by simpa using congrArg Prod.fst e1
      have ex : x = ys[i] := by simpa using congrArg Prod.snd e1
      subst ey ex
      have er : (List.range (min xs.size ys.size)).drop i = i :: (List.range (min xs.size ys.size)).drop (i + 1) := by
        rw [List.drop_eq_getElem_cons (by simpa using lm)]
        simp
      rw [er] at hR
      have hq : e i = false → ∀ (E : Value → Shared → Prop) (Q : Value → Shared → Prop), Q (.bool (r i)) ⟨h0, g, d, tk, os⟩ → wpAny (model prog w) A.in1 (PySem.richCompare .Lt xs[i] ys[i]) Q E ⟨h0, g, d, tk, os⟩ := fun ee E Q z => hr i l1 l2 ei ee prog w E Q z
      have hb : ∀ (E : Value → Shared → Prop) (Q : Bool → Shared → Prop), Q (e i) ⟨h0, g, d, tk, os⟩ → wpAny (model prog w) A.in1 (PySem.eqBool xs[i] ys[i]) Q E ⟨h0, g, d, tk, os⟩ := fun E Q z => he i l1 l2 ei prog w E Q z
      refine wpAny_bind (hb _ _ ?_)
      cases ee : e i with
      | true =>
        rw [firstLt_yes ee] at hR
        wp_walk
        refine ⟨rfl, rfl, i + 1, e2, fun k hk => ?_, hR⟩
        by_cases z : k = i
        · exact z ▸ ee
        · exact ei k (by omega)
      | false =>
        rw [firstLt_no ee] at hR
        generalize PySem.richCompare .Lt xs[i] ys[i] = less at hq ⊢
        wp_walk
        refine hq ee _ _ ?_
        wp_walk
        exact ⟨_, rfl, hR⟩
    case fin =>
      rintro ⟨b1, b2⟩ s' ⟨eb, rfl, i, ez, ei, hR⟩
      simp only at eb
      subst eb
      have ge : min xs.size ys.size ≤ i := by
        refine Nat.le_of_not_lt fun z => ?_
        rw [List.drop_eq_getElem_cons (by rw [len]; exact z)] at ez
        cases ez
      rw [List.drop_of_length_le (by simpa using ge)] at hR
      wp_walk
      exact ⟨_, rfl, by simpa [Builtin.Tuple.tupleCompareSizes, firstLt] using hR⟩
    case h => exact ⟨rfl, rfl, 0, rfl, (fun k hk => absurd hk (Nat.not_lt_zero k)), by simpa using h⟩
theorem rcLt_first {A : Around} {s : Shared} {p q : Addr} {xs ys : Array Value} {e r : Nat → Bool} (hp : s.heap.IsTuple p xs) (hq : s.heap.IsTuple q ys) (hu : A.units < cLine)
    (he : ∀ j (a : j < xs.size) (b : j < ys.size), (∀ i < j, e i = true) → EqAt A.in1 s xs[j] ys[j] (e j)) (hr : ∀ j (a : j < xs.size) (b : j < ys.size), (∀ i < j, e i = true) → e j = false → RcLt A.in1 s xs[j] ys[j] (r j)) :
    RcLt A s (.ref p) (.ref q) (fstLt e r (decide (xs.size < ys.size)) (min xs.size ys.size)) := fun prog w E Q h => by
  obtain ⟨⟨c1, d1, t1, z1⟩, o1, k1, n1, m1⟩ := id hp
  obtain ⟨⟨c2, d2, t2, z2⟩, o2, k2, n2, m2⟩ := id hq
  simp only at k1 m1 k2 m2
  subst k1 m1 k2 m2
  exact richCompare_meets_room (op := .Lt) ⟨_, o1, rfl⟩ ⟨_, o2, rfl⟩ F.slot_tuple_lt F.entry_tuple_lt (F.args_tuple_lt_2 _ _) (ltFirst p q xs ys n1 n2 d1 d2 z1 z2 e r)
    ⟨o1, o2, he, hr, show Value.bool (fstLt e r (decide (xs.size < ys.size)) (min xs.size ys.size)) ≠ Value.notImplemented ∧ Q (.bool (fstLt e r (decide (xs.size < ys.size)) (min xs.size ys.size))) s from ⟨(fun z => nomatch z), h⟩⟩ hu
end
/-! the order of data, and where it may be asked -/
mutual
def ltD : PyData → PyData → Bool
  | .int a, .int b => decide (a < b)
  | .str a, .str b => decide (a.cps.toList < b.cps.toList)
  | .tuple xs, .tuple ys => ltDs xs ys
  | .list xs, .list ys => PySem.W.dataLt (.list xs) (.list ys)
  | _, _ => false
def ltDs : List PyData → List PyData → Bool
  | [], [] => false
  | [], _ :: _ => true
  | _ :: _, [] => false
  | x :: xs, y :: ys => if PyData.eqv x y = true then ltDs xs ys else ltD x y
end
mutual
def okD : PyData → PyData → Bool
  | .int _, .int _ => true
  | .str _, .str _ => true
  | .tuple xs, .tuple ys => okDs xs ys
  | .list xs, .list ys => PySem.W.alike (.list xs) (.list ys)
  | _, _ => false
def okDs : List PyData → List PyData → Bool
  | x :: xs, y :: ys => if PyData.eqv x y = true then okDs xs ys else okD x y
  | [], _ => true
  | _ :: _, [] => true
end
theorem fst_all (f : Nat → Nat → Bool) (e r e' r' : Nat → Bool) (fin : Bool) : ∀ l : List Nat, (∀ j, e (j + 1) = e' j) → (∀ j, r (j + 1) = r' j) → SeqAt.firstLt e r fin (l.map (· + 1)) = SeqAt.firstLt e' r' fin l
  | [], _, _ => rfl
  | j :: l, he, hr => by
    rw [List.map_cons]
    unfold SeqAt.firstLt
    rw [he, hr, fst_all f e r e' r' fin l he hr]
theorem fst_cons (e r : Nat → Bool) (fin : Bool) (n : Nat) : fstLt e r fin (n + 1) = if e 0 = true then fstLt (fun j => e (j + 1)) (fun j => r (j + 1)) fin n else r 0 := by
  unfold fstLt
  rw [List.range_succ_eq_map]
  show (if e 0 = true then SeqAt.firstLt e r fin ((List.range n).map Nat.succ) else r 0) = _
  rw [show (List.range n).map Nat.succ = (List.range n).map (· + 1) from rfl, fst_all (fun _ _ => true) e r (fun j => e (j + 1)) (fun j => r (j + 1)) fin _ (fun _ => rfl) (fun _ => rfl)]
/-- what the places of two lists say -/
def eqP (xs ys : List PyData) (j : Nat) : Bool := PyData.eqv (xs.getD j .none) (ys.getD j .none)
def ltP (xs ys : List PyData) (j : Nat) : Bool := ltD (xs.getD j .none) (ys.getD j .none)
theorem ltDs_first : ∀ xs ys : List PyData, ltDs xs ys = fstLt (eqP xs ys) (ltP xs ys) (decide (xs.length < ys.length)) (min xs.length ys.length)
  | [], [] => by unfold ltDs; rfl
  | [], y :: ys => by
    unfold ltDs
    rw [List.length_nil, Nat.zero_min]
    rfl
  | x :: xs, [] => by
    unfold ltDs
    rw [List.length_nil, Nat.min_zero]
    rfl
  | x :: xs, y :: ys => by
    unfold ltDs
    rw [List.length_cons, List.length_cons, Nat.succ_min_succ, fst_cons, ltDs_first xs ys]
    have e : decide (xs.length + 1 < ys.length + 1) = decide (xs.length < ys.length) := by
      rw [decide_eq_decide]
      omega
    rw [e]
    rfl
theorem okDs_at : ∀ (xs ys : List PyData) (j : Nat), okDs xs ys = true → j < xs.length → j < ys.length → (∀ i < j, eqP xs ys i = true) → eqP xs ys j = false → okD (xs.getD j .none) (ys.getD j .none) = true
  | [], _, j, _, h, _, _, _ => absurd h (Nat.not_lt_zero _)
  | _ :: _, [], j, _, _, h, _, _ => absurd h (Nat.not_lt_zero _)
  | x :: xs, y :: ys, 0, h, _, _, _, e => by
    have e' : PyData.eqv x y = false := e
    unfold okDs at h
    rw [e', if_neg Bool.false_ne_true] at h
    exact h
  | x :: xs, y :: ys, j + 1, h, h1, h2, ei, e => by
    have e0 : PyData.eqv x y = true := ei 0 (Nat.succ_pos j)
    unfold okDs at h
    rw [if_pos e0] at h
    exact okDs_at xs ys j h (Nat.lt_of_succ_lt_succ h1) (Nat.lt_of_succ_lt_succ h2) (fun i hi => ei (i + 1) (Nat.succ_lt_succ hi)) e
theorem pairEq_eqP : ∀ (xs ys : List PyData) (j : Nat), SeqAt.pairEq xs ys j = eqP xs ys j := fun xs ys j => rfl
section
open PySem.SeqAt
mutual
theorem rcLt_D : ∀ (x y : PyData) (A : Around) (s : Shared) (u v : Value) (as bs : List Addr), Reads s.heap u x as → Reads s.heap v y bs → x.canLay0 = true → y.canLay0 = true → okD x y = true → A.units + min x.depth y.depth < cLine → RcLt A s u v (ltD x y)
  | .none, _, _, _, _, _, _, _, _, _, _, _, h, _ => by unfold okD at h; cases h
  | .bool _, _, _, _, _, _, _, _, _, _, _, _, h, _ => by unfold okD at h; cases h
  | .list xs, y, A, s, u, v, as, bs, ra, rb, _, _, h, hu => by
    cases y with
    | list ys =>
      have ho : PySem.W.alike (.list xs) (.list ys) = true := by unfold okD at h; exact h
      have e : ltD (.list xs) (.list ys) = PySem.W.dataLt (.list xs) (.list ys) := by unfold ltD; rfl
      rw [e]
      exact PySem.W.rcLt_alike _ _ A s u v as bs ra rb ho (fun z => nomatch z) hu
    | _ => unfold okD at h; cases h
  | .dict _, _, _, _, _, _, _, _, _, _, _, _, h, _ => by unfold okD at h; cases h
  | .int a, y, A, s, u, v, as, bs, ra, rb, _, _, h, _ => by
    cases y with
    | int b =>
      cases ra
      cases rb
      intro prog w E Q hq
      exact P.lt_int (by unfold ltD at hq; exact hq)
    | _ => unfold okD at h; cases h
  | .str a, y, A, s, u, v, as, bs, ra, rb, _, _, h, _ => by
    cases y with
    | str b =>
      cases ra
      cases rb
      intro prog w E Q hq
      exact P.lt_str (by unfold ltD at hq; exact hq)
    | _ => unfold okD at h; cases h
  | .tuple xs, y, A, s, u, v, as, bs, ra, rb, ca, cb, h, hu => by
    cases y with
    | tuple ys =>
      have ho : okDs xs ys = true := by unfold okD at h; exact h
      have c1 : PyData.canLayAll0 xs = true := by simpa [PyData.canLay0] using ca
      have c2 : PyData.canLayAll0 ys = true := by simpa [PyData.canLay0] using cb
      cases ra with
      | @tuple p o vs n _ as1 a1 a2 a3 a4 =>
        cases rb with
        | @tuple q o' ws n' _ bs1 b1 b2 b3 b4 =>
          have l1 : vs.size = xs.length := by simpa using ReadsAll.length _ _ _ a4
          have l2 : ws.size = ys.length := by simpa using ReadsAll.length _ _ _ b4
          have e : ltD (.tuple xs) (.tuple ys) = ltDs xs ys := by unfold ltD; rfl
          rw [e, ltDs_first, ← l1, ← l2]
          refine rcLt_first ⟨_, a1, a2, _, a3⟩ ⟨_, b1, b2, _, b3⟩ (room_here hu) (fun j j1 j2 _ => ?_) (fun j j1 j2 hi hj => ?_)
          · have z : EqAt A.in1 s (vs.toList[j]'(by simpa using j1)) (ws.toList[j]'(by simpa using j2)) (eqP xs ys j) := eqAt_readsAll xs ys A.in1 s vs.toList ws.toList _ _ a4 b4 c1 c2 (room_in hu) j (by simpa using j1) (by simpa using j2)
            simpa using z
          · have := rcLt_Ds xs ys A.in1 s vs.toList ws.toList _ _ a4 b4 c1 c2 (room_in hu) j (by simpa using j1) (by simpa using j2) (okDs_at xs ys j ho (by omega) (by omega) hi hj)
            simpa using this
    | _ => unfold okD at h; cases h
theorem rcLt_Ds : ∀ (xs ys : List PyData) (A : Around) (s : Shared) (vs ws : List Value) (as bs : List Addr), ReadsAll s.heap vs xs as → ReadsAll s.heap ws ys bs → PyData.canLayAll0 xs = true → PyData.canLayAll0 ys = true →
    A.units + min (PyData.depthAll xs) (PyData.depthAll ys) < cLine → ∀ j (a : j < vs.length) (b : j < ws.length), okD (xs.getD j .none) (ys.getD j .none) = true → RcLt A s vs[j] ws[j] (ltP xs ys j)
  | [], _, _, _, _, _, _, _, ra, _, _, _, _, j, h, _, _ => by cases ra; exact absurd h (Nat.not_lt_zero _)
  | _ :: _, [], _, _, _, _, _, _, _, rb, _, _, _, j, _, h, _ => by cases rb; exact absurd h (Nat.not_lt_zero _)
  | x :: xs, y :: ys, A, s, _, _, _, _, ra, rb, ca, cb, hu, j, h1, h2, hk => by
    have c1 : x.canLay0 = true ∧ PyData.canLayAll0 xs = true := by simpa [PyData.canLayAll0] using ca
    have c2 : y.canLay0 = true ∧ PyData.canLayAll0 ys = true := by simpa [PyData.canLayAll0] using cb
    cases ra with
    | cons r rs =>
      cases rb with
      | cons r' rs' =>
        cases j with
        | zero => exact rcLt_D x y A s _ _ _ _ r r' c1.1 c2.1 hk (room_head hu)
        | succ j => exact rcLt_Ds xs ys A s _ _ _ _ rs rs' c1.2 c2.2 (room_tail hu) j (Nat.lt_of_succ_lt_succ h1) (Nat.lt_of_succ_lt_succ h2) hk
end
end
def rLtD (K : PySem.W.Frag) : R2 := fun x y H Q => ∃ d e, Dp K H x d ∧ Dp K H y e ∧ SeqAt.shaped d = true ∧ SeqAt.shaped e = true ∧ okD d e = true ∧ Q (.bl (ltD d e)) H
theorem ltDK {X : Cx} (K : PySem.W.Frag) (hu : X.A.units + 64 < cLine) (h : X.K = K := by rfl) : OpR X (compareOp .Lt) (rLtD K) := by
  subst h
  intro pins s σ H x y v u Q I rx ry h
  obtain ⟨d, e, hd, he, sd, se, ho, q⟩ := h
  obtain ⟨as, r1⟩ := Dp.reads I d x v hd rx
  obtain ⟨bs, r2⟩ := Dp.reads I e y u he ry
  have go := rcLt_D d e X.A s v u as bs r1 r2 (SeqAt.canLay_of_shaped sd) (SeqAt.canLay_of_shaped se) ho (SeqAt.room_of_shaped sd hu)
  exact go X.prog X.w X.xe _ ⟨.bl _, H, I, rfl, q⟩

/-- a def as a value, and its promise -/
structure Hd (P : Program) (w : World) (K : PySem.W.Frag) (mg : Str → Option Value) (base : Heap) (k : Nat) (f : Addr) (sp : Sp) : Prop where
  ex : ∃ (fd : FuncData) (ps : List Str), FnOk P w K mg base CX0 k f fd ps sp ∧ PySem.W.keepIn K (.ref f) = true ∧ Binds K fd ps []
theorem Cl.hd {P : Program} {w : World} {K : PySem.W.Frag} {mg : Str → Option Value} {base : Heap} {k : Nat} {x : Str} {sp : Sp} (c : Cl P w K mg base k x sp) : ∃ f, mg x = some (.ref f) ∧ Hd P w K mg base k f sp := by
  obtain ⟨f, fd, ps, F, hm, kp, b⟩ := c.ex
  exact ⟨f, hm, fd, ps, F, kp, b⟩

/-! ### sorted(xs, key=f): keys that are data, any number of them -/
/-- what the heap tells of a machine value -/
def bk : Value → V
  | .none => .non
  | .bool b => .bl b
  | .int i _ => .int i
  | .str x _ => .str x
  | .bytes b _ => .byt b
  | .float b _ => .flt b
  | .ref a => .ref a
  | .type n => .ty n
  | _ => .non
theorem bk_rel : ∀ {y : V} {v : Value}, RelV y v → bk v = y
  | .non, _, h => by cases h; rfl
  | .bl _, _, h => by cases h; rfl
  | .int _, _, h => by obtain ⟨t, rfl⟩ := h; rfl
  | .str _, _, h => by obtain ⟨t, rfl⟩ := h; rfl
  | .byt _, _, h => by obtain ⟨t, rfl⟩ := h; rfl
  | .flt _, _, h => by obtain ⟨t, rfl⟩ := h; rfl
  | .ref _, _, h => by cases h; rfl
  | .ty _, _, h => by cases h; rfl
/-- a tuple that begins with an int (b) or with a tuple -/
structure KeyD (b : Bool) (d : PyData) : Prop where
  hd : ∃ d0 ds, d = .tuple (d0 :: ds) ∧ (if b = true then ∃ n, d0 = .int n else ∃ es, d0 = .tuple es)
  lay : d.canLay0 = true
  dep : d.depth ≤ 40
section
open PySem.SeqAt PySem.W
theorem lex_D {prog : Program} {w : World} {A : Around} {s : Shared} (b : Bool) {Q : Bool → Shared → Prop} : ∀ (xs ys : List PyData) (vs ws : List Value) (as bs : List Addr) (i : Nat), ReadsAll s.heap vs xs as → ReadsAll s.heap ws ys bs → PyData.canLayAll0 xs = true → PyData.canLayAll0 ys = true →
    okDs xs ys = true → A.units + min (PyData.depthAll xs) (PyData.depthAll ys) < cLine → (b = true → i = 0 → ∀ x r y r', xs = x :: r → ys = y :: r' → ∃ m n, x = .int m ∧ y = .int n) → Q (ltDs xs ys) s →
    KatLex prog w A b (decide (xs.length < ys.length)) Q (vs.zip ws) i s
  | [], [], _, _, _, _, _, ra, rb, _, _, _, _, _, q => by
    cases ra
    unfold ltDs at q
    exact kat_nil q
  | [], _ :: _, _, _, _, _, _, ra, rb, _, _, _, _, _, q => by
    cases ra
    unfold ltDs at q
    exact kat_nil q
  | _ :: _, [], _, _, _, _, _, ra, rb, _, _, _, _, _, q => by
    cases ra
    cases rb
    unfold ltDs at q
    exact kat_nil q
  | x :: xs, y :: ys, _, _, _, _, i, ra, rb, ca, cb, ho, hu, hb, q => by
    have c1 : x.canLay0 = true ∧ PyData.canLayAll0 xs = true := by simpa [PyData.canLayAll0] using ca
    have c2 : y.canLay0 = true ∧ PyData.canLayAll0 ys = true := by simpa [PyData.canLayAll0] using cb
    cases ra with
    | cons r rs =>
      cases rb with
      | cons r' rs' =>
        have el : decide ((x :: xs).length < (y :: ys).length) = decide (xs.length < ys.length) := by
          rw [List.length_cons, List.length_cons, decide_eq_decide]
          omega
        rw [el]
        unfold okDs at ho
        unfold ltDs at q
        refine kat_cons (eqAt_reads x y A s _ _ _ _ r r' c1.1 c2.1 (room_head hu) prog w _ _ ?_)
        refine kat_go (fun e => kat_yes ?_) (fun e => kat_no ?_)
        · rw [if_pos e] at ho q
          exact lex_D b xs ys _ _ _ _ (i + 1) rs rs' c1.2 c2.2 ho (room_tail hu) (fun _ z => by omega) q
        · rw [if_neg (by rw [e]; exact Bool.false_ne_true)] at ho q
          generalize hc : (b && i == 0) = c
          cases c with
          | true =>
            rw [Bool.and_eq_true] at hc
            obtain ⟨m, n, rfl, rfl⟩ := hb hc.1 (by simpa using hc.2) _ _ _ _ rfl rfl
            cases r
            cases r'
            refine TS.oneLt_ints true ?_
            unfold ltD at q
            exact q
          | false => exact kat_one _ _ (rcLt_D x y A s _ _ _ _ r r' c1.1 c2.1 ho (room_head hu) prog w _ _ q)
theorem key_lt {prog : Program} {w : World} {A : Around} {s : Shared} {b : Bool} {x y : PyData} {u v : Value} {as bs : List Addr} (kx : KeyD b x) (ky : KeyD b y) (rx : Reads s.heap u x as) (ry : Reads s.heap v y bs) (ho : okD x y = true) (hu : A.units + 64 < cLine) :
    wpAny (model prog w) A (keyLt' (tuples' b) u v) (fun r s' => s' = s ∧ r = ltD x y) (fun _ _ => False) s := by
  obtain ⟨d0, ds, rfl, h0⟩ := kx.hd
  obtain ⟨e0, es, rfl, g0⟩ := ky.hd
  have c1 : PyData.canLayAll0 (d0 :: ds) = true := by have := kx.lay; unfold PyData.canLay0 at this; exact this
  have c2 : PyData.canLayAll0 (e0 :: es) = true := by have := ky.lay; unfold PyData.canLay0 at this; exact this
  have dd := kx.dep
  unfold PyData.depth at dd
  unfold okD at ho
  cases rx with
  | @tuple p o vs n _ as1 a1 a2 a3 a4 =>
    cases ry with
    | @tuple q o' ws n' _ bs1 b1 b2 b3 b4 =>
      have l1 : vs.size = (d0 :: ds).length := by simpa using ReadsAll.length _ _ _ a4
      have l2 : ws.size = (e0 :: es).length := by simpa using ReadsAll.length _ _ _ b4
      refine kat_lt a1 a3 b1 b3 ?_
      rw [l1, l2]
      refine lex_D b _ _ _ _ _ _ 0 a4 b4 c1 c2 ho ?_ (fun hb _ x r y r' e1 e2 => ?_) ⟨rfl, ?_⟩
      · have : min (PyData.depthAll (d0 :: ds)) (PyData.depthAll (e0 :: es)) ≤ PyData.depthAll (d0 :: ds) := Nat.min_le_left _ _
        omega
      · cases e1
        cases e2
        rw [if_pos hb] at h0 g0
        obtain ⟨m, rfl⟩ := h0
        obtain ⟨n, rfl⟩ := g0
        exact ⟨m, n, rfl, rfl⟩
      · unfold ltD
        rfl
theorem key_kind {prog : Program} {w : World} {A : Around} {E : Value → Shared → Prop} {s : Shared} {b : Bool} {us : List Value} {Q : SortKind → Shared → Prop} (h2 : 0 < us.length) (h : ∀ u ∈ us, ∃ d as, Reads s.heap u d as ∧ KeyD b d) (q : Q (tuples' b) s) : wpAny (model prog w) A (keyKind' us.toArray) Q E s := by
  have mk : ∀ us : List Value, (∀ u ∈ us, ∃ d as, Reads s.heap u d as ∧ KeyD b d) → ∃ fs, fs.length = us.length ∧ KatTups s.heap us fs ∧ ∀ f ∈ fs, Looks (model prog w) s.heap (typeOf f) (.type (if b = true then "int" else "tuple")) := by
    intro us
    induction us with
    | nil => exact fun _ => ⟨[], rfl, KatTups.nil, fun _ h => by cases h⟩
    | cons u us ih =>
      intro h
      obtain ⟨fs, l1, l2, l3⟩ := ih fun x hx => h x (List.mem_cons_of_mem _ hx)
      obtain ⟨d, as, rd, kd⟩ := h u List.mem_cons_self
      obtain ⟨d0, ds, rfl, h0⟩ := kd.hd
      cases rd with
      | @tuple p o vs n _ as1 a1 a2 a3 a4 =>
        obtain ⟨vs⟩ := vs
        cases vs with
        | nil => cases a4
        | cons v0 vs =>
          cases a4 with
          | cons r rs =>
            refine ⟨v0 :: fs, by rw [List.length_cons, List.length_cons, l1], KatTups.cons a1 a2 a3 rfl l2, fun f hf => ?_⟩
            rcases List.mem_cons.mp hf with rfl | hf
            · cases b with
              | true =>
                rw [if_pos rfl] at h0
                obtain ⟨n, rfl⟩ := h0
                cases r
                exact Looks.now
              | false =>
                rw [if_neg Bool.false_ne_true] at h0
                obtain ⟨es, rfl⟩ := h0
                cases r with
                | @tuple p' o' vs' n' _ as2 c1 c2 c3 c4 =>
                  have z : Looks (model prog w) s.heap (typeOf (.ref p')) o'.cls := (Looks.ld c1).andThen .now
                  rw [c2] at z
                  exact z
            · exact l3 f hf
  obtain ⟨fs, l1, l2, l3⟩ := mk us h
  refine kat_kind (T := .type (if b = true then "int" else "tuple")) l2 (by omega) l3 (by cases b <;> rfl) ?_
  have e : ((Value.type (if b = true then "int" else "tuple")) != Value.type "tuple") = b := by
    cases b <;> first | rfl | decide +kernel
  rw [e]
  exact q
end
/-- all that H has, and the tuples of H2 -/
def Kp3 (H H2 H3 : Hp) : Prop := Same H H3 ∧ ∀ b o, (∃ xs, o = HO.tup xs) ∨ (∃ q u, o = HO.frz q u) → H2 b = some o → H3 b = some o
def rSortF (P : Program) (w : World) (K : PySem.W.Frag) (mg : Str → Option Value) (base : Heap) (k : Nat) : List V → List V → Hp → VK → Prop := fun vs zs H Q => ∃ (a f : Addr) (sp : Sp) (ys : List V) (kd : V → PyData) (b : Bool), vs = [.ref a] ∧ zs = [.ref f] ∧ SqL K H a ys ∧ Hd P w K mg base k f sp ∧
  (∀ y ∈ ys, ∀ (H1 : Hp) (R : VK), Same H H1 → (∀ u H2, Same H1 H2 → (∀ H3, Kp3 H H2 H3 → Dp K H3 u (kd y)) → R u H2) → sp [y] H1 R E0) ∧ (∀ y ∈ ys, KeyD b (kd y)) ∧ (∀ y ∈ ys, ∀ z ∈ ys, okD (kd y) (kd z) = true) ∧ SrtO.Swo (fun y z : V => ltD (kd y) (kd z)) ∧
  ∀ zs H' p, Same H H' → H p = none → SrtO.Srtd (fun y z => ltD (kd y) (kd z)) zs → SrtO.Stb (fun y z => ltD (kd y) (kd z)) zs ys → H' p = some (.lst zs) → Q (.ref p) H'
section
open PySem.SeqAt PySem.W
theorem push_keep {h : Heap} {o : Obj} : ∀ b u, h.get? b = some u → (h.push o).get? b = some u := fun b u e => Heap.get?_push_of_some _ e
set_option maxHeartbeats 4000000 in
theorem cr_sortF {X : Cx} {k j : Nat} (hr : Room j X.A) (hk : k + 2 ≤ j) (hu : X.A.units + 70 < cLine) : CallRK X (.builtin "sorted") [Str.ofString "key"] (rSortF X.prog X.w X.K X.mg X.base k) := by
  intro pins s σ H vs zs us ws Q I r rz ask
  obtain ⟨a, f, sp, ys, kd, b, rfl, rfl, hs, ⟨fd, ps, F, kp, bnd⟩, prom, kok, cmp, O, q⟩ := ask
  obtain rfl := Vals.ref1 r
  obtain ⟨w1, rfl, e1⟩ := vals1 rz
  obtain rfl : w1 = Value.ref f := e1
  obtain ⟨its, rv, pl, hz⟩ := I.list hs
  have lz : its.length = ys.length := rv.length.symm
  -- the collected list, the list that is sorted, what is held, the keys
  generalize eh1 : (s.heap.push (seqObj "list" #[] 0)).update s.heap.objs.size (Obj.mapSeq (· ++ its.toArray)) = h1
  have sz1 : h1.objs.size = s.heap.objs.size + 1 := by
    rw [← eh1, Heap.size_update]
    exact size_push' _ _
  have k1 : ∀ b o, s.heap.get? b = some o → h1.get? b = some o := fun b o e => by
    rw [← eh1, Heap.get?_update_ne _ _ _ _ (Nat.ne_of_lt (Heap.lt_size e))]
    exact push_keep _ _ e
  generalize eD : h1.objs.size = D at sz1
  have oD : (h1.push (seqObj "list" its.toArray 0)).get? D = some (seqObj "list" its.toArray 0) := by
    rw [← eD]
    exact Heap.get?_push_size _ rfl
  refine (call_function_entry_kw kind_sorted plain_sorted entry_sorted (ksk_s1 _ _) ?_)
  unfold Builtin.«sorted»
  refine (wpAny_bind (m := checkCount "sorted" 1 1 _) (wpAny_pure ?_))
  refine (wpAny_bind (collect_list pl.isList ?_ (by rw [lz]; exact hz)))
  refine (wpAny_bind (wpAny_newList ?_ (by rw [lz]; exact hz)))
  show wpAny _ _ _ _ _ { s with heap := ((s.heap.push (seqObj "list" #[] 0)).update s.heap.objs.size (Obj.mapSeq (· ++ its.toArray))).push (seqObj "list" its.toArray 0) }
  rw [eh1, eD]
  refine (wpAny_bind (wpAny_holding (wpAny_call_entry_kw slot_list_sort ⟨_, oD, rfl⟩ entry_list_sort ?body (ksk_l1 _ _))))
  show wpAny (model X.prog X.w) X.A.in1.in1 (Builtin.«list.sort» ⟨[.ref D], [(Str.ofString "key", .ref f)]⟩) _ _ _
  rw [ksk_t1]
  -- the list emptied, its items held, the keys
  obtain ⟨ep, oD3⟩ : ∃ ep, ((h1.push (seqObj "list" its.toArray 0)).update D (Obj.mapSeq fun _ => #[])).get? D = some (seqObj "list" #[] ep) := ⟨_, get?_update_seq oD fun _ => #[]⟩
  have k3 : ∀ c o, s.heap.get? c = some o → ((h1.push (seqObj "list" its.toArray 0)).update D (Obj.mapSeq fun _ => #[])).get? c = some o := fun c o e => by
    have lt : c < s.heap.objs.size := Heap.lt_size e
    rw [Heap.get?_update_ne _ _ _ _ (Nat.ne_of_lt (by rw [sz1]; exact Nat.lt_succ_of_lt lt))]
    exact push_keep _ _ (k1 _ _ e)
  unfold ksk_tree
  refine (wpAny_bind (listItems_at oD rfl ?_))
  refine (wpAny_bind (listUpdate_at oD rfl ?_ (by rw [List.size_toArray, lz]; exact hz) (Nat.zero_le _)))
  refine (wpAny_bind (seqEpoch_at oD3 rfl ?_))
  refine (wpAny_bind (wpAny_newTuple ?_ (by show its.length ≤ _; rw [lz]; exact hz)))
  refine (wpAny_bind (wpAny_newList ?_ (Nat.zero_le _)))
  refine wpAny_holding ?_
  generalize (h1.push (seqObj "list" its.toArray 0)).update D (Obj.mapSeq fun _ => #[]) = h3 at oD3 k3 ⊢
  have lD : D < h3.objs.size := Heap.lt_size oD3
  show wpAny _ _ _ _ _ { s with heap := (h3.push (seqObj "tuple" its.toArray 0)).push (seqObj "list" #[] 0) }
  generalize e4 : h3.push (seqObj "tuple" its.toArray 0) = h4
  have oD4 : h4.get? D = some (seqObj "list" #[] ep) := by rw [← e4]; exact push_keep _ _ oD3
  have k4 : ∀ c o, s.heap.get? c = some o → h4.get? c = some o := fun c o e => by rw [← e4]; exact push_keep _ _ (k3 _ _ e)
  have lD4 : D < h4.objs.size := Heap.lt_size oD4
  let φ : Heap → Prop := fun h => h.get? D = some (seqObj "list" #[] ep)
  have nD : H D = none := I.hok.fresh (by omega)
  have I4 : Inv X pins σ (upd H D (.ext φ)) { s with heap := h4 } := I.laid (t' := s.toks) k4 (by omega) ⟨oD4, ⟨_, oD4⟩, fun h1 h2 z g => g _ z⟩
  have nK : (upd H D (.ext φ)) h4.objs.size = none := I4.hok.fresh (Nat.le_refl _)
  have oK : (h4.push (seqObj "list" #[] 0)).get? h4.objs.size = some (seqObj "list" #[] 0) := Heap.get?_push_size _ rfl
  have I5 : Inv X pins σ (upd (upd H D (.ext φ)) h4.objs.size (.lst [])) { s with heap := h4.push (seqObj "list" #[] 0) } := I4.laid (t' := s.toks) (h' := h4.push (seqObj "list" #[] 0)) push_keep (Nat.le_refl _) ⟨Nat.zero_le _, [], 0, .nil, oK⟩
  generalize h4.objs.size = kS at lD4 nK oK I5 ⊢
  have nDk : D ≠ kS := by omega
  have nHk : H kS = none := by
    rw [upd_ne (Ne.symm nDk)] at nK
    exact nK
  have sm5 : Same H (upd (upd H D (.ext φ)) kS (.lst [])) := (same_upd nD).trans (same_upd nK)
  unfold ksk_rest
  refine (wpAny_bind (wpAny_rule ?_))
  rw [List.forIn_toArray]
  refine (wpAny_bind (ksk_fold (fun i s' => ∃ (Hi : Hp) (kvs : List V), Inv X pins σ Hi s' ∧ Same H Hi ∧ Hi D = some (.ext φ) ∧ Hi kS = some (.lst kvs) ∧ kvs.length = i ∧ ∀ H3, Kp3 H Hi H3 → DpAll X.K H3 kvs ((ys.take i).map kd)) its 0 _ ⟨_, [], I5, sm5, by rw [upd_ne nDk]; exact upd_same, upd_same, rfl, fun _ _ => .nil⟩ (fun j x s' hx hI => ?turn) (fun s' hI => ?done)))
  case turn =>
    rw [Nat.zero_add] at hI ⊢
    obtain ⟨Hi, kvs, Ii, si, eDi, eKi, lk, dpi⟩ := hI
    have hj : j < ys.length := by
      rw [← lz]
      exact (List.getElem?_eq_some_iff.mp hx).1
    obtain ⟨u0, hu0, rel⟩ := Vals.get rv (List.getElem?_eq_getElem hj)
    obtain rfl : u0 = x := Option.some.inj (hu0.symm.trans hx)
    have hy : ys[j] ∈ ys := List.getElem_mem hj
    have hyj := List.getElem?_eq_getElem hj
    generalize ys[j] = y at rel hy hyj
    have spy := prom y hy Hi (fun u H2 => Same Hi H2 ∧ ∀ H3, Kp3 H H2 H3 → Dp X.K H3 u (kd y)) si fun u H2 g1 g2 => ⟨g1, g2⟩
    have called : wpAny (model X.prog X.w) X.A.in1.in1 (call (.ref f) [u0]) (fun u s2 => ∃ v H2, Inv X pins σ H2 s2 ∧ RelV v u ∧ Same Hi H2 ∧ ∀ H3, Kp3 H H2 H3 → Dp X.K H3 v (kd y)) (fun _ _ => False) s' := by
      refine wpAny_call (codeAny_mono (F.run X.A.in1.in1 X.stack s' Hi ⟨[u0], []⟩ [u0] [y] _ E0 ((hr.mono hk).in1.in1) Ii.env0.in1.in1 (bnd s' [u0] Ii.kIn (by rw [← F.len _ _ _ _ spy]; rfl)) (.cons rel .nil) spy) fun r s2 hq => ?_)
      match r, hq with
      | .error _, hq => exact False.elim hq
      | .ok .next, hq => exact False.elim hq
      | .ok .brk, hq => exact False.elim hq
      | .ok .cont, hq => exact False.elim hq
      | .ok (.ret u), hq =>
        obtain ⟨v, H2, J, rvv, g1, g2⟩ := Ii.after hq
        exact ⟨v, H2, J, rvv, g1, g2⟩
    refine wpAny_bind (wpAny_attempt (wpAny_mono called (fun u s2 hu => ?_) fun _ _ z => z.elim))
    obtain ⟨v, H2, J, rvv, g1, g2⟩ := hu
    have eK2 := g1 _ _ eKi
    obtain ⟨_, kits, n2, kr, ok2⟩ := J.hok kS _ eK2
    have lkk : kits.length = j := by rw [← kr.length]; exact lk
    obtain ⟨n3, ok3⟩ : ∃ n3, (s2.heap.update kS (Obj.mapSeq (·.push u))).get? kS = some (seqObj "list" (kits ++ [u]).toArray n3) := ⟨_, by
      rw [show (kits ++ [u]).toArray = kits.toArray.push u by simp]
      exact get?_update_seq ok2 (·.push u)⟩
    dsimp only
    refine (wpAny_bind (listUpdate_at ok2 rfl ?_ (by rw [List.size_toArray]; omega) (by rw [Array.size_push, List.size_toArray]; omega)))
    have J3 : Inv X pins σ (upd H2 kS (.lst (kvs ++ [v]))) { s2 with heap := s2.heap.update kS (Obj.mapSeq (·.push u)) } := J.write (e := kS) (t' := s2.toks) (by rw [eK2]; trivial) (.inl rfl) (fun c o nc e => by rw [Heap.get?_update_ne _ _ _ _ nc]; exact e) ⟨_, ok3⟩
      ⟨by rw [List.length_append, lk]; show j + 1 ≤ _; omega, kits ++ [u], n3, kr.append (.cons rvv .nil), ok3⟩
    refine wpAny_pure ⟨rfl, _, kvs ++ [v], J3, fun c o e => ?_, by rw [upd_ne nDk]; exact g1 _ _ eDi, upd_same, by rw [List.length_append, lk]; rfl, fun H3 kp3 => ?_⟩
    · rw [upd_ne (ne_of_none e nHk)]
      exact g1 _ _ (si _ _ e)
    · have k2 : Kp3 H H2 H3 := ⟨kp3.1, fun c o ho e => kp3.2 c o ho (by
        rw [upd_ne (fun z => ?_)]
        · exact e
        · subst z
          rw [eK2] at e
          cases e
          rcases ho with ⟨xs, z⟩ | ⟨q', u', z⟩ <;> cases z)⟩
      have ki : Kp3 H Hi H3 := ⟨kp3.1, fun c o ho e => k2.2 c o ho (g1 _ _ e)⟩
      rw [List.take_add_one, hyj, List.map_append]
      exact DpAll.snoc (dpi H3 ki) (g2 H3 k2)
  case done =>
    rw [Nat.zero_add] at hI
    obtain ⟨Hn, kvs, In, sn, eDn, eKn, lk, dpn⟩ := hI
    have dpn := dpn Hn ⟨sn, fun _ _ _ e => e⟩
    rw [lz, List.take_of_length_le (Nat.le_refl _)] at dpn
    obtain ⟨_, kits, n2, kr, okK⟩ := In.hok kS _ eKn
    obtain ⟨okD, _⟩ := In.hok D _ eDn
    have okD : s'.heap.get? D = some (seqObj "list" #[] ep) := okD
    have lkk : kits.length = its.length := by rw [← kr.length]; exact lk
    refine (wpAny_bind (listItems_at okK rfl ?_))
    have ez : (kits.toArray.zip its.toArray).toList = kits.zip its := by simp
    have lt2 : SrtO.Swo (fun p q : Keyed => ltD (kd (bk p.2)) (kd (bk q.2))) := ⟨fun x y h => O.asym _ _ h, fun x y z h g => O.tr _ _ _ h g⟩
    let P : Keyed → Prop := fun p => (∃ as, Reads s'.heap p.1 (kd (bk p.2)) as) ∧ bk p.2 ∈ ys ∧ RelV (bk p.2) p.2
    have hP : ∀ p ∈ kits.zip its, P p := fun p hp => by
      obtain ⟨i, hi⟩ := List.getElem?_of_mem hp
      rw [List.getElem?_zip_eq_some] at hi
      obtain ⟨i1, i2⟩ := hi
      have li : i < ys.length := by
        rw [← lz]
        exact (List.getElem?_eq_some_iff.mp i2).1
      obtain ⟨u0, hu0, rel⟩ := Vals.get rv (List.getElem?_eq_getElem li)
      obtain rfl : u0 = p.2 := Option.some.inj (hu0.symm.trans i2)
      obtain ⟨v0, hv0, dv⟩ := DpAll.get dpn (show (ys.map kd)[i]? = some (kd ys[i]) by rw [List.getElem?_map, List.getElem?_eq_getElem li]; rfl)
      obtain ⟨u1, hu1, rel1⟩ := Vals.get kr hv0
      obtain rfl : u1 = p.1 := Option.some.inj (hu1.symm.trans i1)
      have eb := bk_rel rel
      refine ⟨?_, by rw [eb]; exact List.getElem_mem li, by rw [eb]; exact rel⟩
      rw [eb]
      exact Dp.reads In _ _ _ dv rel1
    have emap : (kits.zip its).map (fun p => bk p.2) = ys := by
      have e1 : (kits.zip its).map (fun p => bk p.2) = its.map bk := by
        rw [show (fun p : Value × Value => bk p.2) = bk ∘ Prod.snd from rfl, ← List.map_map, List.map_snd_zip (by omega)]
      rw [e1]
      have : ∀ {ys : List V} {its : List Value}, Vals ys its → its.map bk = ys := by
        intro ys its h
        induction h with
        | nil => rfl
        | cons a _ ih => rw [List.map_cons, ih, bk_rel a]
      exact this rv
    have fin : ∀ st' : SortSt, SrtO.Srtd (fun p q : Keyed => ltD (kd (bk p.2)) (kd (bk q.2))) (arrOf st').toList → SrtO.Stb (fun p q : Keyed => ltD (kd (bk p.2)) (kd (bk q.2))) (arrOf st').toList (kits.zip its) → failedOf st' = none →
        wpAny (model X.prog X.w) X.A.in1.in1 (ksk_tail D false ep (.ref kS) st') (fun fin s' => ∃ v, fin = PySem.Fin.done (Flow.ret v) ∧ wpAny (model X.prog X.w) X.A.in1 (ret (Value.ref D)) (fun fin s' => ∃ v, fin = PySem.Fin.done (Flow.ret v) ∧ EP X pins σ Q v s') X.xe s') X.xe s' := fun st' a1 a2 a3 => by
      have lo : (arrOf st').toList.length = its.length := by
        rw [a2.len, List.length_zip, lkk, Nat.min_self]
      have lo2 : ((arrOf st').map (·.2)).size = its.length := by
        rw [Array.size_map, ← lo, Array.length_toList]
      obtain ⟨n4, ok4⟩ : ∃ n4, (s'.heap.update kS (Obj.mapSeq fun _ => (#[] : Array Value))).get? kS = some (seqObj "list" #[] n4) := ⟨_, get?_update_seq okK fun _ => #[]⟩
      have okD4 : (s'.heap.update kS (Obj.mapSeq fun _ => (#[] : Array Value))).get? D = some (seqObj "list" #[] ep) := by
        rw [Heap.get?_update_ne _ _ _ _ nDk]
        exact okD
      have J1 : Inv X pins σ (upd Hn kS (.lst [])) { s' with heap := s'.heap.update kS (Obj.mapSeq fun _ => (#[] : Array Value)) } := In.write (e := kS) (t' := s'.toks) (by rw [eKn]; trivial) (.inl rfl) (fun c o nc e => by rw [Heap.get?_update_ne _ _ _ _ nc]; exact e) ⟨_, ok4⟩ ⟨Nat.zero_le _, [], n4, .nil, ok4⟩
      obtain ⟨n5, ok5⟩ : ∃ n5, ((s'.heap.update kS (Obj.mapSeq fun _ => (#[] : Array Value))).update D (Obj.mapSeq fun _ => (arrOf st').map (·.2))).get? D = some (seqObj "list" ((arrOf st').map (·.2)) n5) := ⟨_, get?_update_seq okD4 fun _ => (arrOf st').map (·.2)⟩
      have vv : Vals ((arrOf st').toList.map fun p => bk p.2) ((arrOf st').map (·.2)).toList := by
        rw [Array.toList_map]
        have hall : ∀ p ∈ (arrOf st').toList, RelV (bk p.2) p.2 := fun p hp => (hP p (a2.perm.mem_iff.mp hp)).2.2
        generalize (arrOf st').toList = l at hall
        induction l with
        | nil => exact .nil
        | cons p l ih => exact .cons (hall p List.mem_cons_self) (ih fun x hx => hall x (List.mem_cons_of_mem _ hx))
      have eD1 : (upd Hn kS (.lst [])) D = some (.ext φ) := by
        rw [upd_ne nDk]
        exact eDn
      have J2 : Inv X pins σ (upd (upd Hn kS (.lst [])) D (.lst ((arrOf st').toList.map fun p => bk p.2))) { s' with heap := (s'.heap.update kS (Obj.mapSeq fun _ => (#[] : Array Value))).update D (Obj.mapSeq fun _ => (arrOf st').map (·.2)) } := J1.write (e := D) (t' := s'.toks) (by rw [eD1]; trivial) (.inl rfl) (fun c o nc e => by
        show ((s'.heap.update kS (Obj.mapSeq fun _ => (#[] : Array Value))).update D _).get? c = _
        rw [Heap.get?_update_ne _ _ _ _ nc]
        exact e) ⟨_, ok5⟩ ⟨by rw [List.length_map, lo, lz]; exact hz, _, n5, vv, by rw [Array.toArray_toList]; exact ok5⟩
      unfold ksk_tail
      dsimp only
      refine (wpAny_bind (listUpdate_at okK rfl ?_ (by rw [List.size_toArray, lkk, lz]; exact hz) (Nat.zero_le _)))
      refine (wpAny_bind (wpAny_letGo ?_))
      refine (wpAny_bind (seqEpoch_at okD4 rfl ?_))
      refine (wpAny_bind (listUpdate_at okD4 rfl ?_ (Nat.zero_le _) (by
        rw [if_neg Bool.false_ne_true, lo2, lz]
        omega)))
      rw [a3]
      simp only [bne_self_eq_false, Bool.false_eq_true, if_false]
      refine wpAny_pure ⟨_, rfl, wpAny_pure ⟨_, rfl, .ref D, _, J2, rfl, ?_⟩⟩
      refine q _ _ D (fun c o e => ?_) nD (SrtO.srtd_map a1) (by rw [← emap]; exact SrtO.Stb.map O (fun p : Keyed => bk p.2) a2) upd_same
      rw [upd_ne (ne_of_none e nD), upd_ne (ne_of_none e nHk)]
      exact sn _ _ e
    unfold ksk_end
    dsimp only
    rw [if_neg Bool.false_ne_true]
    by_cases h2 : its.toArray.size < 2
    · rw [if_pos h2, if_pos h2]
      refine (wpAny_bind (wpAny_pure ?_))
      rw [StateT.run_pure]
      refine (wpAny_bind (wpAny_pure ?_))
      refine fin (SortSt.mk' general' (kits.toArray.zip its.toArray) #[] 7 none) ?_ ?_ rfl
      · show SrtO.Srtd _ (kits.toArray.zip its.toArray).toList
        rw [ez]
        have l2 : (kits.zip its).length < 2 := by
          rw [List.length_zip]
          rw [List.size_toArray] at h2
          omega
        match kits.zip its, l2 with
        | [], _ => exact List.Pairwise.nil
        | [x], _ => exact List.pairwise_singleton _ _
        | _ :: _ :: _, l2 => simp only [List.length_cons] at l2; omega
      · show SrtO.Stb _ (kits.toArray.zip its.toArray).toList _
        rw [ez]
        exact SrtO.Stb.refl _
    · rw [if_neg h2, if_neg h2]
      rw [List.size_toArray] at h2
      refine (wpAny_bind (key_kind (b := b) (by omega) (fun u hu => ?_) ?_))
      · obtain ⟨i, hi⟩ := List.getElem?_of_mem hu
        have li : i < kits.length := (List.getElem?_eq_some_iff.mp hi).1
        have hp := hP (kits[i], its[i]) (by
          refine List.mem_of_getElem? (i := i) ?_
          rw [List.getElem?_zip_eq_some]
          exact ⟨List.getElem?_eq_getElem li, List.getElem?_eq_getElem _⟩)
        obtain ⟨⟨as, g1⟩, g2, _⟩ := hp
        rw [List.getElem?_eq_getElem li] at hi
        cases hi
        exact ⟨_, as, g1, kok _ g2⟩
      · refine (wpAny_bind (wpAny_mono (SrtO.wpS_sortO (P := P) (st0 := SortSt.mk' (tuples' b) (kits.toArray.zip its.toArray) #[] 7 none) (lt := fun p q : Keyed => ltD (kd (bk p.2)) (kd (bk q.2)))
          (Q := fun _ st' => SrtO.Srtd (fun p q : Keyed => ltD (kd (bk p.2)) (kd (bk q.2))) (arrOf st').toList ∧ SrtO.Stb (fun p q : Keyed => ltD (kd (bk p.2)) (kd (bk q.2))) (arrOf st').toList (kits.zip its) ∧ failedOf st' = none) lt2 (fun p q hp hq => ?_) rfl (fun p hp => hP p (by rw [← ez]; exact hp)) rfl rfl fun st' g1 g2 g3 => ⟨g1, by rw [← ez]; exact g2, g3⟩) ?_ fun _ _ e => e))
        · obtain ⟨⟨as, g1⟩, g2, _⟩ := hp
          obtain ⟨⟨bs, g3⟩, g4, _⟩ := hq
          exact key_lt (kok _ g2) (kok _ g4) g1 g3 (cmp _ g2 _ g4) (by show X.A.units + 1 + 1 + 64 < _; omega)
        · rintro ⟨⟨⟩, st'⟩ s2 ⟨rfl, g1, g2, g3⟩
          exact fin st' g1 g2 g3
end

section
variable {P : Program} {w : World} {K : PySem.W.Frag} {mg : Str → Option Value} {base : Heap} {X : Cx} {k j : Nat}
theorem hu70 {A : Around} (hr : Room j A) : A.units + 70 < cLine := by have := hr.un; omega
theorem cr_sortFK (hr : Room j X.A) (hk : k + 2 ≤ j) (h1 : X.prog = P := by rfl) (h2 : X.w = w := by rfl) (h3 : X.K = K := by rfl) (h4 : X.mg = mg := by rfl) (h5 : X.base = base := by rfl) : CallRK X (.builtin "sorted") [Str.ofString "key"] (rSortF P w K mg base k) := by
  subst h1 h2 h3 h4 h5
  exact cr_sortF hr hk (hu70 hr)
end

/-! ### values of plans -/
inductive Vl where
  | n
  | i (k : Int)
  | s (l : List Nat)
  deriving DecidableEq
def Vl.v : Vl → V
  | .n => .non
  | .i k => .int k
  | .s l => .str ⟨l.toArray⟩
/-- the value as data -/
def Vl.p : Vl → PyData
  | .n => .none
  | .i k => .int k
  | .s l => .str ⟨l.toArray⟩
/-- the key of a value -/
def Vl.d : Vl → PyData
  | .n => .tuple [.int 0]
  | .i k => .tuple [.int 1, .int k]
  | .s l => .tuple [.int 2, .str ⟨l.toArray⟩]
def BND : Int := 1000000000000000
def Vl.ok : Vl → Prop
  | .i k => -BND ≤ k ∧ k ≤ BND
  | .s l => l = [97] ∨ l = [98]
  | _ => True
def Vl.isI : Vl → Bool
  | .i _ => true
  | _ => false
def Vl.isS : Vl → Bool
  | .s _ => true
  | _ => false
def Vl.isN : Vl → Bool
  | .n => true
  | _ => false
def Vl.tn : Vl → String
  | .n => "NoneType"
  | .i _ => "int"
  | .s _ => "str"
theorem Vl.ty {K : PySem.W.Frag} {H : Hp} : ∀ v : Vl, TyX K H v.v (.type v.tn)
  | .n => .base .non
  | .i k => .base (.int k)
  | .s _ => .base (.str _)
theorem Vl.kI : ∀ v : Vl, kitB v.tn "int" = some v.isI
  | .n => by show kitB "NoneType" "int" = some false; decide +kernel
  | .i _ => by show kitB "int" "int" = some true; decide +kernel
  | .s _ => by show kitB "str" "int" = some false; decide +kernel
theorem Vl.kS : ∀ v : Vl, kitB v.tn "str" = some v.isS
  | .n => by show kitB "NoneType" "str" = some false; decide +kernel
  | .i _ => by show kitB "int" "str" = some false; decide +kernel
  | .s _ => by show kitB "str" "str" = some true; decide +kernel
theorem Vl.eN : ∀ v : Vl, decide (v.v = .non) = v.isN
  | .n => decide_eq_true rfl
  | .i _ => decide_eq_false (fun z => nomatch z)
  | .s _ => decide_eq_false (fun z => nomatch z)
theorem Vl.dp {K : PySem.W.Frag} {H : Hp} : ∀ v : Vl, Dp K H v.v v.p
  | .n => .non
  | .i k => .int k
  | .s _ => .str _
theorem Vl.of_isI {v : Vl} (h : v.isI = true) : ∃ k, v = .i k := by
  cases v with
  | i k => exact ⟨k, rfl⟩
  | n => cases h
  | s l => cases h
theorem Vl.of_isS {v : Vl} (h : v.isS = true) : ∃ l, v = .s l := by
  cases v with
  | s l => exact ⟨l, rfl⟩
  | n => cases h
  | i k => cases h
def bnd (k : Int) : Vl := if -BND ≤ k ∧ k ≤ BND then .i k else .n
theorem bnd_ok (k : Int) : (bnd k).ok := by
  unfold bnd
  by_cases h : -BND ≤ k ∧ k ≤ BND
  · rw [if_pos h]
    exact h
  · rw [if_neg h]
    trivial
def Vl.tr : Vl → Bool
  | .i k => !decide (k = 0)
  | _ => false
def Vl.fa : Vl → Bool
  | .i k => decide (k = 0)
  | _ => false
/-- what two integers give; nothing of others -/
def ar (g : Int → Int → Vl) : Vl → Vl → Vl
  | .i a, .i b => g a b
  | _, _ => .n
def bothI (v w : Vl) : Bool := v.isI && w.isI
theorem ar_no {g : Int → Int → Vl} : ∀ {v w : Vl}, bothI v w = false → ar g v w = .n
  | .i _, .i _, h => by cases h
  | .n, _, _ => rfl
  | .s _, _, _ => rfl
  | .i _, .n, _ => rfl
  | .i _, .s _, _ => rfl
theorem ints_of {v w : Vl} (h : bothI v w = true) : ∃ a b, v = .i a ∧ w = .i b := by
  unfold bothI at h
  rw [Bool.and_eq_true] at h
  obtain ⟨a, rfl⟩ := Vl.of_isI h.1
  obtain ⟨b, rfl⟩ := Vl.of_isI h.2
  exact ⟨a, b, rfl, rfl⟩
def bf : Vl → Vl → Bool
  | .n, .n => false
  | .n, _ => true
  | _, .n => false
  | .i a, .i b => decide (a < b)
  | .i _, .s _ => true
  | .s _, .i _ => false
  | .s l, .s m => decide (l < m)
def one (b : Bool) : Vl := .i (if b = true then 1 else 0)
def cm (g : Vl → Vl → Bool) (v w : Vl) : Vl := if v.isN = true then .n else if w.isN = true then .n else one (g v w)
def fAnd (v w : Vl) : Vl := if (v.fa || w.fa) = true then one false else if (v.tr && w.tr) = true then one true else .n
def fOr (v w : Vl) : Vl := if (v.tr || w.tr) = true then one true else if (v.fa && w.fa) = true then one false else .n
def fNot (v : Vl) : Vl := if v.fa = true then one true else if v.tr = true then one false else .n
def fNeg : Vl → Vl
  | .i k => bnd (-k)
  | _ => .n
def fLen : Vl → Vl
  | .s l => .i (l.length : Nat)
  | _ => .n
def fSta : Vl → Vl → Vl
  | .s l, .s m => one (m.isPrefixOf l)
  | _, _ => .n
def fDiv : Vl → Vl → Vl := ar fun a b => if b < 1 then .n else bnd (a / b)
def fRem : Vl → Vl → Vl := ar fun a b => if b < 1 then .n else bnd (a % b)
theorem one_ok (b : Bool) : (one b).ok := by
  cases b with
  | true => exact ⟨by decide, by decide⟩
  | false => exact ⟨by decide, by decide⟩
/-! ### the order of keys -/
theorem lt_tri (l m : List Nat) : (!decide (l < m) && !decide (m < l)) = decide (l = m) := by
  by_cases e : l = m
  · subst e
    simp [List.lt_irrefl]
  · rw [decide_eq_false e]
    by_cases h : l < m
    · rw [decide_eq_true h]
      rfl
    · rw [decide_eq_false h]
      have h2 : m < l := by
        have := List.not_lt.mp h
        exact (Std.lt_of_le_of_ne this (fun z => e z.symm))
      rw [decide_eq_true h2]
      rfl
theorem mk_inj {l m : List Nat} (h : (⟨l.toArray⟩ : Str) = ⟨m.toArray⟩) : l = m := by
  have e := Str.mk.inj h
  have e2 := congrArg Array.toList e
  simpa using e2
theorem S_dec (l m : List Nat) : ((⟨l.toArray⟩ : Str) == ⟨m.toArray⟩) = decide (l = m) := by
  by_cases h : l = m
  · subst h
    rw [decide_eq_true rfl]
    exact beq_self_eq_true _
  · rw [decide_eq_false h]
    exact beq_eq_false_iff_ne.mpr fun z => h (mk_inj z)
theorem eqv_d (v w : Vl) : PyData.eqv v.d w.d = decide (v = w) := by
  cases v <;> cases w <;> simp [Vl.d, PyData.eqv, PyData.eqvAll, S_dec]
  rw [Bool.eq_iff_iff]
  simp
theorem ok_d (v w : Vl) : okD v.d w.d = true := by
  cases v <;> cases w <;> simp [Vl.d, okD, okDs, PyData.eqv, PyData.eqvAll]
theorem lt_d (v w : Vl) : ltD v.d w.d = bf v w := by
  cases v <;> cases w <;> simp [Vl.d, ltD, ltDs, PyData.eqv, PyData.eqvAll, bf]
  · omega
  · exact fun h e => by subst e; exact List.lt_irrefl _ h
theorem strOk_ab {l : List Nat} (h : l = [97] ∨ l = [98]) : PyData.strOk ⟨l.toArray⟩ = true := by
  rcases h with rfl | rfl <;> decide +kernel
theorem key_shaped : ∀ v : Vl, v.ok → SeqAt.shaped v.d = true
  | .n, _ => rfl
  | .i k, _ => rfl
  | .s l, h => by
    unfold SeqAt.shaped
    rw [Bool.and_eq_true]
    refine ⟨?_, decide_eq_true (by show (PyData.depth (.tuple _)) ≤ _; simp [PyData.depth, PyData.depthAll])⟩
    simp [Vl.d, PyData.canLay0, PyData.canLayAll0, strOk_ab h]
/-! ### the promises -/
def sp_key (K : PySem.W.Frag) : Sp := fun vs H Q _ => ∃ v : Vl, vs = [v.v] ∧ ∀ H' p, Same H H' → Dp K H' (.ref p) v.d → Q (.ref p) H'
section
variable {P : Program} {w : World} {K : PySem.W.Frag} {mg : Str → Option Value} {base : Heap}
theorem ok_key {f : Addr} {fd : FuncData} (F : Fun K "value_key" "value_key" s_value_key f fd) (M : Mg mg) : FnOk P w K mg base CX0 1 f fd ["value"] (sp_key K) := by
  refine F.ok sc_value_key (fun vs H Q E h => ?_) (fun cdv A outer s H vs Q E hr h => ?_)
  · obtain ⟨v, rfl, _⟩ := h
    rfl
  · obtain ⟨v, rfl, q⟩ := h
    refine ⟨_, (pss_cons (ps_if (pt_cmpR op_isN (pv 0) pe_non (nomark _)) (pss_one (ps_ret (pe_tup (pa_cons pe_int pa_nil)))) pss_nil)
      (pss_cons (ps_if (pt_val (pe_callB (isiK K) (by rfl) M.isinstance (by decide +kernel) (pa_cons (pv 0) (pa_cons (pe_bltn (v := .ty "int") (by rfl) M.int (by decide +kernel) rfl) pa_nil)))) (pss_one (ps_ret (pe_tup (pa_cons pe_int (pa_cons (pv 0) pa_nil))))) pss_nil)
      (pss_one (ps_ret (pe_tup (pa_cons pe_int (pa_cons (pv 0) pa_nil))))))), ?_⟩
    cases v with
    | n =>
      refine ⟨_, rfl, rfl, _, rfl, iteT ?_⟩
      exact ⟨by show 1 ≤ sizeLine; decide, fun p np => q _ p (same_upd np) (.tup (.of upd_same) (.cons (.int _) .nil))⟩
    | i k =>
      refine ⟨_, rfl, rfl, _, rfl, iteF ?_⟩
      refine ⟨_, rfl, _, _, _, _, _, rfl, .ty _, TyX.base (TyOf.int k), kit_ty (show kitB _ _ = some true by decide +kernel), _, rfl, iteT ?_⟩
      exact ⟨_, rfl, by show 2 ≤ sizeLine; decide, fun p np => q _ p (same_upd np) (.tup (.of upd_same) (.cons (.int _) (.cons (.int _) .nil)))⟩
    | s l =>
      refine ⟨_, rfl, rfl, _, rfl, iteF ?_⟩
      refine ⟨_, rfl, _, _, _, _, _, rfl, .ty _, TyX.base (TyOf.str _), kit_ty (show kitB _ _ = some false by decide +kernel), _, rfl, iteF ?_⟩
      exact ⟨_, rfl, by show 2 ≤ sizeLine; decide, fun p np => q _ p (same_upd np) (.tup (.of upd_same) (.cons (.int _) (.cons (.str _) .nil)))⟩
end

/-! ### the laws' cells, their keys, their evaluation -/
def Vl.sm : Vl → Prop
  | .i k => 0 ≤ k ∧ k ≤ 3
  | .s l => l = [97] ∨ l = [98]
  | _ => True
theorem Vl.sm_ok {v : Vl} (h : v.sm) : v.ok := by
  cases v with
  | n => trivial
  | i k =>
    have h : 0 ≤ k ∧ k ≤ 3 := h
    show -BND ≤ k ∧ k ≤ BND
    unfold BND
    omega
  | s l => exact h
def Vl.lk : Vl → PyData
  | .n => .tuple [.int 0, .int 0, .str ⟨([] : List Nat).toArray⟩]
  | .i k => .tuple [.int 1, .int k, .str ⟨([] : List Nat).toArray⟩]
  | .s l => .tuple [.int 2, .int 0, .str ⟨l.toArray⟩]
theorem eqv_lk (v w : Vl) : PyData.eqv v.lk w.lk = decide (v = w) := by
  cases v <;> cases w <;> simp [Vl.lk, PyData.eqv, PyData.eqvAll, S_dec]
  rw [Bool.eq_iff_iff]
  simp
theorem ok_lk (v w : Vl) : okD v.lk w.lk = true := by
  cases v <;> cases w <;> simp [Vl.lk, okD, okDs, PyData.eqv, PyData.eqvAll]
theorem lt_lk (v w : Vl) : ltD v.lk w.lk = bf v w := by
  cases v <;> cases w <;> simp [Vl.lk, ltD, ltDs, PyData.eqv, PyData.eqvAll, bf]
  · intro h e
    omega
  · exact fun h e => by subst e; exact List.lt_irrefl _ h
theorem lk_shaped : ∀ v : Vl, v.ok → SeqAt.shaped v.lk = true
  | .n, _ => by decide +kernel
  | .i k, _ => by
    unfold SeqAt.shaped
    rw [Bool.and_eq_true]
    refine ⟨?_, decide_eq_true (by show (PyData.depth (.tuple _)) ≤ _; simp [PyData.depth, PyData.depthAll])⟩
    simp [Vl.lk, PyData.canLay0, PyData.canLayAll0, PyData.strOk]
  | .s l, h => by
    unfold SeqAt.shaped
    rw [Bool.and_eq_true]
    refine ⟨?_, decide_eq_true (by show (PyData.depth (.tuple _)) ≤ _; simp [PyData.depth, PyData.depthAll])⟩
    simp [Vl.lk, PyData.canLay0, PyData.canLayAll0, strOk_ab h]
def sp_cell : Sp := fun vs H Q _ => ∃ (d c : Addr), vs = [.ref d] ∧ Dr H d c ∧ ∀ H' (v : Vl), Fd d H H' → Dr H' d c → v.sm → Q v.v H'
def sp_lkey (K : PySem.W.Frag) : Sp := fun vs H Q _ => ∃ v : Vl, vs = [v.v] ∧ ∀ H' p, Same H H' → Dp K H' (.ref p) v.lk → Q (.ref p) H'
section
variable {P : Program} {w : World} {K : PySem.W.Frag} {mg : Str → Option Value} {base : Heap}
theorem ok_cell {f : Addr} {fd : FuncData} (F : Fun K "_law_cell" "_law_cell" s__law_cell f fd) (M : Mg mg) (c__law_next : Cl P w K mg base 1 "_law_next" sp_next) : FnOk P w K mg base CX0 2 f fd ["draw"] sp_cell := by
  refine F.ok sc__law_cell (fun vs H Q E h => ?_) (fun cdv A outer s H vs Q E hr h => ?_)
  · obtain ⟨d, c, rfl, _⟩ := h
    rfl
  · obtain ⟨d, c, rfl, dr, q⟩ := h
    refine ⟨_, (pss_cons (ps_set (i := 1) sc__law_cell.nd rfl (.inl rfl) (pe_u c__law_next hr (by first | decide | omega) (by rfl) (pa_cons (pv 0) (pa_cons pe_int pa_nil))))
      (pss_cons (ps_if (pt_cmpR op_eq (pv 1) pe_int (nomark _)) (pss_one (ps_ret pe_non)) pss_nil)
      (pss_one (ps_ret (pe_ifExp (pt_cmpR op_gt (pv 1) pe_int (nomark _)) (pe_ix ix_str pe_str (pe_op op_sub (pv 1) pe_int) (fun _ _ => rfl)) (pe_op op_sub (pv 1) pe_int)))))), ?_⟩
    refine ⟨_, rfl, d, c, 7, rfl, dr, by decide, by decide, fun H1 r f1 _ dr1 r0 r1 => ?_⟩
    refine ⟨_, rfl, rfl, _, rfl, ite2 (fun e => ?_) (fun e => ?_)⟩
    · exact q H1 .n f1 dr1 trivial
    · have hr0 : r ≠ 0 := fun z => e (by rw [z]; exact decide_eq_true rfl)
      refine ⟨_, rfl, _, _, rfl, rfl, _, rfl, ite2 (fun e2 => ?_) (fun e2 => ?_)⟩
      · have h4 := of_decide_eq_true e2
        have h56 : r = 5 ∨ r = 6 := by omega
        rcases h56 with rfl | rfl
        · exact ⟨_, rfl, _, _, rfl, rfl, _, _, 97, rfl, rfl, by decide, atI_nat (j := 0) rfl, q H1 (.s [97]) f1 dr1 (.inl rfl)⟩
        · exact ⟨_, rfl, _, _, rfl, rfl, _, _, 98, rfl, rfl, by decide, atI_nat (j := 1) rfl, q H1 (.s [98]) f1 dr1 (.inr rfl)⟩
      · have h4 : ¬ r > 4 := fun z => e2 (decide_eq_true z)
        exact ⟨_, rfl, _, _, rfl, rfl, q H1 (.i (r - 1)) f1 dr1 ⟨by omega, by omega⟩⟩
theorem ok_lkey {f : Addr} {fd : FuncData} (F : Fun K "_law_key" "_law_key" s__law_key f fd) (M : Mg mg) : FnOk P w K mg base CX0 1 f fd ["value"] (sp_lkey K) := by
  refine F.ok sc__law_key (fun vs H Q E h => ?_) (fun cdv A outer s H vs Q E hr h => ?_)
  · obtain ⟨v, rfl, _⟩ := h
    rfl
  · obtain ⟨v, rfl, q⟩ := h
    refine ⟨_, (pss_cons (ps_if (pt_cmpR op_isN (pv 0) pe_non (nomark _)) (pss_one (ps_ret (pe_tup (pa_cons pe_int (pa_cons pe_int (pa_cons pe_str pa_nil)))))) pss_nil)
      (pss_cons (ps_if (pt_val (pe_callB (isiK K) (by rfl) M.isinstance (by decide +kernel) (pa_cons (pv 0) (pa_cons (pe_bltn (v := .ty "str") (by rfl) M.str (by decide +kernel) rfl) pa_nil)))) (pss_one (ps_ret (pe_tup (pa_cons pe_int (pa_cons pe_int (pa_cons (pv 0) pa_nil)))))) pss_nil)
      (pss_one (ps_ret (pe_tup (pa_cons pe_int (pa_cons (pv 0) (pa_cons pe_str pa_nil)))))))), ?_⟩
    refine ⟨_, rfl, rfl, _, rfl, ?_⟩
    rw [v.eN]
    cases v with
    | n => exact iteT ⟨by show 3 ≤ sizeLine; decide, fun p np => q _ p (same_upd np) (.tup (.of upd_same) (.cons (.int _) (.cons (.int _) (.cons (.str _) .nil))))⟩
    | i k =>
      refine iteF ⟨_, rfl, _, _, _, _, _, rfl, .ty _, (Vl.i k).ty, kit_ty (Vl.i k).kS, _, rfl, iteF ?_⟩
      exact ⟨_, rfl, by show 3 ≤ sizeLine; decide, fun p np => q _ p (same_upd np) (.tup (.of upd_same) (.cons (.int _) (.cons (.int _) (.cons (.str _) .nil))))⟩
    | s l =>
      refine iteF ⟨_, rfl, _, _, _, _, _, rfl, .ty _, (Vl.s l).ty, kit_ty (Vl.s l).kS, _, rfl, iteT ?_⟩
      exact ⟨_, rfl, by show 3 ≤ sizeLine; decide, fun p np => q _ p (same_upd np) (.tup (.of upd_same) (.cons (.int _) (.cons (.int _) (.cons (.str _) .nil))))⟩
end

/-! ### totals of values -/
/-- the value that the heap's value is -/
def toVl : V → Vl
  | .int k => .i k
  | .str x => .s x.cps.toList
  | _ => .n
theorem toVl_v : ∀ v : Vl, toVl v.v = v
  | .n => rfl
  | .i _ => rfl
  | .s l => by
    show Vl.s (⟨l.toArray⟩ : Str).cps.toList = _
    simp
theorem bf_tri : ∀ {a b : Vl}, bf a b = false → bf b a = false → a = b
  | .n, .n, _, _ => rfl
  | .n, .i _, h, _ => by cases h
  | .n, .s _, h, _ => by cases h
  | .i _, .n, _, h => by cases h
  | .s _, .n, _, h => by cases h
  | .i _, .s _, h, _ => by cases h
  | .s _, .i _, _, h => by cases h
  | .i a, .i b, h, g => by
    have h := of_decide_eq_false h
    have g := of_decide_eq_false g
    have e : a = b := by omega
    rw [e]
  | .s l, .s m, h, g => by
    have h : decide (l < m) = false := h
    have g : decide (m < l) = false := g
    have := lt_tri l m
    rw [h, g] at this
    have e := of_decide_eq_true this.symm
    rw [e]
theorem bf_asym : ∀ a b : Vl, bf a b = true → bf b a = false
  | .n, .n, h => by cases h
  | .n, .i _, _ => rfl
  | .n, .s _, _ => rfl
  | .i _, .n, h => by cases h
  | .s _, .n, h => by cases h
  | .i _, .s _, _ => rfl
  | .s _, .i _, h => by cases h
  | .i a, .i b, h => by
    have h := of_decide_eq_true h
    exact decide_eq_false (by omega)
  | .s l, .s m, h => by
    have h : l < m := of_decide_eq_true h
    exact decide_eq_false (List.lt_asymm h)
theorem bf_tr : ∀ a b c : Vl, bf b a = false → bf c b = false → bf c a = false
  | .n, .n, .n, _, _ => rfl
  | .n, .n, .i _, _, h => h
  | .n, .n, .s _, _, h => h
  | .n, .i _, .n, _, h => by cases h
  | .n, .s _, .n, _, h => by cases h
  | .n, .i _, .i _, _, _ => rfl
  | .n, .i _, .s _, _, _ => rfl
  | .n, .s _, .i _, _, _ => rfl
  | .n, .s _, .s _, _, _ => rfl
  | .i _, .n, _, h, _ => by cases h
  | .s _, .n, _, h, _ => by cases h
  | .i _, .i _, .n, _, h => by cases h
  | .i _, .s _, .n, _, h => by cases h
  | .s _, .i _, _, h, _ => by cases h
  | .s _, .s _, .n, _, h => by cases h
  | .i a, .i b, .i c, h, g => by
    have h := of_decide_eq_false h
    have g := of_decide_eq_false g
    exact decide_eq_false (by omega)
  | .i _, .i _, .s _, _, _ => rfl
  | .i _, .s _, .s _, _, _ => rfl
  | .i _, .s _, .i _, _, h => by cases h
  | .s _, .s _, .i _, _, h => by cases h
  | .s l, .s m, .s k, h, g => by
    have h : ¬ m < l := of_decide_eq_false h
    have g : ¬ k < m := of_decide_eq_false g
    exact decide_eq_false (List.not_lt.mpr (List.le_trans (List.not_lt.mp h) (List.not_lt.mp g)))
theorem bf_swo : SrtO.Swo (fun x y : V => bf (toVl x) (toVl y)) := ⟨fun _ _ h => bf_asym _ _ h, fun _ _ _ h g => bf_tr _ _ _ h g⟩
theorem fb_swo : SrtO.Swo (fun x y : V => bf (toVl y) (toVl x)) := ⟨fun _ _ h => bf_asym _ _ h, fun _ _ _ h g => bf_tr _ _ _ g h⟩
theorem lk_lt (v w : Vl) : ltD v.lk w.lk = bf v w := by
  cases v <;> cases w <;> simp [Vl.lk, ltD, ltDs, PyData.eqv, PyData.eqvAll, bf]
  · omega
  · exact fun h e => by subst e; exact List.lt_irrefl _ h
theorem lk_ok (v w : Vl) : okD v.lk w.lk = true := by
  cases v <;> cases w <;> simp [Vl.lk, okD, okDs, PyData.eqv, PyData.eqvAll]
theorem small1 {n : Nat} (h : n ≤ 1000) : n < sizeLine := Nat.lt_of_le_of_lt h (by decide)

/-! ### rows of values: their order, their keys, sorting them -/
def rlt : List Vl → List Vl → Bool
  | _, [] => false
  | [], _ :: _ => true
  | x :: xs, y :: ys => if x = y then rlt xs ys else bf x y
theorem rlt_nil (a : List Vl) : rlt a [] = false := by
  cases a <;> rfl
theorem rlt_tri : ∀ {a b : List Vl}, rlt a b = false → rlt b a = false → a = b
  | [], [], _, _ => rfl
  | [], _ :: _, h, _ => by cases h
  | _ :: _, [], _, h => by cases h
  | x :: xs, y :: ys, h, g => by
    unfold rlt at h g
    by_cases e : x = y
    · rw [if_pos e] at h
      rw [if_pos e.symm] at g
      rw [e, rlt_tri h g]
    · rw [if_neg e] at h
      rw [if_neg (fun z => e z.symm)] at g
      exact absurd (bf_tri h g) e
theorem rlt_asym : ∀ a b : List Vl, rlt a b = true → rlt b a = false
  | _, [], h => by rw [rlt_nil] at h; cases h
  | [], _ :: _, _ => rlt_nil _
  | x :: xs, y :: ys, h => by
    unfold rlt at h ⊢
    by_cases e : x = y
    · rw [if_pos e] at h
      rw [if_pos e.symm]
      exact rlt_asym xs ys h
    · rw [if_neg e] at h
      rw [if_neg (fun z => e z.symm)]
      exact bf_asym _ _ h
theorem rlt_tr : ∀ a b c : List Vl, rlt b a = false → rlt c b = false → rlt c a = false
  | [], _, _, _, _ => rlt_nil _
  | _ :: _, [], _, h, _ => by cases h
  | _ :: _, _ :: _, [], _, g => by cases g
  | x :: xs, y :: ys, z :: zs, h, g => by
    unfold rlt at h g ⊢
    by_cases e1 : y = x
    · rw [if_pos e1] at h
      by_cases e2 : z = y
      · rw [if_pos e2] at g
        rw [if_pos (e2.trans e1)]
        exact rlt_tr xs ys zs h g
      · rw [if_neg e2] at g
        rw [if_neg (fun e => e2 (e.trans e1.symm)), ← e1]
        exact g
    · rw [if_neg e1] at h
      by_cases e2 : z = y
      · rw [if_neg (fun e => e1 (e2.symm.trans e)), e2]
        exact h
      · rw [if_neg e2] at g
        have hz := bf_tr _ _ _ h g
        by_cases e3 : z = x
        · exfalso
          rw [e3] at g
          exact e1 (bf_tri h g)
        · rw [if_neg e3]
          exact hz
/-- what the keys of values are asked for -/
structure KF (f : Vl → PyData) : Prop where
  eqv : ∀ v u, PyData.eqv (f v) (f u) = decide (v = u)
  lt : ∀ v u, ltD (f v) (f u) = bf v u
  ok : ∀ v u, okD (f v) (f u) = true
  tup : ∀ v, ∃ es, f v = .tuple es
  lay : ∀ v, v.ok → (f v).canLay0 = true
  dep : ∀ v, (f v).depth ≤ 30
  only : ∀ v, tupOnly (f v) = true
theorem kf_d : KF Vl.d := ⟨eqv_d, lt_d, ok_d, fun v => by cases v <;> exact ⟨_, rfl⟩, fun v h => by have := key_shaped v h; unfold SeqAt.shaped at this; rw [Bool.and_eq_true] at this; exact this.1, fun v => by cases v <;> simp [Vl.d, PyData.depth, PyData.depthAll], fun v => by cases v <;> rfl⟩
theorem kf_lk : KF Vl.lk := ⟨eqv_lk, lk_lt, lk_ok, fun v => by cases v <;> exact ⟨_, rfl⟩, fun v h => by have := lk_shaped v h; unfold SeqAt.shaped at this; rw [Bool.and_eq_true] at this; exact this.1, fun v => by cases v <;> simp [Vl.lk, PyData.depth, PyData.depthAll], fun v => by cases v <;> rfl⟩
def rowK (f : Vl → PyData) (r : List Vl) : PyData := .tuple (r.map f)
theorem rk_lts {f : Vl → PyData} (k : KF f) : ∀ a b : List Vl, ltDs (a.map f) (b.map f) = rlt a b
  | [], [] => by unfold ltDs; rfl
  | [], _ :: _ => by unfold ltDs; rfl
  | _ :: _, [] => by unfold ltDs; rfl
  | x :: xs, y :: ys => by
    rw [List.map_cons, List.map_cons]
    unfold ltDs rlt
    rw [k.eqv, rk_lts k xs ys, k.lt]
    by_cases e : x = y
    · rw [if_pos (decide_eq_true e), if_pos e]
    · rw [if_neg (by rw [decide_eq_false e]; exact Bool.false_ne_true), if_neg e]
theorem rk_lt {f : Vl → PyData} (k : KF f) (a b : List Vl) : ltD (rowK f a) (rowK f b) = rlt a b := by
  unfold rowK ltD
  exact rk_lts k a b
theorem rk_oks {f : Vl → PyData} (k : KF f) : ∀ a b : List Vl, okDs (a.map f) (b.map f) = true
  | [], _ => by unfold okDs; split <;> simp_all
  | _ :: _, [] => by unfold okDs; rfl
  | x :: xs, y :: ys => by
    rw [List.map_cons, List.map_cons]
    unfold okDs
    rw [rk_oks k xs ys, k.ok]
    split <;> rfl
theorem rk_ok {f : Vl → PyData} (k : KF f) (a b : List Vl) : okD (rowK f a) (rowK f b) = true := by
  unfold rowK okD
  exact rk_oks k a b
theorem rk_only {f : Vl → PyData} (k : KF f) : ∀ r : List Vl, tupOnlys (r.map f) = true
  | [] => rfl
  | v :: r => by
    rw [List.map_cons]
    unfold tupOnlys
    rw [k.only, rk_only k r]
    rfl
def rok (r : List Vl) : Prop := r ≠ [] ∧ ∀ v ∈ r, v.ok
theorem rk_lays {f : Vl → PyData} (k : KF f) : ∀ {r : List Vl}, (∀ v ∈ r, v.ok) → PyData.canLayAll0 (r.map f) = true ∧ PyData.depthAll (r.map f) ≤ 30
  | [], _ => ⟨rfl, by show 0 ≤ 30; omega⟩
  | v :: r, h => by
    obtain ⟨h1, h2⟩ := rk_lays k (r := r) fun x hx => h x (List.mem_cons_of_mem _ hx)
    have g1 := k.lay v (h v List.mem_cons_self)
    have g2 := k.dep v
    rw [List.map_cons]
    exact ⟨by unfold PyData.canLayAll0; rw [g1, h1]; rfl, by unfold PyData.depthAll; omega⟩
theorem rk_key {f : Vl → PyData} (k : KF f) {r : List Vl} (h : rok r) : KeyD false (rowK f r) := by
  obtain ⟨h1, h2⟩ := rk_lays k h.2
  refine ⟨?_, by unfold rowK PyData.canLay0; exact h1, by unfold rowK PyData.depth; omega⟩
  obtain ⟨h0, _⟩ := h
  cases r with
  | nil => exact absurd rfl h0
  | cons v r =>
    refine ⟨f v, r.map f, rfl, ?_⟩
    rw [if_neg Bool.false_ne_true]
    exact k.tup v
/-- the row as data -/
def rowP (r : List Vl) : PyData := .tuple (r.map Vl.p)
theorem vp_only : ∀ v : Vl, tupOnly v.p = true
  | .n => rfl
  | .i _ => rfl
  | .s _ => rfl
theorem rowPs_only : ∀ r : List Vl, tupOnlys (r.map Vl.p) = true
  | [] => rfl
  | v :: r => by
    rw [List.map_cons]
    unfold tupOnlys
    rw [vp_only v, rowPs_only r]
    rfl
theorem rowP_only (r : List Vl) : tupOnly (rowP r) = true := rowPs_only r
theorem eqv_rows : ∀ a b : List Vl, PyData.eqvAll (a.map Vl.p) (b.map Vl.p) = decide (a = b)
  | [], [] => rfl
  | [], _ :: _ => rfl
  | _ :: _, [] => rfl
  | x :: xs, y :: ys => by
    rw [List.map_cons, List.map_cons]
    unfold PyData.eqvAll
    rw [eqv_rows xs ys]
    have e : PyData.eqv x.p y.p = decide (x = y) := by
      cases x <;> cases y <;> simp [Vl.p, PyData.eqv, S_dec]
      rw [Bool.eq_iff_iff]
      simp
    rw [e, Bool.eq_iff_iff]
    simp
theorem rowP_eqv (a b : List Vl) : PyData.eqv (rowP a) (rowP b) = decide (a = b) := by
  unfold rowP PyData.eqv
  exact eqv_rows a b
theorem dp_rowP {K : PySem.W.Frag} {H : Hp} {a : Addr} {r : List Vl} (h : SqT K H a (r.map Vl.v)) : Dp K H (.ref a) (rowP r) := by
  refine .tup h ?_
  clear h
  induction r with
  | nil => exact .nil
  | cons v r ih => exact .cons v.dp ih
theorem rowP_lay {r : List Vl} (h : ∀ v ∈ r, v.ok) : (rowP r).canLay0 = true ∧ (rowP r).depth ≤ 40 := by
  have h2 : ∀ d ∈ r.map Vl.p, d.canLay0 = true ∧ d.depth ≤ 10 := fun d hd => by
    obtain ⟨v, hv, rfl⟩ := List.mem_map.mp hd
    have := h v hv
    cases v with
    | n => exact ⟨rfl, by show 0 ≤ 10; omega⟩
    | i k => exact ⟨rfl, by show 0 ≤ 10; omega⟩
    | s l => exact ⟨strOk_ab this, by show 0 ≤ 10; omega⟩
  unfold rowP PyData.canLay0 PyData.depth
  clear h
  induction r with
  | nil => exact ⟨rfl, by show 0 + 1 ≤ 40; omega⟩
  | cons v r ih =>
    obtain ⟨i1, i2⟩ := ih fun d hd => h2 d (List.mem_cons_of_mem _ hd)
    obtain ⟨g1, g2⟩ := h2 v.p List.mem_cons_self
    rw [List.map_cons]
    exact ⟨by unfold PyData.canLayAll0; rw [g1, i1]; rfl, by unfold PyData.depthAll; omega⟩
theorem rowP_shaped {r : List Vl} (h : ∀ v ∈ r, v.ok) : SeqAt.shaped (rowP r) = true := by
  obtain ⟨h1, h2⟩ := rowP_lay h
  unfold SeqAt.shaped
  rw [Bool.and_eq_true]
  exact ⟨h1, decide_eq_true (by omega)⟩
theorem vs_inj : ∀ {a b : List Vl}, a.map Vl.v = b.map Vl.v → a = b
  | [], [], _ => rfl
  | [], _ :: _, h => by cases h
  | _ :: _, [], h => by cases h
  | x :: a, y :: b, h => by
    rw [List.map_cons, List.map_cons] at h
    injection h with h1 h2
    have := congrArg toVl h1
    rw [toVl_v, toVl_v] at this
    rw [this, vs_inj h2]
theorem toVl_map (r : List Vl) : (r.map Vl.v).map toVl = r := by
  rw [List.map_map]
  conv => rhs; rw [← List.map_id r]
  exact List.map_congr_left fun v _ => toVl_v v
/-- strictly ascending, with the same members: the same -/
theorem asc_eq : ∀ {a b : List (List Vl)}, a.Pairwise (fun x y => rlt x y = true) → b.Pairwise (fun x y => rlt x y = true) → (∀ x, x ∈ a ↔ x ∈ b) → a = b
  | [], [], _, _, _ => rfl
  | [], y :: _, _, _, h => by have := (h y).mpr List.mem_cons_self; cases this
  | x :: _, [], _, _, h => by have := (h x).mp List.mem_cons_self; cases this
  | x :: a, y :: b, ha, hb, h => by
    rw [List.pairwise_cons] at ha hb
    have irr : ∀ z : List Vl, rlt z z = false := fun z => by
      cases e : rlt z z with
      | false => rfl
      | true => exact absurd (rlt_asym _ _ e) (by rw [e]; simp)
    have exy : x = y := by
      rcases List.mem_cons.mp ((h x).mp List.mem_cons_self) with e | e
      · exact e
      · rcases List.mem_cons.mp ((h y).mpr List.mem_cons_self) with e2 | e2
        · exact e2.symm
        · have h1 := hb.1 x e
          have h2 := ha.1 y e2
          rw [rlt_asym _ _ h1] at h2
          cases h2
    subst exy
    rw [asc_eq ha.2 hb.2 fun z => ?_]
    constructor
    · intro hz
      rcases List.mem_cons.mp ((h z).mp (List.mem_cons_of_mem _ hz)) with e | e
      · subst e
        have := ha.1 z hz
        rw [irr] at this
        cases this
      · exact e
    · intro hz
      rcases List.mem_cons.mp ((h z).mpr (List.mem_cons_of_mem _ hz)) with e | e
      · subst e
        have := hb.1 z hz
        rw [irr] at this
        cases this
      · exact e
/-- sorted, each once: strictly ascending -/
theorem asc_of {l : List (List Vl)} (h : l.Pairwise (fun x y => rlt y x = false)) (n : l.Nodup) : l.Pairwise (fun x y => rlt x y = true) := by
  refine (h.and n).imp fun {x y} hxy => ?_
  cases e : rlt x y with
  | true => rfl
  | false => exact absurd (rlt_tri e hxy.1) hxy.2
/-- a list that is sorted by the keys of its items' rows -/
theorem srt_rows {P : Program} {w : World} {K : PySem.W.Frag} {mg : Str → Option Value} {base : Heap} {k : Nat} {H : Hp} {Q : VK} {α : Type} (pa : α → Addr) (pr : α → List Vl) {f : Vl → PyData} (kf : KF f) (rw' : V → List Vl) {a fk : Addr} {sp : Sp} {zs : List α}
    (hs : SqL K H a (zs.map fun x => V.ref (pa x))) (hd : Hd P w K mg base k fk sp) (hrw : ∀ x ∈ zs, rw' (.ref (pa x)) = pr x) (hok : ∀ x ∈ zs, rok (pr x))
    (prom : ∀ x ∈ zs, ∀ (H1 : Hp) (R : VK), Same H H1 → (∀ u H2, Same H1 H2 → Dp K H2 u (rowK f (pr x)) → R u H2) → sp [.ref (pa x)] H1 R E0)
    (q : ∀ (zs' : List α) (H' : Hp) (p : Addr), Same H H' → H p = none → zs'.Perm zs → (zs'.map pr).Pairwise (fun x y => rlt y x = false) → H' p = some (.lst (zs'.map fun x => V.ref (pa x))) → Q (.ref p) H') : rSortF P w K mg base k [.ref a] [.ref fk] H Q := by
  have at_ : ∀ y ∈ zs.map fun x => V.ref (pa x), ∃ x ∈ zs, y = .ref (pa x) ∧ rw' y = pr x := fun y hy => by
    obtain ⟨x, hx, rfl⟩ := List.mem_map.mp hy
    exact ⟨x, hx, rfl, hrw x hx⟩
  refine ⟨a, fk, sp, _, fun y => rowK f (rw' y), false, rfl, rfl, hs, hd, fun y hy H1 R s1 hR => ?_, fun y hy => ?_, fun y _ z _ => rk_ok kf _ _, ⟨fun x y h => ?_, fun x y z h g => ?_⟩, fun l H' p s' np hsr hst e => ?_⟩
  · obtain ⟨x, hx, rfl, er⟩ := at_ y hy
    refine prom x hx H1 R s1 fun u H2 s2 dp => hR u H2 s2 fun H3 k3 => ?_
    show Dp K H3 u (rowK f (rw' (V.ref (pa x))))
    rw [er]
    exact Dp.tsn k3.2 _ _ (by unfold rowK; exact rk_only kf _) dp
  · obtain ⟨x, hx, rfl, er⟩ := at_ y hy
    show KeyD false (rowK f (rw' (V.ref (pa x))))
    rw [er]
    exact rk_key kf (hok x hx)
  · show ltD (rowK f (rw' y)) (rowK f (rw' x)) = false
    have h : ltD (rowK f (rw' x)) (rowK f (rw' y)) = true := h
    rw [rk_lt kf] at h ⊢
    exact rlt_asym _ _ h
  · show ltD (rowK f (rw' z)) (rowK f (rw' x)) = false
    have h : ltD (rowK f (rw' y)) (rowK f (rw' x)) = false := h
    have g : ltD (rowK f (rw' z)) (rowK f (rw' y)) = false := g
    rw [rk_lt kf] at h g ⊢
    exact rlt_tr _ _ _ h g
  · obtain ⟨zs', pz, ez⟩ := perm_lift (fun x : α => V.ref (pa x)) hst.perm zs rfl
    subst ez
    refine q zs' H' p s' np pz ?_ e
    have hsr : (zs'.map fun x => V.ref (pa x)).Pairwise (fun y z => ltD (rowK f (rw' z)) (rowK f (rw' y)) = false) := hsr
    rw [List.pairwise_map] at hsr ⊢
    refine List.Pairwise.imp_of_mem (fun {x y} hx hy h => ?_) hsr
    rw [rk_lt kf, hrw x (pz.mem_iff.mp hx), hrw y (pz.mem_iff.mp hy)] at h
    exact h

theorem SqL.same {K : PySem.W.Frag} {H H' : Hp} {a : Addr} {xs : List V} (e : Same H H') (h : SqL K H a xs) : SqL K H' a xs := by
  rcases h with (h | ⟨o, h⟩) | h
  · exact .inl (.inl (e _ _ h))
  · exact .inl (.inr ⟨o, e _ _ h⟩)
  · exact .inr h

/-! ### dicts whose keys are rows: numbers, texts and None in one tuple -/
abbrev RE := List Vl × Addr × V
def Vl.lf : Vl → Leaf
  | .n => .none
  | .i k => .num k
  | .s l => .text ⟨l.toArray⟩
def lfs (r : List Vl) : List Leaf := r.map Vl.lf
theorem lf_inj : ∀ {v u : Vl}, v.lf = u.lf → v = u
  | .n, .n, _ => rfl
  | .i _, .i _, h => by cases h; rfl
  | .s l, .s m, h => by
    have e : (⟨l.toArray⟩ : Str) = ⟨m.toArray⟩ := Leaf.text.inj h
    rw [mk_inj e]
  | .n, .i _, h => by cases h
  | .n, .s _, h => by cases h
  | .i _, .n, h => by cases h
  | .i _, .s _, h => by cases h
  | .s _, .n, h => by cases h
  | .s _, .i _, h => by cases h
theorem lfs_inj : ∀ {r q : List Vl}, lfs r = lfs q → r = q
  | [], [], _ => rfl
  | [], _ :: _, h => by cases h
  | _ :: _, [], h => by cases h
  | x :: r, y :: q, h => by
    have h : x.lf :: lfs r = y.lf :: lfs q := h
    injection h with h1 h2
    rw [lf_inj h1, lfs_inj h2]
def valR (ks : List RE) (r : List Vl) : Option V := (ks.find? fun x => decide (x.1 = r)).map (·.2.2)
def putR (ks : List RE) (r : List Vl) (b : Addr) (v : V) : List RE := if (valR ks r).isSome = true then ks.map (fun x => if x.1 = r then (x.1, x.2.1, v) else x) else ks ++ [(r, b, v)]
theorem putR_len (ks : List RE) (r : List Vl) (b : Addr) (v : V) : (putR ks r b v).length ≤ ks.length + 1 := by
  unfold putR
  split
  · rw [List.length_map]
    omega
  · rw [List.length_append]
    exact Nat.le_refl _
theorem valR_none {ks : List RE} {r : List Vl} (h : valR ks r = none) : ∀ x ∈ ks, x.1 ≠ r := by
  unfold valR at h
  rw [Option.map_eq_none_iff, List.find?_eq_none] at h
  exact fun x hx e => h x hx (decide_eq_true e)
theorem valR_some {ks : List RE} {r : List Vl} {v : V} (h : valR ks r = some v) : ∃ a, (r, a, v) ∈ ks := by
  unfold valR at h
  obtain ⟨x, hx, rfl⟩ := Option.map_eq_some_iff.mp h
  have h1 := List.mem_of_find?_eq_some hx
  have h2 := List.find?_some (p := fun x : RE => decide (x.1 = r)) hx
  have h2 : x.1 = r := of_decide_eq_true h2
  exact ⟨x.2.1, by rw [← h2]; exact h1⟩
abbrev RK (P : Program) (w : World) : HeapKind P w (List Leaf) := tupleKind (leafKind P w)
def RX (ks : List RE) (xs : List (List Leaf × Addr × Value)) : Prop := Paired (fun p q => q.1 = lfs p.1 ∧ q.2.1 = p.2.1 ∧ RelV p.2.2 q.2.2) ks xs
theorem RX.val {ks : List RE} {xs : List (List Leaf × Addr × Value)} (h : RX ks xs) (r : List Vl) : RelO (valR ks r) ((atKey xs (lfs r)).map (·.2)) := by
  induction h with
  | nil => trivial
  | @cons p q ps qs hq t ih =>
    obtain ⟨e1, e2, e3⟩ := hq
    by_cases e : p.1 = r
    · have e' : q.1 = lfs r := by rw [e1, e]
      have h1 : valR (p :: ps) r = some p.2.2 := by
        unfold valR
        rw [List.find?_cons_of_pos (by exact decide_eq_true e)]
        rfl
      have h2 : atKey (q :: qs) (lfs r) = some q.2 := by
        unfold atKey
        rw [List.find?_cons_of_pos (by exact decide_eq_true e')]
        rfl
      rw [h1, h2]
      exact e3
    · have e' : ¬ q.1 = lfs r := fun z => e (lfs_inj (e1.symm.trans z))
      have h1 : valR (p :: ps) r = valR ps r := by
        unfold valR
        rw [List.find?_cons_of_neg (by simp [e])]
      have h2 : atKey (q :: qs) (lfs r) = atKey qs (lfs r) := by
        unfold atKey
        rw [List.find?_cons_of_neg (by simp [e'])]
      rw [h1, h2]
      exact ih
theorem RX.map {ks : List RE} {xs : List (List Leaf × Addr × Value)} (h : RX ks xs) (r : List Vl) {v : V} {u : Value} (rv : RelV v u) : RX (ks.map fun x => if x.1 = r then (x.1, x.2.1, v) else x) (xs.map (putAt (lfs r) u)) := by
  induction h with
  | nil => exact .nil
  | @cons p q ps qs hq t ih =>
    obtain ⟨e1, e2, e3⟩ := hq
    refine .cons ?_ ih
    unfold putAt
    dsimp only
    by_cases e : p.1 = r
    · rw [if_pos e, if_pos (by rw [e1, e])]
      exact ⟨e1, e2, rv⟩
    · rw [if_neg e, if_neg (fun z => e (lfs_inj (e1.symm.trans z)))]
      exact ⟨e1, e2, e3⟩
theorem Paired.snoc' {α β : Type} {F : α → β → Prop} {a : α} {b : β} (hab : F a b) : ∀ {l : List α} {m : List β}, Paired F l m → Paired F (l ++ [a]) (m ++ [b])
  | _, _, .nil => .cons hab .nil
  | _, _, .cons h t => .cons h (Paired.snoc' hab t)
theorem RX.put {ks : List RE} {xs : List (List Leaf × Addr × Value)} (h : RX ks xs) (r : List Vl) {b : Addr} {v : V} {u : Value} (rv : RelV v u) : RX (putR ks r b v) (storedH xs (lfs r) b u) := by
  have q := (h.val r).isSome_eq
  rw [Option.isSome_map] at q
  unfold putR storedH
  rw [q]
  split
  · exact h.map r rv
  · exact Paired.snoc' ⟨rfl, rfl, rv⟩ h
/-- the dict at d, its keys in their order, each with where its row stands -/
def rdO (P : Program) (w : World) (d : Addr) (ks : List RE) : HO := .ext fun h => ks.length ≤ sizeLine ∧ (d == sysModules) = false ∧ ∃ xs, RX ks xs ∧ ∃ o es ep, h.get? d = some o ∧ o.ExactDict ∧ o.data = .dict es ep ∧ es.toList = xs.map (entryOfKey (RK P w)) ∧ (xs.map (·.1)).Nodup
def RowsAt (H : Hp) (ks : List RE) : Prop := ∀ x ∈ ks, H x.2.1 = some (.tup (x.1.map Vl.v))
theorem RowsAt.same {H H' : Hp} {ks : List RE} (e : ∀ b ys, H b = some (.tup ys) → H' b = some (.tup ys)) (h : RowsAt H ks) : RowsAt H' ks := fun x hx => e _ _ (h x hx)
theorem RowsAt.put {H : Hp} {ks : List RE} {r : List Vl} {b : Addr} {v : V} (h : RowsAt H ks) (hb : H b = some (.tup (r.map Vl.v))) : RowsAt H (putR ks r b v) := fun x hx => by
  unfold putR at hx
  split at hx
  · obtain ⟨y, hy, rfl⟩ := List.mem_map.mp hx
    have := h y hy
    split <;> exact this
  · rcases List.mem_append.mp hx with hx | hx
    · exact h x hx
    · rw [List.mem_singleton.mp hx]
      exact hb
theorem rdO_ok {P : Program} {w : World} {H : Hp} {h : Heap} {d : Addr} {ks : List RE} {xs : List (List Leaf × Addr × Value)} (z : ks.length ≤ sizeLine) (hd : (d == sysModules) = false) (r : RX ks xs) (m : h.DictOfH (RK P w) d xs) : ObjOk P w H h d (rdO P w d ks) := by
  obtain ⟨o, es, ep, h1, h2, h3, h4, _, h5⟩ := m
  exact ⟨⟨z, hd, xs, r, o, es, ep, h1, h2, h3, h4, h5⟩, ⟨o, h1⟩, fun ha hb ⟨g1, g2, xs', g3, o', es', ep', g4, g5⟩ k => ⟨g1, g2, xs', g3, o', es', ep', k _ g4, g5⟩⟩
theorem leaf_is {P : Program} {w : World} : ∀ {v : Vl} {u : Value}, RelV v.v u → (leafKind P w).is v.lf u = true
  | .n, _, h => by
    cases h
    exact leaf_none
  | .i k, _, h => by
    obtain ⟨t, rfl⟩ := h
    exact leaf_int k t
  | .s l, _, h => by
    obtain ⟨t, rfl⟩ := h
    exact leaf_str _ t
theorem leaves_are {P : Program} {w : World} : ∀ {r : List Vl} {us : List Value}, Vals (r.map Vl.v) us → ItemsAre (leafKind P w) (lfs r) us
  | [], _, h => by
    cases h
    exact .nil
  | v :: r, _, h => by
    cases h with
    | cons h1 h2 => exact .cons (leaf_is h1) (leaves_are h2)
theorem row_is {P : Program} {w : World} {H : Hp} {h : Heap} {b : Addr} {r : List Vl} (ok : HOk P w H h) (e : H b = some (.tup (r.map Vl.v))) : (RK P w).is h (lfs r) b := by
  obtain ⟨_, its, rv, o, h1, h2, n, h3⟩ := (show ObjOk P w H h b (.tup (r.map Vl.v)) from ok b _ e)
  exact ⟨o, its.toArray, n, h1, h2, h3, by simpa using leaves_are rv⟩
theorem rd_at {P : Program} {w : World} {H : Hp} {h : Heap} {d : Addr} {ks : List RE} (ok : HOk P w H h) (e : H d = some (rdO P w d ks)) (hr : RowsAt H ks) : ks.length ≤ sizeLine ∧ (d == sysModules) = false ∧ ∃ xs, RX ks xs ∧ h.DictOfH (RK P w) d xs := by
  obtain ⟨⟨z, hd, xs, rx, o, es, ep, h1, h2, h3, h4, h5⟩, _⟩ := (show ObjOk P w H h d (rdO P w d ks) from ok d _ e)
  refine ⟨z, hd, xs, rx, o, es, ep, h1, h2, h3, h4, ?_, h5⟩
  have all : ∀ {l : List RE} {m : List (List Leaf × Addr × Value)}, RX l m → (∀ x ∈ l, H x.2.1 = some (.tup (x.1.map Vl.v))) → ∀ x ∈ m, (RK P w).is h x.1 x.2.1 := by
    intro l m q
    induction q with
    | nil => exact fun _ x hx => nomatch hx
    | @cons p q ps qs hq t ih =>
      intro hl x hx
      rcases List.mem_cons.mp hx with e | hx
      · subst e
        rw [hq.1, hq.2.1]
        exact row_is ok (hl p List.mem_cons_self)
      · exact ih (fun y hy => hl y (List.mem_cons_of_mem _ hy)) x hx
  exact all rx hr
theorem rd_raw {P : Program} {w : World} {H : Hp} {s : Shared} {d : Addr} {ks : List RE} (ok : HOk P w H s.heap) (e : H d = some (rdO P w d ks)) : s.TypeIs (.ref d) "dict" ∧ (∀ b, Value.ref d = .ref b → ∃ ob, s.heap.get? b = some ob ∧ ob.dict = none) ∧ (d == sysModules) = false := by
  obtain ⟨⟨z, hd, xs, rx, o, es, ep, h1, h2, h3, h4, h5⟩, _⟩ := (show ObjOk P w H s.heap d (rdO P w d ks) from ok d _ e)
  exact ⟨⟨o, h1, h2.1⟩, fun b q => by cases q; exact ⟨o, h1, h2.2.1⟩, hd⟩
/-! the rules -/
def tRNew (P : Program) (w : World) : TE := fun _ H Q => ∀ p, H p = none → Q (.ref p) (upd H p (rdO P w p []))
def tRGet2 (P : Program) (w : World) (td ty tx : TE) : TE := fun σ H Q => td σ H fun x H1 => ∃ d ks0, x = .ref d ∧ H1 d = some (rdO P w d ks0) ∧ ty σ H1 fun y H2 => tx σ H2 fun z H3 => ∃ ks r b, y = .ref b ∧ H3 d = some (rdO P w d ks) ∧ RowsAt H3 ks ∧ H3 b = some (.tup (r.map Vl.v)) ∧ Q ((valR ks r).getD z) H3
def tRNotIn (P : Program) (w : World) (ty td : TE) : TE := fun σ H Q => ty σ H fun y H1 => td σ H1 fun x H2 => ∃ d ks r b, x = .ref d ∧ y = .ref b ∧ H2 d = some (rdO P w d ks) ∧ RowsAt H2 ks ∧ H2 b = some (.tup (r.map Vl.v)) ∧ Q (.bl (!(valR ks r).isSome)) H2
def sRPut (P : Program) (w : World) (td ty tv : TE) : TS := fun D σ H => tv σ H fun v H1 => td σ H1 fun x H2 => ty σ H2 fun y H3 => ∃ d ks r b, x = .ref d ∧ y = .ref b ∧ H3 d = some (rdO P w d ks) ∧ RowsAt H3 ks ∧ H3 b = some (.tup (r.map Vl.v)) ∧ ks.length < sizeLine ∧ D.nx σ (upd H3 d (rdO P w d (putR ks r b v)))
def tRItems (P : Program) (w : World) (td : TE) : TE := fun σ H Q => td σ H fun x H1 => ∃ d ks, x = .ref d ∧ H1 d = some (rdO P w d ks) ∧ ∀ p, H1 p = none → Q (.ref p) (upd H1 p (DX.itemsO p d))
section
variable {X : Cx} (P : Program) (w : World)
theorem pe_rnew {pos : Pos} (e1 : X.prog = P := by rfl) (e2 : X.w = w := by rfl) : PE X (.Dict [] [] pos) (tRNew P w) := by
  subst e1 e2
  exact ⟨fun pins s σ H Q I h =>
    wpAny_Dict_empty ⟨.ref s.heap.objs.size, _, I.laid (a := s.heap.objs.size) (o := rdO X.prog X.w s.heap.objs.size []) (t' := s.toks) (fun _ _ q => Heap.get?_push_of_some _ q) (Nat.le_refl _) (rdO_ok (Nat.zero_le _) (beq_eq_false_iff_ne.mpr (Ne.symm (Nat.ne_of_lt I.big))) .nil (Heap.DictOfH.new _)), rfl, h _ (I.hok.fresh (Nat.le_refl _))⟩⟩
theorem pe_rget2 {o e f : Expr} {apos cpos : Pos} {td ty tx : TE} (hu : X.A.units + 1 < cLine) (ho : PE X o td) (he : PE X e ty) (hf : PE X f tx) (m : M2 X o "get" apos e f cpos) (e1 : X.prog = P := by rfl) (e2 : X.w = w := by rfl) : PE X (.Call (.Attribute o "get" apos) [e, f] [] cpos) (tRGet2 P w td ty tx) := by
  subst e1 e2
  refine ⟨fun pins s σ H Q I h => ?_⟩
  refine wpAny_Call_method m.base m.few m.line PySem.F.plainAttrs_dict PySem.F.slot_dict_get PySem.F.type_dict_get (thn (ho.run pins s σ H _ I h) fun u s1 ⟨x, H1, I1, rx, d, ks0, ex, hd0, q1⟩ => ?_)
  subst ex
  obtain rfl : u = Value.ref d := rx
  obtain ⟨t1, t2, _⟩ := rd_raw I1.hok hd0
  refine ⟨t1, t2, ?_⟩
  rw [m.trees]
  refine Calls.callWith_builtin rfl (Calls.evalArgs_plain (Calls.spliced_cons (thn (he.run pins s1 σ H1 _ I1 q1) fun iv s2 ⟨y, H2, I2, ry, q2⟩ =>
    Calls.spliced_cons (thn (hf.run pins s2 σ H2 _ I2 q2) fun fv s3 ⟨z, H3, I3, rz, ks, r, b, ey, hd, hr, hb, q3⟩ => Calls.spliced_nil ?_))))
  subst ey
  obtain rfl : iv = Value.ref b := ry
  obtain ⟨_, hs, xs, rel, dd⟩ := rd_at I3.hok hd hr
  refine call_meetsIn PySem.F.slot_dict_get dd.typeIs PySem.F.entry_dict_get (PySem.F.args_dict_get_3 _ _ _) (meetsH_dict_get_default (RK X.prog X.w) d b hs fv) ⟨tupleKind_room_in1 hu, lfs r, xs, row_is I3.hok hb, dd, ⟨_, H3, I3.tok _, ?_, q3⟩⟩
  exact (rel.val r).getD rz
theorem pc_rnotin {i o : Expr} {td ty : TE} (hu : X.A.units + 1 < cLine) (hi : PE X i ty) (ho : PE X o td) (e1 : X.prog = P := by rfl) (e2 : X.w = w := by rfl) : PC X .NotIn i o (tRNotIn P w ty td) := by
  subst e1 e2
  refine ⟨fun pins s σ H Q I h => ?_⟩
  refine thn (hi.run pins s σ H _ I h) fun iv s1 ⟨y, H1, I1, ry, q1⟩ => thn (ho.run pins s1 σ H1 _ I1 q1) fun u s2 ⟨x, H2, I2, rx, d, ks, r, b, ex, ey, hd, hr, hb, q2⟩ => ?_
  subst ex ey
  obtain rfl : u = Value.ref d := rx
  obtain rfl : iv = Value.ref b := ry
  obtain ⟨_, hs, xs, rel, dd⟩ := rd_at I2.hok hd hr
  refine wpAny_notIn_heap (tupleKind_room_in1 hu) (row_is I2.hok hb) hs dd ?_
  have q := (rel.val r).isSome_eq
  rw [Option.isSome_map] at q
  rw [← q]
  exact ⟨.bl (!(valR ks r).isSome), H2, I2.tok _, rfl, q2⟩
theorem ps_rput {o i value : Expr} {pos pos' : Pos} {td ty tv : TE} (hu : X.A.units + 1 < cLine) (ho : PE X o td) (hi : PE X i ty) (hv : PE X value tv) (hs : swapsWith value (some (.Subscript o i pos')) pos.line X.env = pure false) (e1 : X.prog = P := by rfl) (e2 : X.w = w := by rfl) :
    PS X (.Assign [.Subscript o i pos'] value pos) (sRPut P w td ty tv) := by
  subst e1 e2
  refine ⟨fun pins s σ H D I h => ?_⟩
  refine wpAny_Assign_Subscript (thn (hv.run pins s σ H _ I h) fun r0 s1 ⟨v, H1, I1, rv, q1⟩ => thn (ho.run pins s1 σ H1 _ I1 q1) fun u s2 ⟨x, H2, I2, rx, q2⟩ => thn (hi.run pins s2 σ H2 _ I2 q2) fun iv s3 ⟨y, H3, I3, ry, d, ks, r, b, ex, ey, hd, hr, hb, hl, q3⟩ => ?_) hs
  subst ex ey
  obtain rfl : u = Value.ref d := rx
  obtain rfl : iv = Value.ref b := ry
  obtain ⟨z, hs, xs, rel, dd⟩ := rd_at I3.hok hd hr
  have hz : xs.length ≤ sizeLine := by rw [← Paired.length rel]; exact z
  refine wpAny_setItem_heap (hsz := hz) (tupleKind_room_in1 hu) (row_is I3.hok hb) dd fun h' dd' hs' => ⟨σ, _, ?_, q3⟩
  have hlen : (putR ks r b v).length ≤ sizeLine := by have := putR_len ks r b v; omega
  have he : ∃ q, h'.get? d = some q := let ⟨q, _, _, hq, _⟩ := dd'; ⟨q, hq⟩
  exact d_write I3 (by rw [hd]; exact True.intro) hs' he (rdO_ok hlen hs (rel.put r rv) dd')
theorem pe_ritems {o : Expr} {apos cpos : Pos} {td : TE} (ho : PE X o td) (hbase : attributeBase o "items" X.env (eval o X.env) = eval o X.env := by rfl) (hline : (apos.endLine == cpos.line) = true := by rfl) (e1 : X.prog = P := by rfl) (e2 : X.w = w := by rfl) : PE X (.Call (.Attribute o "items" apos) [] [] cpos) (tRItems P w td) := by
  subst e1 e2
  refine ⟨fun pins s σ H Q I h => ?_⟩
  refine wpAny_Call_method (T := "dict") (id := "dict.items") hbase rfl hline F.plainAttrs_dict F.slot_dict_items F.type_dict_items (thn (ho.run pins s σ H _ I h) fun u s1 ⟨x, H1, I1, rx, d, ks, ex, hd, q1⟩ => ?_)
  subst ex
  obtain rfl : u = Value.ref d := rx
  obtain ⟨t1, t2, hs⟩ := rd_raw I1.hok hd
  refine ⟨t1, t2, ?_⟩
  obtain ⟨⟨z, _, xs, rx, o, es, ep, h1, h2, h3, h4, h5⟩, _⟩ := (show ObjOk X.prog X.w H1 s1.heap d (rdO X.prog X.w d ks) from I1.hok d _ hd)
  have hn : H1 s1.heap.objs.size = none := I1.hok.fresh (Nat.le_refl _)
  refine Calls.callWith_builtin rfl (PySem.evalArgs_none (DT.callItems (es := es) (ep := ep) hs ⟨o, h1, h2, h3⟩ ?_))
  exact ⟨.ref s1.heap.objs.size, upd H1 s1.heap.objs.size (DX.itemsO s1.heap.objs.size d), I1.laid (t' := s1.toks) (fun b u e => Heap.get?_push_of_some _ e) (Nat.le_refl _) (DX.itemsO_ok (Heap.get?_push_size _ rfl)), rfl, q1 _ hn⟩
end
/-! ### list(d.items()) -/
section
open PySem.W PyProof.Rows
variable {prog : Program} {w : World} {A : Around} {E : Value → Shared → Prop} {s : Shared} {r d : Addr} {es : Array DictEntry} {ep : Nat}
theorem listI_init {R : Result → Shared → Prop} (hh : A.handled = none) (hv : s.heap.IsItemsView r d) (hm : DT.Raw s.heap d es ep) (S : Addr) (hSr : S ≠ r) (hSd : d ≠ S) (hS : s.heap.get? S = some { cls := .type "list", data := .seq #[] })
    (hR : ∀ h' tk acc c as, (∀ b o, b ≠ S → s.heap.get? b = some o → h'.get? b = some o) → h'.get? S = some { cls := .type "list", dict := none, data := .seq acc c, slots := #[] } → as.length = es.size → DT.Made es s.heap.objs.size h' as →
      acc.toList = as.map Value.ref → R (.ok (.ret .none)) { s with heap := h', toks := tk }) (hn : es.size ≤ sizeLine) :
    wpAny (model prog w) A.in1 (Builtin.«list.__init__» ⟨[.ref S, .ref r], []⟩)
      (fun fin s' => match fin with | .done f => R (.ok f) s' | .again c' => c'.quiet = true ∧ codeAny (model prog w) A c' R s') (fun e s' => R (.error e) s') s := by
  show wpAny _ _ (do let old ← Builtin.List.listItems (.ref S); Builtin.List.listUpdate (.ref S) (fun _ => #[]); letGo old.toList.reverse; Builtin.List.listExtendWith (.ref S) (.ref r) .none) _ _ s
  refine wpAny_bind ?_
  unfold Builtin.List.listItems
  refine wpAny_bind (wpAny_seqItems hS rfl (wpAny_pure ?_))
  show wpAny _ _ (updateSeq S (fun _ => #[]) >>= fun _ => letGo (#[] : Array Value).toList.reverse >>= fun _ => Builtin.List.listExtendWith (.ref S) (.ref r) .none) _ _ s
  refine wpAny_bind (wpAny_updateSeq hS rfl ?_)
  have hS₂ := Heap.get?_update_self (Obj.mapSeq (fun _ => (#[] : Array Value))) hS rfl
  have oth : ∀ b o, b ≠ S → s.heap.get? b = some o → (s.heap.update S (Obj.mapSeq (fun _ => (#[] : Array Value)))).get? b = some o :=
    fun b o hb e => (Heap.get?_update_other _ _ (Ne.symm hb)).trans e
  refine wpAny_bind (wpAny_letGo ?_)
  refine DT.extI (es := es) (ep := ep) hh (let ⟨o, ho, x⟩ := hv; ⟨o, oth r o hSr.symm ho, x⟩) (hm.at' fun o e => oth d o hSd e) S hSr hSd .none _ hS₂ (fun h' tk acc c as hk hS' hl hG hacc => ?_) hn
  exact hR h' tk acc c as (fun b o hb e => hk b o hb (oth b o hb e)) hS' hl (hG.low (Nat.le_of_eq (by simp [Heap.size_update]))) hacc
theorem listI_call {Q : Value → Shared → Prop} (hh : A.handled = none) (hv : s.heap.IsItemsView r d) (hm : DT.Raw s.heap d es ep) (hn : es.size ≤ sizeLine)
    (hQ : ∀ h' tk acc c as, (∀ b o, s.heap.get? b = some o → h'.get? b = some o) → h'.get? s.heap.objs.size = some { cls := .type "list", dict := none, data := .seq acc c, slots := #[] } → as.length = es.size → DT.Made es s.heap.objs.size h' as →
      acc.toList = as.map Value.ref → Q (.ref s.heap.objs.size) { s with heap := h', toks := tk }) :
    wpAny (model prog w) A (call (.type "list") [.ref r]) Q E s := by
  refine callType_codes (Q₁ := fun obj s₁ => obj = .ref s.heap.objs.size ∧ s₁ = { s with heap := s.heap.push { cls := .type "list", data := .seq #[] } }) PySem.F.called_list (PySem.F.typeCall_list_1 _) PySem.F.entry_list_init
    (code_list_new _ ⟨rfl, rfl⟩) fun obj s₁ h₁ => ?_
  obtain ⟨rfl, rfl⟩ := h₁
  have hS : (s.heap.push { cls := .type "list", data := .seq #[] }).get? s.heap.objs.size = some { cls := .type "list", data := .seq #[] } := Heap.get?_push_size _ rfl
  have hr : r < s.heap.objs.size := let ⟨_, ho, _⟩ := hv; Heap.lt_size ho
  have hd : d < s.heap.objs.size := hm.lt
  refine ⟨⟨_, hS, rfl⟩, PySem.F.args_list_init_2 _ _, listI_init (es := es) (ep := ep) (A := A.in1) hh (let ⟨o, ho, x⟩ := hv; ⟨o, Heap.get?_push_of_some _ ho, x⟩) (hm.push _) _ (Nat.ne_of_gt hr) (Nat.ne_of_lt hd) hS (fun h' tk acc c as hk hS' hl hG hacc => ?_) hn⟩
  exact ⟨rfl, hQ h' tk acc c as (fun b o e => hk b o (Nat.ne_of_lt (Heap.lt_size e)) (Heap.get?_push_of_some _ e)) hS' hl (hG.low (by show s.heap.objs.size ≤ (s.heap.push _).objs.size; rw [Heap.size_push]; exact Nat.le_succ _)) hacc⟩
end
def rListI (P : Program) (w : World) : List V → Hp → VK → Prop := fun vs H Q => ∃ (p d : Addr) (ks : List RE), vs = [.ref p] ∧ H p = some (DX.itemsO p d) ∧ H d = some (rdO P w d ks) ∧ RowsAt H ks ∧
  ∀ (H' : Hp) (l : Addr) (ts : List Addr), Same H H' → H l = none → H' l = some (.lst (ts.map V.ref)) → ts.length = ks.length → (∀ (j : Nat) (t : Addr) (e : RE), ts[j]? = some t → ks[j]? = some e → H t = none ∧ H' t = some (.tup [.ref e.2.1, e.2.2])) → Q (.ref l) H'
theorem cr_listI {X : Cx} (P : Program) (w : World) (hc : X.calm = true) (e1 : X.prog = P := by rfl) (e2 : X.w = w := by rfl) : CallR X (.type "list") (rListI P w) := by
  subst e1 e2
  intro pins s σ H xs us Q I r h
  obtain ⟨p, d, ks, rfl, hp, hd, hr, q⟩ := h
  obtain rfl := Vals.ref1 r
  have view : s.heap.IsItemsView p d := (show ObjOk X.prog X.w H s.heap p (DX.itemsO p d) from I.hok p _ hp).1
  obtain ⟨z, hs, xs', rel, o, es, ep, ho, hx, hdat, hes, his, hn⟩ := rd_at I.hok hd hr
  have l1 : ks.length = xs'.length := Paired.length rel
  have l2 : es.size = xs'.length := size_of_entries hes
  refine listI_call (es := es) (ep := ep) (I.ok.hd hc) view ⟨o, ho, hx, hdat⟩ (by omega) fun h' tk acc c as hk hS hl hG hacc => ?_
  have lak : as.length = ks.length := by omega
  have nd : as.Nodup := List.Pairwise.imp (fun h => Nat.ne_of_lt h) hG.rise
  have pr : ∀ (j : Nat) (b : Addr), as[j]? = some b → ∃ (e : RE) (u : Value), ks[j]? = some e ∧ RelV e.2.2 u ∧ h'.get? b = some { cls := .type "tuple", data := .seq #[Value.ref e.2.1, u] } := by
    intro j b hj
    obtain ⟨en, he, hg⟩ := hG.pairs j b hj
    rw [entry_at hes j] at he
    cases hxj : xs'[j]? with
    | none =>
      rw [hxj] at he
      exact nomatch (show (none : Option DictEntry) = some en from he)
    | some x =>
      rw [hxj] at he
      have een : entryOfKey (RK X.prog X.w) x = en := Option.some.inj he
      obtain ⟨e0, he0, r1, r2, r3⟩ := DX.pget rel hxj
      refine ⟨e0, x.2.2, he0, r3, ?_⟩
      rw [hg, ← een]
      show some ({ cls := Value.type "tuple", data := .seq #[Value.ref x.2.1, x.2.2] } : Obj) = _
      rw [r2]
  have hn0 : H s.heap.objs.size = none := I.hok.fresh (Nat.le_refl _)
  have I1 : Inv X pins σ H { s with heap := h', toks := tk } := I.kept (t' := tk) hk
  have rv : Vals (as.map V.ref) acc.toList := by
    rw [hacc]
    exact vals_maps (fun a : Addr => V.ref a) (fun a => Value.ref a) as fun _ _ => rfl
  have I2 : Inv X pins σ (upd H s.heap.objs.size (.lst (as.map V.ref))) { s with heap := h', toks := tk } :=
    I1.take (h' := h') (t' := tk) (fun b ob _ e => e) (I.fpOk (Nat.le_refl _) hn0) ⟨by rw [List.length_map]; omega, acc.toList, c, rv, by rw [Array.toArray_toList]; exact hS⟩
  obtain ⟨H2, I3, g, qt⟩ := DX.takeT (P := fun b vs => ∃ (j : Nat) (e : RE), as[j]? = some b ∧ ks[j]? = some e ∧ vs = [.ref e.2.1, e.2.2]) I as _ I2 nd fun b hb => by
    obtain ⟨j, hj⟩ := List.mem_iff_getElem?.mp hb
    obtain ⟨e, u, he, ru, hg⟩ := pr j b hj
    have hbl : s.heap.objs.size < b := hG.above b hb
    refine ⟨Nat.le_of_lt hbl, ?_, [.ref e.2.1, e.2.2], ⟨j, e, hj, he, rfl⟩, fun H3 => ⟨(by rw [sizeLine_eq]; show 2 ≤ 16777216; omega), [Value.ref e.2.1, u], .cons rfl (.cons ru .nil), ⟨_, hg, rfl, 0, rfl⟩⟩⟩
    rw [upd_ne (Nat.ne_of_gt hbl)]
    exact I.hok.fresh (Nat.le_of_lt hbl)
  refine ⟨.ref s.heap.objs.size, H2, I3, rfl, q H2 _ as (fun b o e => g b o (by rw [upd_ne (ne_of_none e hn0)]; exact e)) hn0 (g _ _ upd_same) lak fun j t e hj he => ?_⟩
  have hb : t ∈ as := List.mem_of_getElem? hj
  obtain ⟨vs, ⟨i, e', i1, i2, ev⟩, hH⟩ := qt t hb
  have eij : i = j := (List.getElem?_inj (List.getElem?_eq_some_iff.mp i1).1 nd).mp (i1.trans hj.symm)
  subst eij
  have ee : e' = e := Option.some.inj (i2.symm.trans he)
  subst ee
  exact ⟨I.hok.fresh (Nat.le_of_lt (hG.above t hb)), by rw [hH, ev]⟩

/-! ### x in l of data -/
theorem hu65 {k : Nat} {A : Around} (hr : Room k A) : A.units + 65 < cLine := by have := hr.un; omega
theorem inDK {X : Cx} (K : PySem.W.Frag) (hu : X.A.units + 65 < cLine) (h : X.K = K := by rfl) : OpR X (compareOp .In) (rInD K) := by subst h; exact op_inD hu
theorem notInDK {X : Cx} (K : PySem.W.Frag) (hu : X.A.units + 65 < cLine) (h : X.K = K := by rfl) : OpR X (compareOp .NotIn) (rNotInD K) := by subst h; exact op_notInD hu

theorem lay_all : ∀ {ds : List PyData}, (∀ d ∈ ds, d.canLay0 = true ∧ d.depth ≤ 40) → PyData.canLayAll0 ds = true ∧ PyData.depthAll ds ≤ 40
  | [], _ => ⟨rfl, by show 0 ≤ 40; omega⟩
  | d :: ds, h => by
    obtain ⟨h1, h2⟩ := lay_all (ds := ds) fun x hx => h x (List.mem_cons_of_mem _ hx)
    obtain ⟨g1, g2⟩ := h d List.mem_cons_self
    exact ⟨by unfold PyData.canLayAll0; rw [g1, h1]; rfl, by unfold PyData.depthAll; omega⟩
theorem shaped_list {ds : List PyData} (h : ∀ d ∈ ds, d.canLay0 = true ∧ d.depth ≤ 40) : SeqAt.shaped (.list ds) = true := by
  obtain ⟨h1, h2⟩ := lay_all h
  unfold SeqAt.shaped
  rw [Bool.and_eq_true]
  refine ⟨by unfold PyData.canLay0; exact h1, decide_eq_true (by unfold PyData.depth; omega)⟩
theorem shaped_one {d : PyData} (h : d.canLay0 = true ∧ d.depth ≤ 40) : SeqAt.shaped d = true := by
  unfold SeqAt.shaped
  rw [Bool.and_eq_true]
  exact ⟨h.1, decide_eq_true (by omega)⟩

/-! ### keys of rows; a law's rows in their order -/
def sp_rk (K : PySem.W.Frag) (f : Vl → PyData) : Sp := fun vs H Q _ => ∃ (a : Addr) (row : List Vl), vs = [.ref a] ∧ SqT K H a (row.map Vl.v) ∧ row.length ≤ 1000 ∧ ∀ H' p, Same H H' → Dp K H' (.ref p) (rowK f row) → Q (.ref p) H'
section
variable {P : Program} {w : World} {K : PySem.W.Frag} {mg : Str → Option Value} {base : Heap}
theorem ok_rkey {f : Addr} {fd : FuncData} (F : Fun K "row_key" "row_key" s_row_key f fd) (M : Mg mg) (c_value_key : Cl P w K mg base 1 "value_key" (sp_key K)) : FnOk P w K mg base CX0 2 f fd ["row"] (sp_rk K Vl.d) := by
  refine F.ok sc_row_key (fun vs H Q E h => ?_) (fun cdv A outer s H vs Q E hr h => ?_)
  · obtain ⟨a, row, rfl, _⟩ := h
    rfl
  · obtain ⟨a, row, rfl, hS, hl, q⟩ := h
    refine ⟨_, (pss_one (ps_ret (pe_callTy (tupleK K) (by rfl) M.tuple (by decide +kernel) (pa_cons (pe_lc (own := [("value", 1)]) (g := gName 1) (tt := tYes) rfl sc_row_key.nd (pi_tup (pv 0)) (blkOk_by (N := N_row_key) (sc := defScope s_row_key) (by decide +kernel)) (fun _ _ _ _ _ => (pg_name (i := 1) sc_row_key.nd rfl (.inl rfl))) (fun _ _ _ _ _ => pts_nil) (fun _ _ _ _ _ => (pe_u c_value_key hr (by first | decide | omega) (by rfl) (pa_cons (pv 1) pa_nil)))) pa_nil)))), ?_⟩
    refine ⟨_, rfl, a, rfl, ⟨_, hS⟩, fun D nD => ?_⟩
    refine lc_tup (K := K) (a := a) (xs := row.map Vl.v) (fun i Hi => Same H Hi ∧ ∃ xs, Hi D = some (.lst xs) ∧ DpAll K Hi xs ((row.take i).map Vl.d)) ⟨same_upd nD, [], upd_same, .nil⟩ (fun i Hi _ hp => SqT.ext hp.1 hS) (fun i x Hi hx hp => ?_) (fun Hn hp => ?_)
    · obtain ⟨si, xs, eD, da⟩ := hp
      rw [List.getElem?_map] at hx
      obtain ⟨v, hv, rfl⟩ := Option.map_eq_some_iff.mp hx
      have hi : i < row.length := (List.getElem?_eq_some_iff.mp hv).1
      refine ⟨rfl, ?_⟩
      refine ⟨_, rfl, v, rfl, fun H' p s' dp => ?_⟩
      have eD' := s' _ _ eD
      have hxs : xs.length = i := by
        rw [DpAll.len da, List.length_map, List.length_take]
        omega
      refine ⟨xs, eD', by rw [hxs]; exact Nat.lt_of_lt_of_le (m := 1001) (by omega) (by decide), fun b o e => ?_, xs ++ [.ref p], upd_same, ?_⟩
      · have nb : b ≠ D := ne_of_none e nD
        rw [upd_ne nb]
        exact s' _ _ (si _ _ e)
      · rw [List.take_add_one, hv, List.map_append]
        exact DpAll.snoc (DpAll.away eD' _ _ (rk_only kf_d _) (DpAll.ext s' _ _ da)) (Dp.away eD' _ _ (kf_d.only v) dp)
    · obtain ⟨sn, xs, eD, da⟩ := hp
      have er : row.take (row.map Vl.v).length = row := List.take_of_length_le (by rw [List.length_map]; exact Nat.le_refl _)
      rw [er] at da
      refine ⟨D, xs, rfl, .inl ⟨.of eD, fun T nT => ?_⟩⟩
      exact q _ T (sn.trans (same_upd nT)) (.tup (.of upd_same) (DpAll.ext (same_upd nT) _ _ da))
end

section
variable {P : Program} {w : World} {K : PySem.W.Frag} {mg : Str → Option Value} {base : Heap}
theorem ok_lrkey {f : Addr} {fd : FuncData} (F : Fun K "_law_row_key" "_law_row_key" s__law_row_key f fd) (M : Mg mg) (c__law_key : Cl P w K mg base 1 "_law_key" (sp_lkey K)) : FnOk P w K mg base CX0 2 f fd ["row"] (sp_rk K Vl.lk) := by
  refine F.ok sc__law_row_key (fun vs H Q E h => ?_) (fun cdv A outer s H vs Q E hr h => ?_)
  · obtain ⟨a, row, rfl, _⟩ := h
    rfl
  · obtain ⟨a, row, rfl, hS, hl, q⟩ := h
    refine ⟨_, (pss_one (ps_ret (pe_callTy (tupleK K) (by rfl) M.tuple (by decide +kernel) (pa_cons (pe_lc (own := [("value", 1)]) (g := gName 1) (tt := tYes) rfl sc__law_row_key.nd (pi_tup (pv 0)) (blkOk_by (N := N__law_row_key) (sc := defScope s__law_row_key) (by decide +kernel)) (fun _ _ _ _ _ => (pg_name (i := 1) sc__law_row_key.nd rfl (.inl rfl))) (fun _ _ _ _ _ => pts_nil) (fun _ _ _ _ _ => (pe_u c__law_key hr (by first | decide | omega) (by rfl) (pa_cons (pv 1) pa_nil)))) pa_nil)))), ?_⟩
    refine ⟨_, rfl, a, rfl, ⟨_, hS⟩, fun D nD => ?_⟩
    refine lc_tup (K := K) (a := a) (xs := row.map Vl.v) (fun i Hi => Same H Hi ∧ ∃ xs, Hi D = some (.lst xs) ∧ DpAll K Hi xs ((row.take i).map Vl.lk)) ⟨same_upd nD, [], upd_same, .nil⟩ (fun i Hi _ hp => SqT.ext hp.1 hS) (fun i x Hi hx hp => ?_) (fun Hn hp => ?_)
    · obtain ⟨si, xs, eD, da⟩ := hp
      rw [List.getElem?_map] at hx
      obtain ⟨v, hv, rfl⟩ := Option.map_eq_some_iff.mp hx
      have hi : i < row.length := (List.getElem?_eq_some_iff.mp hv).1
      refine ⟨rfl, ?_⟩
      refine ⟨_, rfl, v, rfl, fun H' p s' dp => ?_⟩
      have eD' := s' _ _ eD
      have hxs : xs.length = i := by
        rw [DpAll.len da, List.length_map, List.length_take]
        omega
      refine ⟨xs, eD', by rw [hxs]; exact Nat.lt_of_lt_of_le (m := 1001) (by omega) (by decide), fun b o e => ?_, xs ++ [.ref p], upd_same, ?_⟩
      · have nb : b ≠ D := ne_of_none e nD
        rw [upd_ne nb]
        exact s' _ _ (si _ _ e)
      · rw [List.take_add_one, hv, List.map_append]
        exact DpAll.snoc (DpAll.away eD' _ _ (rk_only kf_lk _) (DpAll.ext s' _ _ da)) (Dp.away eD' _ _ (kf_lk.only v) dp)
    · obtain ⟨sn, xs, eD, da⟩ := hp
      have er : row.take (row.map Vl.v).length = row := List.take_of_length_le (by rw [List.length_map]; exact Nat.le_refl _)
      rw [er] at da
      refine ⟨D, xs, rfl, .inl ⟨.of eD, fun T nT => ?_⟩⟩
      exact q _ T (sn.trans (same_upd nT)) (.tup (.of upd_same) (DpAll.ext (same_upd nT) _ _ da))
end
/-! ### the law's totals -/
/-- each once, of values with what they are -/
def distP (l : List (V × PyData)) : List (V × PyData) := l.foldl (fun a x => if (a.any fun z => PyData.eqv z.2 x.2) = true then a else a ++ [x]) []
theorem distP_snoc (l : List (V × PyData)) (x : V × PyData) : distP (l ++ [x]) = if ((distP l).any fun z => PyData.eqv z.2 x.2) = true then distP l else distP l ++ [x] := by
  unfold distP
  rw [List.foldl_append]
  rfl
theorem distP_sub (l : List (V × PyData)) : ∀ x ∈ distP l, x ∈ l := by
  have go : ∀ (l a : List (V × PyData)), ∀ x ∈ l.foldl (fun a x => if (a.any fun z => PyData.eqv z.2 x.2) = true then a else a ++ [x]) a, x ∈ a ∨ x ∈ l := by
    intro l
    induction l with
    | nil => exact fun a x h => .inl h
    | cons y l ih =>
      intro a x h
      rw [List.foldl_cons] at h
      rcases ih _ x h with h | h
      · by_cases e : (a.any fun z => PyData.eqv z.2 y.2) = true
        · rw [if_pos e] at h
          exact .inl h
        · rw [if_neg e] at h
          rcases List.mem_append.mp h with h | h
          · exact .inl h
          · exact .inr (by rw [List.mem_singleton.mp h]; exact List.mem_cons_self)
      · exact .inr (List.mem_cons_of_mem _ h)
  intro x h
  exact (go l [] x h).elim (fun z => by cases z) id
theorem distP_len (l : List (V × PyData)) : (distP l).length ≤ l.length := by
  have go : ∀ (l a : List (V × PyData)), (l.foldl (fun a x => if (a.any fun z => PyData.eqv z.2 x.2) = true then a else a ++ [x]) a).length ≤ a.length + l.length := by
    intro l
    induction l with
    | nil => exact fun a => Nat.le_refl _
    | cons y l ih =>
      intro a
      rw [List.foldl_cons, List.length_cons]
      by_cases e : (a.any fun z => PyData.eqv z.2 y.2) = true
      · rw [if_pos e]
        have := ih a
        omega
      · rw [if_neg e]
        have := ih (a ++ [y])
        rw [List.length_append, List.length_singleton] at this
        omega
  have := go l []
  simpa [distP] using this
theorem p_lay : ∀ v : Vl, v.ok → v.p.canLay0 = true ∧ v.p.depth ≤ 40
  | .n, _ => ⟨rfl, by show 0 ≤ 40; omega⟩
  | .i _, _ => ⟨rfl, by show 0 ≤ 40; omega⟩
  | .s l, h => ⟨strOk_ab h, by show 0 ≤ 40; omega⟩
theorem dpa_of {K : PySem.W.Frag} {H : Hp} : ∀ {l : List (V × PyData)}, (∀ x ∈ l, Dp K H x.1 x.2) → DpAll K H (l.map Prod.fst) (l.map Prod.snd)
  | [], _ => .nil
  | x :: l, h => .cons (h x List.mem_cons_self) (dpa_of fun y hy => h y (List.mem_cons_of_mem _ hy))
def sp_ldist (K : PySem.W.Frag) : Sp := fun vs H Q _ => ∃ (p : Addr) (l : List (V × PyData)), vs = [.ref p] ∧ SqL K H p (l.map Prod.fst) ∧ (∀ x ∈ l, Dp K H x.1 x.2) ∧ (∀ x ∈ l, x.2.canLay0 = true ∧ x.2.depth ≤ 40) ∧ l.length ≤ 1000 ∧ ∀ H' p', Same H H' → H p' = none → H' p' = some (.lst ((distP l).map Prod.fst)) → Q (.ref p') H'
section
variable {P : Program} {w : World} {K : PySem.W.Frag} {mg : Str → Option Value} {base : Heap}
theorem ok_ldist {f : Addr} {fd : FuncData} (F : Fun K "_law_distinct" "_law_distinct" s__law_distinct f fd) (M : Mg mg) : FnOk P w K mg base CX0 1 f fd ["rows"] (sp_ldist K) := by
  refine F.ok sc__law_distinct (fun vs H Q E h => ?_) (fun cdv A outer s H vs Q E hr h => ?_)
  · obtain ⟨p, l, rfl, _⟩ := h
    rfl
  · obtain ⟨p, l, rfl, hS, hD, hL, hl, q⟩ := h
    refine ⟨_, (pss_cons (ps_set (i := 1) sc__law_distinct.nd rfl (.inl rfl) (pe_lst pa_nil))
      (pss_cons (ps_for PassesOwn.never rfl (pi_list (pv 0)) (pg_name (i := 2) sc__law_distinct.nd rfl (.inl rfl)) (pss_one (ps_if (pt_cmpR (notInDK K (hu65 hr)) (pv 2) (pv 1) (by rfl)) (pss_one (ps_expr (pe_bmK K PySem.F.plainAttrs_list PySem.F.slot_list_append PySem.F.type_list_append mt_append (pv 1) (pa_cons (pv 2) pa_nil)))) pss_nil)))
      (pss_one (ps_ret (pv 1))))), ?_⟩
    refine ⟨by show 0 ≤ sizeLine; decide, fun D nD => ?_⟩
    refine ⟨_, rfl, p, rfl, ⟨_, SqL.same (same_upd nD) hS⟩, ?_⟩
    refine for_list (K := K) (a := p) (xs := l.map Prod.fst) (fun j σ Hj => Same H Hj ∧ Hj D = some (.lst ((distP (l.take j)).map Prod.fst)) ∧ ∃ z, σ = [some (.ref p), some (.ref D), z]) ⟨same_upd nD, upd_same, none, rfl⟩ (fun j σ Hj _ hp => SqL.same hp.1 hS) (fun j x σ Hj hx hp => ?_) (fun σ Hj hp => ?_)
    · obtain ⟨sj, eD, z, rfl⟩ := hp
      rw [List.getElem?_map] at hx
      obtain ⟨⟨v, d⟩, hv, rfl⟩ := Option.map_eq_some_iff.mp hx
      have hm := List.mem_of_getElem? hv
      have etk : distP (l.take (j + 1)) = if ((distP (l.take j)).any fun z => PyData.eqv z.2 d) = true then distP (l.take j) else distP (l.take j) ++ [(v, d)] := by
        rw [List.take_add_one, hv]
        exact distP_snoc _ _
      have sub : ∀ x ∈ distP (l.take j), x ∈ l := fun x hx => List.mem_of_mem_take (distP_sub _ x hx)
      have hd1 : (distP (l.take j)).length ≤ 1000 := by
        have h1 := distP_len (l.take j)
        rw [List.length_take] at h1
        omega
      refine ⟨_, rfl, _, rfl, d, (distP (l.take j)).map Prod.snd, Dp.ext sj _ _ (hD _ hm), .lst (.of eD) (dpa_of fun x hx => Dp.ext sj _ _ (hD x (sub x hx))), shaped_one (hL _ hm), shaped_list (fun y hy => by
        obtain ⟨x, hx, rfl⟩ := List.mem_map.mp hy
        exact hL x (sub x hx)), _, rfl, ?_⟩
      rw [List.any_map]
      refine ite2 (fun hc => ?_) (fun hc => ?_)
      · refine ⟨_, rfl, .inl ⟨rfl, _, .inl (.inl eD)⟩, _, rfl, D, _, _, rfl, rfl, eD, by rw [List.length_map]; exact small1 hd1, fun b o eb => ?_, ?_, _, rfl⟩
        · rw [upd_ne (ne_of_none eb nD)]
          exact sj _ _ eb
        · rw [upd_same, etk, if_neg (by
            intro z
            rw [show ((distP (l.take j)).any ((fun z => PyData.eqv z d) ∘ Prod.snd)) = true from z] at hc
            cases hc), List.map_append]
          rfl
      · refine ⟨sj, ?_, _, rfl⟩
        rw [etk, if_pos (by
          cases e : ((distP (l.take j)).any fun z => PyData.eqv z.2 d) with
          | true => rfl
          | false =>
            exact absurd (by rw [show ((distP (l.take j)).any ((fun z => PyData.eqv z d) ∘ Prod.snd)) = false from e]; rfl) hc)]
        exact eD
    · obtain ⟨sj, eD, z, rfl⟩ := hp
      rw [List.length_map, List.take_of_length_le (Nat.le_refl _)] at eD
      exact ⟨_, rfl, q Hj D sj nD eD⟩
end

/-! ### a law's rows, each once, in their order -/
abbrev AR := Addr × List Vl
def distA (l : List AR) : List AR := l.foldl (fun a x => if x.2 ∈ a.map Prod.snd then a else a ++ [x]) []
def arG (x : AR) : V × PyData := (.ref x.1, rowP x.2)
theorem distP_rows (l : List AR) : distP (l.map arG) = (distA l).map arG := by
  have go : ∀ (l a : List AR), (l.map arG).foldl (fun a x => if (a.any fun z => PyData.eqv z.2 x.2) = true then a else a ++ [x]) (a.map arG) = (l.foldl (fun a x => if x.2 ∈ a.map Prod.snd then a else a ++ [x]) a).map arG := by
    intro l
    induction l with
    | nil => exact fun a => rfl
    | cons y l ih =>
      intro a
      rw [List.map_cons, List.foldl_cons, List.foldl_cons]
      have e : ((a.map arG).any fun z => PyData.eqv z.2 (rowP y.2)) = decide (y.2 ∈ a.map Prod.snd) := by
        rw [List.any_map, Bool.eq_iff_iff, decide_eq_true_iff, List.any_eq_true]
        constructor
        · rintro ⟨x, hx, e⟩
          have e : PyData.eqv (rowP x.2) (rowP y.2) = true := e
          rw [rowP_eqv] at e
          rw [← of_decide_eq_true e]
          exact List.mem_map.mpr ⟨x, hx, rfl⟩
        · intro h
          obtain ⟨x, hx, e⟩ := List.mem_map.mp h
          exact ⟨x, hx, by show PyData.eqv (rowP x.2) (rowP y.2) = true; rw [rowP_eqv]; exact decide_eq_true e⟩
      by_cases h : y.2 ∈ a.map Prod.snd
      · rw [if_pos (by show _ = true; exact e.trans (decide_eq_true h)), if_pos h]
        exact ih a
      · rw [if_neg (by show ¬ _ = true; exact fun z => h (of_decide_eq_true (e.symm.trans z))), if_neg h]
        have := ih (a ++ [y])
        rw [List.map_append] at this
        exact this
  exact go l []
theorem distA_spec (l : List AR) : ((distA l).map Prod.snd).Nodup ∧ (∀ x ∈ distA l, x ∈ l) ∧ ∀ r, r ∈ (distA l).map Prod.snd ↔ r ∈ l.map Prod.snd := by
  have go : ∀ (l a : List AR), (a.map Prod.snd).Nodup → ((l.foldl (fun a x => if x.2 ∈ a.map Prod.snd then a else a ++ [x]) a).map Prod.snd).Nodup ∧ (∀ x ∈ l.foldl (fun a x => if x.2 ∈ a.map Prod.snd then a else a ++ [x]) a, x ∈ a ∨ x ∈ l) ∧ ∀ r, r ∈ (l.foldl (fun a x => if x.2 ∈ a.map Prod.snd then a else a ++ [x]) a).map Prod.snd ↔ r ∈ a.map Prod.snd ∨ r ∈ l.map Prod.snd := by
    intro l
    induction l with
    | nil => exact fun a h => ⟨h, fun x hx => .inl hx, fun r => ⟨.inl, fun z => z.elim id (fun z => by cases z)⟩⟩
    | cons y l ih =>
      intro a h
      rw [List.foldl_cons]
      by_cases hy : y.2 ∈ a.map Prod.snd
      · rw [if_pos hy]
        obtain ⟨h1, h2, h3⟩ := ih a h
        refine ⟨h1, fun x hx => (h2 x hx).imp id (List.mem_cons_of_mem _), fun r => (h3 r).trans ?_⟩
        rw [List.map_cons, List.mem_cons]
        constructor
        · exact fun z => z.imp id .inr
        · rintro (z | rfl | z)
          · exact .inl z
          · exact .inl hy
          · exact .inr z
      · rw [if_neg hy]
        obtain ⟨h1, h2, h3⟩ := ih (a ++ [y]) (by
          rw [List.map_append]
          exact List.nodup_append.mpr ⟨h, (List.pairwise_singleton _ _), fun x hx z hz e => by
            have hz : z ∈ [y.2] := hz
            rw [List.mem_singleton.mp hz] at e
            exact hy (e ▸ hx)⟩)
        refine ⟨h1, fun x hx => ?_, fun r => (h3 r).trans ?_⟩
        · rcases h2 x hx with z | z
          · rcases List.mem_append.mp z with z | z
            · exact .inl z
            · exact .inr (by rw [List.mem_singleton.mp z]; exact List.mem_cons_self)
          · exact .inr (List.mem_cons_of_mem _ z)
        · rw [List.map_append, List.mem_append, List.map_cons, List.map_nil, List.mem_singleton, List.map_cons, List.mem_cons]
          exact or_assoc
  obtain ⟨h1, h2, h3⟩ := go l [] List.nodup_nil
  refine ⟨h1, fun x hx => (h2 x hx).elim (fun z => by cases z) id, fun r => (h3 r).trans ⟨fun z => z.elim (fun z => by cases z) id, .inr⟩⟩
theorem distA_len (l : List AR) : (distA l).length ≤ l.length := by
  have h := distP_len (l.map arG)
  rw [distP_rows, List.length_map, List.length_map] at h
  exact h
/-- the row that stands at a value -/
def rowOf (H : Hp) : V → List Vl
  | .ref t => match H t with
    | some (.tup xs) => xs.map toVl
    | _ => []
  | _ => []
theorem rowOf_at {H : Hp} {t : Addr} {r : List Vl} (h : H t = some (.tup (r.map Vl.v))) : rowOf H (.ref t) = r := by
  show (match H t with
    | some (.tup xs) => xs.map toVl
    | _ => []) = r
  rw [h]
  exact toVl_map r
def sp_lord (K : PySem.W.Frag) : Sp := fun vs H Q _ => ∃ (a : Addr) (zs : List AR), vs = [.ref a] ∧ SqL K H a (zs.map fun x => V.ref x.1) ∧ (∀ x ∈ zs, H x.1 = some (.tup (x.2.map Vl.v))) ∧ (∀ x ∈ zs, rok x.2 ∧ x.2.length ≤ 1000) ∧ zs.length ≤ 1000 ∧
  ∀ (H' : Hp) (p : Addr) (zs' : List AR), Same H H' → H p = none → H' p = some (.lst (zs'.map fun x : AR => V.ref x.1)) → (∀ x ∈ zs', x ∈ zs) → zs'.length ≤ zs.length → (zs'.map Prod.snd).Pairwise (fun x y => rlt x y = true) → (∀ r, r ∈ zs'.map Prod.snd ↔ r ∈ zs.map Prod.snd) → Q (.ref p) H'
section
variable {P : Program} {w : World} {K : PySem.W.Frag} {mg : Str → Option Value} {base : Heap}
theorem ok_lord {f : Addr} {fd : FuncData} (F : Fun K "_law_ordered" "_law_ordered" s__law_ordered f fd) (M : Mg mg) (c__law_distinct : Cl P w K mg base 1 "_law_distinct" (sp_ldist K)) (c__law_row_key : Cl P w K mg base 2 "_law_row_key" (sp_rk K Vl.lk)) : FnOk P w K mg base CX0 5 f fd ["rows"] (sp_lord K) := by
  obtain ⟨fk, hm__law_row_key, hdk⟩ := c__law_row_key.hd
  refine F.ok sc__law_ordered (fun vs H Q E h => ?_) (fun cdv A outer s H vs Q E hr h => ?_)
  · obtain ⟨a, zs, rfl, _⟩ := h
    rfl
  · obtain ⟨a, zs, rfl, hS, hrow, hok, hl, q⟩ := h
    refine ⟨_, (pss_one (ps_ret (pe_callBK (cr_sortFK (P := P) (w := w) (K := K) (mg := mg) (base := base) (k := 2) hr (by first | decide | omega)) (by rfl) M.sorted (by decide +kernel) (pa_cons (pe_u c__law_distinct hr (by first | decide | omega) (by rfl) (pa_cons (pv 0) pa_nil)) pa_nil) (pk_cons (C8.pe_gc (v := .ref _) (by rfl) ⟨_, hm__law_row_key, rfl⟩) pk_nil)))), ?_⟩
    obtain ⟨hnd, hsub, hmem⟩ := distA_spec zs
    refine ⟨_, rfl, a, zs.map arG, rfl, by rw [List.map_map]; exact hS, fun x hx => ?_, fun x hx => ?_, by rw [List.length_map]; exact hl, fun H1 p1 s1 np1 e1 => ?_⟩
    · obtain ⟨y, hy, rfl⟩ := List.mem_map.mp hx
      exact dp_rowP (.of (hrow y hy))
    · obtain ⟨y, hy, rfl⟩ := List.mem_map.mp hx
      exact rowP_lay (hok y hy).1.2
    · rw [distP_rows, List.map_map] at e1
      dsimp only [tNil, tCons, tC]
      have hrow1 : ∀ x ∈ distA zs, H1 x.1 = some (.tup (x.2.map Vl.v)) := fun x hx => s1 _ _ (hrow x (hsub x hx))
      refine srt_rows (zs := distA zs) (fun x : AR => x.1) (fun x : AR => x.2) kf_lk (rowOf H1) (SqL.of e1) hdk (fun x hx => rowOf_at (hrow1 x hx)) (fun x hx => (hok x (hsub x hx)).1) (fun x hx H2 R s2 hR => ?_) (fun zs' H' p s' np pz hsr e => ?_)
      · exact ⟨x.1, x.2, rfl, .of (s2 _ _ (hrow1 x hx)), (hok x (hsub x hx)).2, fun H3 u s3 dp => hR _ H3 s3 dp⟩
      · refine q H' p zs' (s1.trans s') (s1.free np) e (fun x hx => hsub x (pz.mem_iff.mp hx)) (by rw [pz.length_eq]; exact distA_len zs) (asc_of hsr ((pz.map _).nodup_iff.mpr hnd)) (fun r => Iff.trans ?_ (hmem r))
        exact (pz.map Prod.snd).mem_iff
end

theorem Wf.one {es : List Int} {x : Int} (h : x ∈ es) : Wf es (.nd x (.lf false) (.lf true)) := by
  obtain ⟨pre, post, rfl⟩ := List.append_of_mem h
  exact (Wf.here .lf .lf (fun z => by cases z)).skips pre

/-! ### candidates of tables -/
def Tk (H H' : Hp) : Prop := ∀ b ys, H b = some (HO.tup ys) → H' b = some (HO.tup ys)
theorem Tk.same {H H' : Hp} (e : Same H H') : Tk H H' := fun b ys h => e b _ h
theorem Tk.trans {H H1 H2 : Hp} (a : Tk H H1) (b : Tk H1 H2) : Tk H H2 := fun c ys h => b c ys (a c ys h)
theorem Tk.fds {C : Addr} {K : PySem.W.Frag} {H H' : Hp} {s : SA} {N : Nds} {es : List Int} {L : Nat} (st : Sto C K H s N es L) (f : FdS s H H') : Tk H H' := fun b ys h => st.tup f b _ (.inl ⟨ys, rfl⟩) h
theorem Tk.fd {d c : Addr} {H H' : Hp} (dr : Dr H d c) (f : Fd d H H') : Tk H H' := fun b ys h => by
  obtain ⟨zs, hz⟩ := dr.lst
  exact f b _ (ne_of h hz (fun z => nomatch z)) h
theorem Tk.upd {H : Hp} {p : Addr} {o : HO} (n : ∀ ys, H p ≠ some (.tup ys)) : Tk H (upd H p o) := fun b ys h => by
  rw [upd_ne (fun z => ?_)]
  · exact h
  · subst z
    exact n ys h
/-- an input row: its number, its table, where its row stands, its row -/
structure En where
  n : Int
  t : Nat
  a : Addr
  r : List Vl
/-- the input rows as they stand, each with where it stands -/
def EnAt (H : Hp) (x : Addr × En) : Prop := H x.1 = some (.tup [.int x.2.n, .int ((x.2.t : Nat) : Int), .ref x.2.a]) ∧ H x.2.a = some (.tup (x.2.r.map Vl.v))
theorem EnAt.tk {H H' : Hp} {x : Addr × En} (e : Tk H H') (h : EnAt H x) : EnAt H' x := ⟨e _ _ h.1, e _ _ h.2⟩
/-- a candidate: where its row stands, its row, its condition -/
structure Cn where
  a : Addr
  r : List Vl
  c : Nat
  b : Bd
def CnAt (H : Hp) (x : Addr × Cn) : Prop := H x.1 = some (.tup [.ref x.2.a, .int ((x.2.c : Nat) : Int)]) ∧ H x.2.a = some (.tup (x.2.r.map Vl.v))
theorem CnAt.tk {H H' : Hp} {x : Addr × Cn} (e : Tk H H') (h : CnAt H x) : CnAt H' x := ⟨e _ _ h.1, e _ _ h.2⟩
/-- an input row of the table with the row -/
def isR (t : Nat) (r : List Vl) (e : En) : Bool := decide (e.t = t) && decide (e.r = r)
def evR (es : List En) (t : Nat) (r : List Vl) (ρ : Int → Bool) : Bool := es.any fun e => isR t r e && ρ e.n
def CnOk (N : Nds) (es : List Int) (ens : List En) (t : Nat) (x : Cn) : Prop := At N x.c x.b ∧ Wf es x.b ∧ ∀ ρ, x.b.ev ρ = evR ens t x.r ρ
/-- what stands at the pair's row -/
def rowOf2 (H : Hp) : V → List Vl
  | .ref t => match H t with
    | some (.tup (.ref a :: _)) => (match H a with
      | some (.tup xs) => xs.map toVl
      | _ => [])
    | _ => []
  | _ => []
theorem rowOf2_at {H : Hp} {x : Addr × Cn} (h : CnAt H x) : rowOf2 H (.ref x.1) = x.2.r := by
  show (match H x.1 with
    | some (.tup (.ref a :: _)) => (match H a with
      | some (.tup xs) => xs.map toVl
      | _ => [])
    | _ => []) = x.2.r
  rw [h.1]
  dsimp only
  rw [h.2]
  exact toVl_map _
theorem Sto.updX {C : Addr} {K : PySem.W.Frag} {H : Hp} {s : SA} {N : Nds} {es : List Int} {L : Nat} {D : Addr} {o : HO} (h : Sto C K H s N es L) (hd : ∃ φ, H D = some (.ext φ)) : Sto C K (upd H D o) s N es L := by
  obtain ⟨φ, hd⟩ := hd
  obtain ⟨⟨dx, h1⟩, ⟨xs, h2, h3⟩, ⟨kvs, h4, h5⟩, ⟨cvs, h6, h7⟩, h8⟩ := h
  have g : ∀ {b : Addr} {u : HO}, H b = some u → (∀ φ, u ≠ .ext φ) → upd H D o b = some u := fun {b u} hb n => by
    rw [upd_ne (ne_of hb hd (n φ))]
    exact hb
  refine ⟨⟨dx, g h1 (fun _ z => nomatch z)⟩, ⟨xs, g h2 (fun _ z => nomatch z), DpAll.tsn (fun b u hu hb => g hb (fun _ z => ?_)) _ _ (nD_only N) h3⟩, ⟨kvs, g h4 (fun _ z => nomatch z), h5⟩, ⟨cvs, g h6 (fun _ z => nomatch z), h7⟩, h8⟩
  rcases hu with ⟨_, e⟩ | ⟨_, _, e⟩ <;> (rw [e] at z; cases z)
theorem FdS.free {C : Addr} {K : PySem.W.Frag} {H H' : Hp} {s : SA} {N : Nds} {es : List Int} {L : Nat} {p : Addr} (st : Sto C K H' s N es L) (f : FdS s H H') (n : H' p = none) : H p = none := by
  obtain ⟨g1, g2, g3⟩ := bu_ne st n
  cases e : H p with
  | none => rfl
  | some o => rw [f p o g1 g2 g3 e] at n; cases n
/-- what the dict of a table's rows holds, behind some input rows -/
structure KsOk (N : Nds) (es : List Int) (ens : List En) (t : Nat) (ks : List RE) : Prop where
  nd : (ks.map Prod.fst).Nodup
  ok : ∀ x ∈ ks, rok x.1 ∧ x.1.length ≤ 1000 ∧ ∃ c B, x.2.2 = .int ((c : Nat) : Int) ∧ At N c B ∧ Wf es B ∧ ∀ ρ, B.ev ρ = evR ens t x.1 ρ
  mem : ∀ r, (∃ x ∈ ks, x.1 = r) ↔ ∃ e ∈ ens, e.t = t ∧ e.r = r
theorem KsOk.mono {N M : Nds} {es : List Int} {ens : List En} {t : Nat} {ks : List RE} (h : KsOk N es ens t ks) : KsOk (N ++ M) es ens t ks :=
  ⟨h.nd, fun x hx => by obtain ⟨h1, h2, c, B, h3, h4, h5⟩ := h.ok x hx; exact ⟨h1, h2, c, B, h3, h4.mono, h5⟩, h.mem⟩
theorem evR_snoc (ens : List En) (e : En) (t : Nat) (r : List Vl) (ρ : Int → Bool) : evR (ens ++ [e]) t r ρ = (evR ens t r ρ || (isR t r e && ρ e.n)) := by
  unfold evR
  rw [List.any_append, List.any_cons, List.any_nil, Bool.or_false]
theorem isR_no {t : Nat} {r : List Vl} {e : En} (h : ¬ (e.t = t ∧ e.r = r)) : isR t r e = false := by
  unfold isR
  by_cases h1 : e.t = t
  · rw [decide_eq_false (fun z => h ⟨h1, z⟩), Bool.and_false]
  · rw [decide_eq_false h1, Bool.false_and]
theorem isR_yes {t : Nat} {r : List Vl} {e : En} (h1 : e.t = t) (h2 : e.r = r) : isR t r e = true := by
  unfold isR
  rw [decide_eq_true h1, decide_eq_true h2]
  rfl
theorem evR_none {ens : List En} {t : Nat} {r : List Vl} (h : ∀ e ∈ ens, ¬ (e.t = t ∧ e.r = r)) (ρ : Int → Bool) : evR ens t r ρ = false := by
  unfold evR
  rw [List.any_eq_false]
  intro e he
  rw [isR_no (h e he)]
  simp
theorem KsOk.skip {N : Nds} {es : List Int} {ens : List En} {t : Nat} {ks : List RE} (h : KsOk N es ens t ks) {e : En} (n : e.t ≠ t) : KsOk N es (ens ++ [e]) t ks := by
  refine ⟨h.nd, fun x hx => ?_, fun r => (h.mem r).trans ?_⟩
  · obtain ⟨h1, h2, c, B, h3, h4, h5, h6⟩ := h.ok x hx
    refine ⟨h1, h2, c, B, h3, h4, h5, fun ρ => ?_⟩
    rw [evR_snoc, isR_no (fun z => n z.1), h6, Bool.false_and, Bool.or_false]
  · constructor
    · rintro ⟨x, hx, g⟩
      exact ⟨x, List.mem_append_left _ hx, g⟩
    · rintro ⟨x, hx, g⟩
      rcases List.mem_append.mp hx with hx | hx
      · exact ⟨x, hx, g⟩
      · rw [List.mem_singleton.mp hx] at g
        exact absurd g.1 n
theorem KsOk.get {N : Nds} {es : List Int} {ens : List En} {t : Nat} {ks : List RE} (h : KsOk N es ens t ks) (r : List Vl) : ∃ c B, (valR ks r).getD (.int 0) = .int ((c : Nat) : Int) ∧ At N c B ∧ Wf es B ∧ ∀ ρ, B.ev ρ = evR ens t r ρ := by
  cases e : valR ks r with
  | none =>
    refine ⟨0, .lf false, rfl, .f, .lf, fun ρ => ?_⟩
    rw [evR_none fun x hx g => ?_]
    · rfl
    · obtain ⟨y, hy, ey⟩ := (h.mem r).mpr ⟨x, hx, g⟩
      exact valR_none e y hy ey
  | some v =>
    obtain ⟨a, hm⟩ := valR_some e
    obtain ⟨_, _, c, B, h3, h4⟩ := h.ok _ hm
    exact ⟨c, B, h3, h4⟩
theorem putR_keys (ks : List RE) (r : List Vl) (b : Addr) (v : V) : (putR ks r b v).map Prod.fst = if r ∈ ks.map Prod.fst then ks.map Prod.fst else ks.map Prod.fst ++ [r] := by
  have e : (valR ks r).isSome = true ↔ r ∈ ks.map Prod.fst := by
    cases e : valR ks r with
    | none =>
      refine ⟨(fun z => by cases z), fun z => ?_⟩
      obtain ⟨x, hx, ex⟩ := List.mem_map.mp z
      exact absurd ex (valR_none e x hx)
    | some v =>
      obtain ⟨a, hm⟩ := valR_some e
      exact ⟨fun _ => List.mem_map.mpr ⟨_, hm, rfl⟩, fun _ => rfl⟩
  unfold putR
  by_cases h : r ∈ ks.map Prod.fst
  · rw [if_pos (e.mpr h), if_pos h, List.map_map]
    refine List.map_congr_left fun x _ => ?_
    show (if x.1 = r then (x.1, x.2.1, v) else x).1 = x.1
    split <;> rfl
  · rw [if_neg (fun z => h (e.mp z)), if_neg h, List.map_append]
    rfl
theorem putR_mem {ks : List RE} {r : List Vl} {b : Addr} {v : V} : ∀ x ∈ putR ks r b v, (x.1 = r ∧ x.2.2 = v) ∨ (x.1 ≠ r ∧ x ∈ ks) := fun x hx => by
  unfold putR at hx
  split at hx
  · obtain ⟨y, hy, rfl⟩ := List.mem_map.mp hx
    by_cases e : y.1 = r
    · rw [if_pos e]
      exact .inl ⟨e, rfl⟩
    · rw [if_neg e]
      exact .inr ⟨e, hy⟩
  · rename_i hn
    rcases List.mem_append.mp hx with hx | hx
    · refine .inr ⟨fun e => hn ?_, hx⟩
      cases ev : valR ks r with
      | none => exact absurd e (valR_none ev x hx)
      | some _ => rfl
    · rw [List.mem_singleton.mp hx]
      exact .inl ⟨rfl, rfl⟩
theorem KsOk.put {N : Nds} {es : List Int} {ens : List En} {t : Nat} {ks : List RE} (h : KsOk N es ens t ks) {e : En} {a : Addr} {c : Nat} {B : Bd} (et : e.t = t) (hr : rok e.r) (hl : e.r.length ≤ 1000) (hA : At N c B) (hW : Wf es B) (hE : ∀ ρ, B.ev ρ = (evR ens t e.r ρ || ρ e.n)) : KsOk N es (ens ++ [e]) t (putR ks e.r a (.int ((c : Nat) : Int))) := by
  have hm : ∀ r, r ∈ ks.map Prod.fst ↔ ∃ e ∈ ens, e.t = t ∧ e.r = r := fun r => Iff.trans ⟨fun z => by obtain ⟨x, hx, ex⟩ := List.mem_map.mp z; exact ⟨x, hx, ex⟩, fun ⟨x, hx, ex⟩ => List.mem_map.mpr ⟨x, hx, ex⟩⟩ (h.mem r)
  refine ⟨?_, fun x hx => ?_, fun r => ?_⟩
  · rw [putR_keys]
    by_cases g : e.r ∈ ks.map Prod.fst
    · rw [if_pos g]
      exact h.nd
    · rw [if_neg g]
      exact List.nodup_append.mpr ⟨h.nd, (List.pairwise_singleton _ _), fun x hx z hz ez => by
        rw [List.mem_singleton.mp hz] at ez
        exact g (ez ▸ hx)⟩
  · rcases putR_mem x hx with ⟨e1, e2⟩ | ⟨e1, hx⟩
    · rw [e1]
      refine ⟨hr, hl, c, B, e2, hA, hW, fun ρ => ?_⟩
      rw [hE, evR_snoc, isR_yes et rfl, Bool.true_and]
    · obtain ⟨h1, h2, c', B', h3, h4, h5, h6⟩ := h.ok x hx
      refine ⟨h1, h2, c', B', h3, h4, h5, fun ρ => ?_⟩
      rw [h6, evR_snoc, isR_no (fun z => e1 z.2.symm), Bool.false_and, Bool.or_false]
  · have e1 : (∃ x ∈ putR ks e.r a (.int ((c : Nat) : Int)), x.1 = r) ↔ r ∈ (putR ks e.r a (.int ((c : Nat) : Int))).map Prod.fst := ⟨fun ⟨x, hx, ex⟩ => List.mem_map.mpr ⟨x, hx, ex⟩, fun z => by obtain ⟨x, hx, ex⟩ := List.mem_map.mp z; exact ⟨x, hx, ex⟩⟩
    rw [e1, putR_keys]
    have e2 : (∃ y ∈ ens ++ [e], y.t = t ∧ y.r = r) ↔ r ∈ ks.map Prod.fst ∨ r = e.r := by
      rw [hm]
      constructor
      · rintro ⟨y, hy, g⟩
        rcases List.mem_append.mp hy with hy | hy
        · exact .inl ⟨y, hy, g⟩
        · rw [List.mem_singleton.mp hy] at g
          exact .inr g.2.symm
      · rintro (⟨y, hy, g⟩ | g)
        · exact ⟨y, List.mem_append_left _ hy, g⟩
        · exact ⟨e, List.mem_append_right _ (List.mem_singleton.mpr rfl), et, g.symm⟩
    rw [e2]
    by_cases g : e.r ∈ ks.map Prod.fst
    · rw [if_pos g]
      exact ⟨.inl, fun z => z.elim id fun z => z ▸ g⟩
    · rw [if_neg g, List.mem_append, List.mem_singleton]
/-- the dict's entries as candidates -/
def cnR (y : Cn) : RE := (y.r, y.a, .int ((y.c : Nat) : Int))
theorem cns_of {N : Nds} {es : List Int} {ens : List En} {t : Nat} : ∀ {ks : List RE}, (∀ x ∈ ks, rok x.1 ∧ x.1.length ≤ 1000 ∧ ∃ c B, x.2.2 = .int ((c : Nat) : Int) ∧ At N c B ∧ Wf es B ∧ ∀ ρ, B.ev ρ = evR ens t x.1 ρ) → ∃ cs : List Cn, cs.map cnR = ks ∧ ∀ y ∈ cs, CnOk N es ens t y ∧ rok y.r ∧ y.r.length ≤ 1000
  | [], _ => ⟨[], rfl, fun _ h => by cases h⟩
  | x :: ks, h => by
    obtain ⟨cs, h1, h2⟩ := cns_of (ks := ks) fun y hy => h y (List.mem_cons_of_mem _ hy)
    obtain ⟨g1, g2, c, B, g3, g4, g5, g6⟩ := h x List.mem_cons_self
    refine ⟨⟨x.2.1, x.1, c, B⟩ :: cs, ?_, fun y hy => ?_⟩
    · rw [List.map_cons, h1]
      unfold cnR
      dsimp only
      rw [← g3]
    · rcases List.mem_cons.mp hy with rfl | hy
      · exact ⟨⟨g4, g5, g6⟩, g1, g2⟩
      · exact h2 y hy
def sp_ckey (K : PySem.W.Frag) : Sp := fun vs H Q _ => ∃ (x : Addr × Cn), vs = [.ref x.1] ∧ CnAt H x ∧ x.2.r.length ≤ 1000 ∧ ∀ H' p, Same H H' → Dp K H' (.ref p) (rowK Vl.d x.2.r) → Q (.ref p) H'
def sp_iro (K : PySem.W.Frag) : Sp := fun vs H Q _ => ∃ (l : Addr) (zs : List (Addr × Cn)), vs = [.ref l] ∧ H l = some (.lst (zs.map fun x => V.ref x.1)) ∧ (∀ x ∈ zs, CnAt H x) ∧ (∀ x ∈ zs, rok x.2.r ∧ x.2.r.length ≤ 1000) ∧
  ∀ (H' : Hp) (p : Addr) (zs' : List (Addr × Cn)), Same H H' → H p = none → zs'.Perm zs → (zs'.map fun x => x.2.r).Pairwise (fun x y => rlt y x = false) → H' p = some (.lst (zs'.map fun x => V.ref x.1)) → Q (.ref p) H'
def sp_cof (K : PySem.W.Frag) : Sp := fun vs H Q _ => ∃ (l b : Addr) (zs : List (Addr × Cn)) (r : List Vl), vs = [.ref l, .ref b] ∧ SqL K H l (zs.map fun x => V.ref x.1) ∧ (∀ x ∈ zs, CnAt H x) ∧ (∀ x ∈ zs, ∀ v ∈ x.2.r, v.ok) ∧ (∀ v ∈ r, v.ok) ∧ H b = some (.tup (r.map Vl.v)) ∧
  ((∀ x ∈ zs, x.2.r = r → Q (.int ((x.2.c : Nat) : Int)) H) ∧ ((∀ x ∈ zs, x.2.r ≠ r) → Q (.int 0) H))
def sp_ecand (C : Addr) (K : PySem.W.Frag) : Sp := fun vs H Q _ => ∃ (s : SA) (N : Nds) (es : List Int) (L : Nat) (E : Addr) (xs : List (Addr × En)) (t : Nat), vs = [.ref s.p, .ref E, .int ((t : Nat) : Int)] ∧ Sto C K H s N es L ∧ (E ≠ s.k ∧ E ≠ s.u ∧ E ≠ s.m) ∧ H E = some (.lst (xs.map fun x => V.ref x.1)) ∧ (∀ x ∈ xs, EnAt H x) ∧
  (∀ x ∈ xs, x.2.n ∈ es ∧ rok x.2.r ∧ x.2.r.length ≤ 1000) ∧ es.length ≤ 6 ∧ xs.length ≤ 6 ∧ N.length + 10000 < sizeLine ∧ L + 10000 < sizeLine ∧
  ∀ (H' : Hp) (p : Addr) (zs : List (Addr × Cn)) (M : Nds) (L' : Nat), FdS s H H' → Sto C K H' s (N ++ M) es L' → M.length ≤ 1000 → L' ≤ L + 1000 → H p = none → H' p = some (.lst (zs.map fun x => V.ref x.1)) → (∀ x ∈ zs, CnAt H' x ∧ CnOk (N ++ M) es (xs.map Prod.snd) t x.2 ∧ rok x.2.r ∧ x.2.r.length ≤ 1000) →
    (zs.map fun x => x.2.r).Pairwise (fun x y => rlt x y = true) → (∀ r, r ∈ (zs.map fun x => x.2.r) ↔ ∃ x ∈ xs, x.2.t = t ∧ x.2.r = r) → Q (.ref p) H'
section
variable {P : Program} {w : World} {K : PySem.W.Frag} {mg : Str → Option Value} {base : Heap}
theorem ok_ckey {f : Addr} {fd : FuncData} (F : Fun K "candidate_key" "candidate_key" s_candidate_key f fd) (M : Mg mg) (c_row_key : Cl P w K mg base 2 "row_key" (sp_rk K Vl.d)) : FnOk P w K mg base CX0 3 f fd ["candidate"] (sp_ckey K) := by
  refine F.ok sc_candidate_key (fun vs H Q E h => ?_) (fun cdv A outer s H vs Q E hr h => ?_)
  · obtain ⟨x, rfl, _⟩ := h
    rfl
  · obtain ⟨x, rfl, hx, hl, q⟩ := h
    refine ⟨_, (pss_cons (ps_asg (pv 0) (pg_tup (by rfl) (pgs_cons (pg_name (i := 1) sc_candidate_key.nd rfl (.inl rfl)) (pgs_cons (pg_name (i := 2) sc_candidate_key.nd rfl (.inl rfl)) pgs_nil))))
      (pss_one (ps_ret (pe_u c_row_key hr (by first | decide | omega) (by rfl) (pa_cons (pv 1) pa_nil))))), ?_⟩
    refine ⟨_, rfl, x.1, _, rfl, .of hx.1, rfl, _, _, rfl, _, _, rfl, rfl, ?_⟩
    exact ⟨_, rfl, x.2.a, x.2.r, rfl, .of hx.2, hl, q⟩
theorem ok_iro {f : Addr} {fd : FuncData} (F : Fun K "in_row_order" "in_row_order" s_in_row_order f fd) (M : Mg mg) (c_candidate_key : Cl P w K mg base 3 "candidate_key" (sp_ckey K)) : FnOk P w K mg base CX0 6 f fd ["found"] (sp_iro K) := by
  obtain ⟨fk, hm_candidate_key, hdk⟩ := c_candidate_key.hd
  refine F.ok sc_in_row_order (fun vs H Q E h => ?_) (fun cdv A outer s H vs Q E hr h => ?_)
  · obtain ⟨l, zs, rfl, _⟩ := h
    rfl
  · obtain ⟨l, zs, rfl, hl, hat, hok, q⟩ := h
    refine ⟨_, (pss_one (ps_ret (pe_callBK (cr_sortFK (P := P) (w := w) (K := K) (mg := mg) (base := base) (k := 3) hr (by first | decide | omega)) (by rfl) M.sorted (by decide +kernel) (pa_cons (pv 0) pa_nil) (pk_cons (C8.pe_gc (v := .ref _) (by rfl) ⟨_, hm_candidate_key, rfl⟩) pk_nil)))), ?_⟩
    refine ⟨_, rfl, ?_⟩
    dsimp only [tNil, tCons, tC]
    refine srt_rows (zs := zs) (fun x : Addr × Cn => x.1) (fun x : Addr × Cn => x.2.r) kf_d (rowOf2 H) (SqL.of hl) hdk (fun x hx => rowOf2_at (hat x hx)) (fun x hx => (hok x hx).1) (fun x hx H2 R s2 hR => ?_) (fun zs' H' p s' np pz hsr e => ?_)
    · exact ⟨x, rfl, (hat x hx).tk (Tk.same s2), (hok x hx).2, fun H3 u s3 dp => hR _ H3 s3 dp⟩
    · exact q H' p zs' s' np pz hsr e
theorem ok_cof {f : Addr} {fd : FuncData} (F : Fun K "condition_of" "condition_of" s_condition_of f fd) (M : Mg mg) {C : Addr} (G : DgC K C mg) : FnOk P w K mg base CX0 1 f fd ["candidates", "row"] (sp_cof K) := by
  refine F.ok sc_condition_of (fun vs H Q E h => ?_) (fun cdv A outer s H vs Q E hr h => ?_)
  · obtain ⟨l, b, zs, r, rfl, _⟩ := h
    rfl
  · obtain ⟨l, b, zs, r, rfl, hl, hat, hok, hrk, hb, q⟩ := h
    refine ⟨_, (pss_cons (ps_for PassesOwn.never rfl (pi_list (pv 0)) (pg_tup (by rfl) (pgs_cons (pg_name (i := 2) sc_condition_of.nd rfl (.inl rfl)) (pgs_cons (pg_name (i := 3) sc_condition_of.nd rfl (.inl rfl)) pgs_nil))) (pss_one (ps_if (pt_cmpR (eqDK K hr.units) (pv 2) (pv 1) (nomark _)) (pss_one (ps_ret (pv 3))) pss_nil)))
      (pss_one (ps_ret (C8.pe_gc (by rfl) G.NEVER)))), ?_⟩
    refine ⟨_, rfl, l, rfl, ⟨_, hl⟩, ?_⟩
    refine for_list (K := K) (a := l) (xs := zs.map fun x => V.ref x.1) (fun i σ Hi => Hi = H ∧ (∀ x ∈ zs.take i, x.2.r ≠ r) ∧ ∃ z2 z3, σ = [some (.ref l), some (.ref b), z2, z3]) ⟨rfl, fun _ h => by simp at h, _, _, rfl⟩ (fun i σ Hi _ hp => by obtain ⟨rfl, _⟩ := hp; exact hl) (fun i y σ Hi hy hp => ?_) (fun σ Hn hp => ?_)
    · obtain ⟨rfl, hn, z2, z3, rfl⟩ := hp
      rw [List.getElem?_map] at hy
      obtain ⟨x, hx, rfl⟩ := Option.map_eq_some_iff.mp hy
      have hm := List.mem_of_getElem? hx
      have hc := hat x hm
      refine ⟨x.1, _, rfl, .of hc.1, rfl, _, _, rfl, _, _, rfl, rfl, ?_⟩
      refine ⟨_, rfl, _, rfl, rowP x.2.r, rowP r, dp_rowP (.of hc.2), dp_rowP (.of hb), rowP_shaped (hok x hm), rowP_shaped hrk, _, rfl, ?_⟩
      rw [rowP_eqv]
      refine ite2 (fun e => ?_) (fun e => ?_)
      · exact ⟨_, rfl, q.1 x hm (of_decide_eq_true e)⟩
      · refine ⟨rfl, fun y hy => ?_, _, _, rfl⟩
        rw [List.take_add_one, hx] at hy
        rcases List.mem_append.mp hy with hy | hy
        · exact hn y hy
        · have hy : y ∈ [x] := hy
          rw [List.mem_singleton.mp hy]
          exact fun z => e (decide_eq_true z)
    · obtain ⟨rfl, hn, z2, z3, rfl⟩ := hp
      rw [List.length_map, List.take_of_length_le (Nat.le_refl _)] at hn
      exact q.2 hn
theorem ok_ecand {f C : Addr} {fd : FuncData} (F : Fun K "entry_candidates" "entry_candidates" s_entry_candidates f fd) (M : Mg mg) (G : DgC K C mg) (c_Diagrams_there : ClM P w K mg base 2 C "there" (sp_there C K)) (c_Diagrams_disjunction : ClM P w K mg base 12 C "disjunction" (sp_op2 C K 9 or)) (c_in_row_order : Cl P w K mg base 6 "in_row_order" (sp_iro K)) : FnOk P w K mg base CX0 13 f fd ["store", "entries", "table"] (sp_ecand C K) := by
  refine F.ok sc_entry_candidates (fun vs H Q E h => ?_) (fun cdv A outer s0 H vs Q E hr h => ?_)
  · obtain ⟨s, N, es, L, Ea, xs, t, rfl, _⟩ := h
    rfl
  · obtain ⟨s, N, es, L, Ea, xs, t, rfl, st, nE, hE, hat, hxs, hes, hln, bN, bL, q⟩ := h
    refine ⟨_, (pss_cons (ps_set (i := 3) sc_entry_candidates.nd rfl (.inl rfl) (pe_rnew P w))
      (pss_cons (ps_for PassesOwn.never rfl (pi_list (pv 1)) (pg_tup (by rfl) (pgs_cons (pg_name (i := 4) sc_entry_candidates.nd rfl (.inl rfl)) (pgs_cons (pg_name (i := 5) sc_entry_candidates.nd rfl (.inl rfl)) (pgs_cons (pg_name (i := 6) sc_entry_candidates.nd rfl (.inl rfl)) pgs_nil)))) (pss_one (ps_if (pt_cmpR op_eq (pv 5) (pv 2) (nomark _)) (pss_one (ps_rput P w (hu_of hr) (pv 3) (pv 6) (pe_mt c_Diagrams_disjunction hr (by first | decide | omega) (pv 0) (pa_cons (pe_rget2 P w (hu_of hr) (pv 3) (pv 6) (C8.pe_gc (by rfl) G.NEVER) ⟨rfl, rfl, rfl, rfl⟩) (pa_cons (pe_mt c_Diagrams_there hr (by first | decide | omega) (pv 0) (pa_cons (pv 4) pa_nil)) pa_nil))) rfl)) pss_nil)))
      (pss_one (ps_ret (pe_u c_in_row_order hr (by first | decide | omega) (by rfl) (pa_cons (pe_callTy (cr_listI P w rfl) (by rfl) M.list (by decide +kernel) (pa_cons (pe_ritems P w (pv 3)) pa_nil)) pa_nil)))))), ?_⟩
    have hob : opB es ≤ 128 := by
      have hpow : 2 ^ es.length ≤ 2 ^ 6 := Nat.pow_le_pow_right (by decide) hes
      unfold opB
      omega
    refine fun D nD => ?_
    have sD := same_upd nD (o := rdO P w D [])
    have eD0 : (upd H D (rdO P w D [])) D = some (rdO P w D []) := upd_same
    have kD := bu_ne st nD
    have nED : Ea ≠ D := ne_of_none hE nD
    generalize upd H D (rdO P w D []) = H1 at sD eD0 ⊢
    refine ⟨_, rfl, Ea, rfl, ⟨_, .of (sD _ _ hE)⟩, ?_⟩
    refine for_list (K := K) (a := Ea) (xs := xs.map fun x => V.ref x.1) (fun i σ Hi => FdS s H Hi ∧ (∃ M L', M.length ≤ 130 * i ∧ L' ≤ L + 130 * i ∧ Sto C K Hi s (N ++ M) es L' ∧ ∃ ks, Hi D = some (rdO P w D ks) ∧ RowsAt Hi ks ∧ ks.length ≤ i ∧ KsOk (N ++ M) es ((xs.take i).map Prod.snd) t ks) ∧ ∃ z4 z5 z6, σ = [some (.ref s.p), some (.ref Ea), some (.int ((t : Nat) : Int)), some (.ref D), z4, z5, z6]) ⟨FdS.of sD, ⟨[], L, Nat.zero_le _, Nat.le_refl _, by rw [List.append_nil]; exact st.ext sD, [], eD0, (fun _ h => by cases h), Nat.le_refl _, ⟨List.nodup_nil, (fun _ h => by cases h), fun r => ⟨fun ⟨_, h, _⟩ => (by cases h), fun ⟨_, h, _⟩ => (by cases h)⟩⟩⟩, _, _, _, rfl⟩ (fun i σ Hi _ hp => .of (hp.1 _ _ nE.1 nE.2.1 nE.2.2 hE)) (fun i y σ Hi hy hp => ?_) (fun σ Hn hp => ?_)
    · obtain ⟨fi, ⟨Mi, L', lM, lL, sti, ks, eDi, hrw, lks, hks⟩, z4, z5, z6, rfl⟩ := hp
      rw [List.getElem?_map] at hy
      obtain ⟨x, hx, rfl⟩ := Option.map_eq_some_iff.mp hy
      have hi : i < xs.length := (List.getElem?_eq_some_iff.mp hx).1
      have hm := List.mem_of_getElem? hx
      have hc := (hat x hm).tk (Tk.fds st fi)
      obtain ⟨hn, hrk, hrl⟩ := hxs x hm
      have etk : (xs.take (i + 1)).map Prod.snd = (xs.take i).map Prod.snd ++ [x.2] := by
        rw [List.take_add_one, hx, List.map_append]
        rfl
      refine ⟨x.1, _, rfl, .of hc.1, rfl, _, _, rfl, _, _, rfl, _, _, rfl, rfl, ?_⟩
      refine ⟨_, rfl, _, rfl, rfl, _, rfl, ite2 (fun e => ?_) (fun e => ?_)⟩
      · have et : x.2.t = t := by
          have := V.int.inj (of_decide_eq_true e)
          omega
        obtain ⟨c0, B0, g0, A0, W0, E0'⟩ := hks.get x.2.r
        refine ⟨_, rfl, sti.go (by decide +kernel) (by decide +kernel) (by decide +kernel) ⟨_, rfl, D, ks, rfl, eDi, _, rfl, ks, x.2.r, x.2.a, rfl, eDi, hrw, hc.2, ?_⟩⟩
        refine ⟨_, rfl, sti.go (by decide +kernel) (by decide +kernel) (by decide +kernel) ⟨_, rfl, ?_⟩⟩
        refine ⟨s, N ++ Mi, es, L', x.2.n, rfl, sti, by rw [List.length_append]; omega, fun H2 M2 r2 f2 l2 st2 a2 => ?_⟩
        refine ⟨s, N ++ Mi ++ M2, es, L', c0, r2, B0, _, by rw [g0]; rfl, st2, by omega, A0.mono, a2, W0, Wf.one hn, by rw [List.length_append, List.length_append]; omega, by omega, fun H3 M3 r3 T f3 l3 st3 a3 w3 v3 => ?_⟩
        have f23 := f2.trans f3
        have eD3 := f23 _ _ kD.1 kD.2.1 kD.2.2 eDi
        have tk3 := Tk.fds sti f23
        have hrw3 := hrw.same tk3
        have ha3 := tk3 _ _ hc.2
        refine ⟨_, rfl, _, rfl, D, ks, x.2.r, x.2.a, rfl, rfl, eD3, hrw3, ha3, Nat.lt_of_le_of_lt (m := 10) (by omega) (by decide), ?_⟩
        have hext : ∃ φ, H3 D = some (.ext φ) := ⟨_, eD3⟩
        have tkD : Tk H3 (upd H3 D (rdO P w D (putR ks x.2.r x.2.a (.int ((r3 : Nat) : Int))))) := Tk.upd fun ys z => by rw [eD3] at z; cases z
        refine ⟨fun b o g1 g2 g3 hb => ?_, ⟨Mi ++ (M2 ++ M3), L' + opB es, by rw [List.length_append, List.length_append]; omega, by omega, ?_, putR ks x.2.r x.2.a (.int ((r3 : Nat) : Int)), upd_same, ?_, ?_, ?_⟩, _, _, _, rfl⟩
        · rw [upd_ne (ne_of_none hb nD)]
          exact f23 _ _ g1 g2 g3 (fi _ _ g1 g2 g3 hb)
        · rw [← List.append_assoc, ← List.append_assoc]
          exact st3.updX hext
        · exact (hrw3.put ha3).same tkD
        · have := putR_len ks x.2.r x.2.a (.int ((r3 : Nat) : Int))
          omega
        · rw [etk, ← List.append_assoc, ← List.append_assoc]
          refine KsOk.put (hks.mono.mono) et hrk hrl a3 w3 fun ρ => ?_
          rw [v3, E0']
          show (_ || (if ρ x.2.n = true then true else false)) = _
          cases ρ x.2.n <;> rfl
      · refine ⟨fi, ⟨Mi, L', by omega, by omega, sti, ks, eDi, hrw, by omega, ?_⟩, _, _, _, rfl⟩
        rw [etk]
        exact hks.skip fun z => e (by rw [z]; exact decide_eq_true rfl)
    · obtain ⟨fn, ⟨Mn, L', lM, lL, stn, ks, eDn, hrw, lks, hks⟩, z4, z5, z6, rfl⟩ := hp
      rw [List.length_map] at lM lL lks hks
      rw [List.take_of_length_le (Nat.le_refl _)] at hks
      refine ⟨_, rfl, D, ks, rfl, eDn, fun p np => ?_⟩
      have sp := same_upd np (o := DX.itemsO p D)
      have ep : (upd Hn p (DX.itemsO p D)) p = some (DX.itemsO p D) := upd_same
      generalize upd Hn p (DX.itemsO p D) = H2 at sp ep ⊢
      refine ⟨p, D, ks, rfl, ep, sp _ _ eDn, hrw.same fun b ys h => sp _ _ h, fun H3 l ts s3 nl el lts hts => ?_⟩
      obtain ⟨cs, ecs, hcs⟩ := cns_of hks.ok
      have lcs : ts.length = cs.length := by rw [lts, ← ecs, List.length_map]
      have zf : (ts.zip cs).map Prod.fst = ts := List.map_fst_zip (by omega)
      have zr : (ts.zip cs).map Prod.snd = cs := List.map_snd_zip (by omega)
      have hrw3 : RowsAt H3 ks := hrw.same fun b ys h => s3 _ _ (sp _ _ h)
      have hz : ∀ z ∈ ts.zip cs, CnAt H3 z ∧ CnOk (N ++ Mn) es (xs.map Prod.snd) t z.2 ∧ rok z.2.r ∧ z.2.r.length ≤ 1000 := fun z hz => by
        obtain ⟨j, hj⟩ := List.mem_iff_getElem?.mp hz
        obtain ⟨j1, j2⟩ := List.getElem?_zip_eq_some.mp hj
        have j3 : ks[j]? = some (cnR z.2) := by rw [← ecs, List.getElem?_map, j2]; rfl
        exact ⟨⟨(hts j _ _ j1 j3).2, hrw3 _ (List.mem_of_getElem? j3)⟩, hcs _ (List.mem_of_getElem? j2)⟩
      have ers : (ts.zip cs).map (fun z => z.2.r) = ks.map Prod.fst := by
        rw [← ecs, List.map_map, ← zr, List.map_map]
        rw [zr]
        rfl
      refine ⟨l, ts.zip cs, rfl, by rw [el, show (ts.zip cs).map (fun x => V.ref x.1) = ((ts.zip cs).map Prod.fst).map V.ref from List.map_map.symm, zf], fun z hz' => (hz z hz').1, fun z hz' => (hz z hz').2.2, fun H4 p4 zs' s4 np4 pz hsr e4 => ?_⟩
      have s24 := (sp.trans s3).trans s4
      have st4 := stn.ext s24
      have f4 : FdS s H H4 := fn.trans (FdS.of s24)
      have hpr := pz.map fun z : Addr × Cn => z.2.r
      rw [ers] at hpr
      refine q H4 p4 zs' Mn L' f4 st4 (by omega) (by omega) (FdS.free (stn.ext (sp.trans s3)) (fn.trans (FdS.of (sp.trans s3))) np4) e4 (fun z hz' => ?_) (asc_of hsr (hpr.nodup_iff.mpr hks.nd)) (fun r => ?_)
      · obtain ⟨k1, k2⟩ := hz z (pz.mem_iff.mp hz')
        exact ⟨k1.tk (Tk.same s4), k2⟩
      · rw [hpr.mem_iff]
        refine Iff.trans ⟨fun z => ?_, fun ⟨y, hy, ey⟩ => List.mem_map.mpr ⟨y, hy, ey⟩⟩ ((hks.mem r).trans ⟨fun ⟨e, he, g⟩ => ?_, fun ⟨x, hx, g⟩ => ⟨x.2, List.mem_map.mpr ⟨x, hx, rfl⟩, g⟩⟩)
        · obtain ⟨y, hy, ey⟩ := List.mem_map.mp z
          exact ⟨y, hy, ey⟩
        · obtain ⟨x, hx, rfl⟩ := List.mem_map.mp he
          exact ⟨x, hx, g⟩
end

/-- all sets of input rows, in the law's order -/
def subs (es : List Int) : List (List Int) := es.foldl (fun f e => f ++ f.map (· ++ [e])) [[]]
theorem subs_snoc (es : List Int) (e : Int) : subs (es ++ [e]) = subs es ++ (subs es).map (· ++ [e]) := by
  unfold subs
  rw [List.foldl_append]
  rfl
theorem subs_len (es : List Int) : (subs es).length = 2 ^ es.length := by
  have h : ∀ (es : List Int) (f : List (List Int)), (es.foldl (fun f e => f ++ f.map (· ++ [e])) f).length = f.length * 2 ^ es.length := by
    intro es
    induction es with
    | nil => intro f; simp
    | cons e es ih =>
      intro f
      rw [List.foldl_cons, ih, List.length_append, List.length_map, List.length_cons, Nat.pow_succ, ← Nat.two_mul, Nat.mul_comm 2 f.length, Nat.mul_assoc, Nat.mul_comm 2]
  rw [subs, h]
  simp
theorem subs_le (es : List Int) : ∀ p ∈ subs es, p.length ≤ es.length ∧ ∀ e ∈ p, e ∈ es := by
  have h : ∀ (es all : List Int) (f : List (List Int)) (k : Nat), (∀ e ∈ es, e ∈ all) → (∀ p ∈ f, p.length ≤ k ∧ ∀ e ∈ p, e ∈ all) → ∀ p ∈ es.foldl (fun f e => f ++ f.map (· ++ [e])) f, p.length ≤ k + es.length ∧ ∀ e ∈ p, e ∈ all := by
    intro es all
    induction es with
    | nil => intro f k _ h; exact h
    | cons e es ih =>
      intro f k ha h p hp
      rw [List.foldl_cons] at hp
      have := ih _ (k + 1) (fun x hx => ha x (List.mem_cons_of_mem _ hx)) (fun q hq => by
        rcases List.mem_append.mp hq with hq | hq
        · have := h q hq
          exact ⟨by omega, this.2⟩
        · obtain ⟨q', hq', rfl⟩ := List.mem_map.mp hq
          have := h q' hq'
          refine ⟨by rw [List.length_append]; exact Nat.add_le_add_right this.1 1, fun x hx => ?_⟩
          rcases List.mem_append.mp hx with hx | hx
          · exact this.2 x hx
          · rw [List.mem_singleton.mp hx]
            exact ha e List.mem_cons_self) p hp
      rw [List.length_cons]
      exact ⟨by omega, this.2⟩
  intro p hp
  have := h es es [[]] 0 (fun _ h => h) (fun p hp => by rw [List.mem_singleton.mp hp]; exact ⟨Nat.le_refl _, fun _ h => by cases h⟩) p hp
  rw [Nat.zero_add] at this
  exact this

/-! ### the laws' sets in lists of their own -/
def LN (H0 H : Hp) (p : Addr) (ls : List (List Int)) : Prop := ∃ as : List Addr, H p = some (.lst (as.map V.ref)) ∧ as.length = ls.length ∧ ∀ (i : Nat) b l, as[i]? = some b → ls[i]? = some l → H0 b = none ∧ H b = some (.lst (l.map V.int))
theorem LN.ext {H0 H H' : Hp} {p : Addr} {ls : List (List Int)} (e : Same H H') (h : LN H0 H p ls) : LN H0 H' p ls := by
  obtain ⟨as, h1, h2, h3⟩ := h
  exact ⟨as, e _ _ h1, h2, fun i b l g1 g2 => ⟨(h3 i b l g1 g2).1, e _ _ (h3 i b l g1 g2).2⟩⟩
theorem LN.get {H0 H : Hp} {p : Addr} {ls : List (List Int)} (h : LN H0 H p ls) : ∃ as : List Addr, H p = some (.lst (as.map V.ref)) ∧ as.length = ls.length ∧ ∀ (i : Nat) v, (as.map V.ref)[i]? = some v → ∃ b l, v = .ref b ∧ ls[i]? = some l ∧ H b = some (.lst (l.map V.int)) := by
  obtain ⟨as, h1, h2, h3⟩ := h
  refine ⟨as, h1, h2, fun i v hv => ?_⟩
  rw [List.getElem?_map] at hv
  obtain ⟨b, hb, rfl⟩ := Option.map_eq_some_iff.mp hv
  have hi : i < ls.length := by rw [← h2]; exact (List.getElem?_eq_some_iff.mp hb).1
  exact ⟨b, ls[i], rfl, List.getElem?_eq_getElem hi, (h3 i b _ hb (List.getElem?_eq_getElem hi)).2⟩
theorem LN.fds {C : Addr} {K : PySem.W.Frag} {sa : SA} {N : Nds} {es : List Int} {L : Nat} {H0 H H' : Hp} {p : Addr} {ls : List (List Int)} (st : Sto C K H0 sa N es L) (n : H0 p = none) (f : FdS sa H H') (h : LN H0 H p ls) : LN H0 H' p ls := by
  obtain ⟨as, h1, h2, h3⟩ := h
  have g := bu_ne st n
  refine ⟨as, f _ _ g.1 g.2.1 g.2.2 h1, h2, fun i b l g1 g2 => ?_⟩
  obtain ⟨k1, k2⟩ := h3 i b l g1 g2
  have g' := bu_ne st k1
  exact ⟨k1, f _ _ g'.1 g'.2.1 g'.2.2 k2⟩
def sp_subsN : Sp := fun vs H Q _ => ∃ a, ∃ es : List Int, vs = [.ref a] ∧ H a = some (.lst (es.map V.int)) ∧ es.length ≤ 10 ∧ ∀ H' p, Same H H' → H p = none → LN H H' p (subs es) → Q (.ref p) H'
theorem LN.app {H0 H : Hp} {p q a b : Addr} {ls ms : List (List Int)} {xs ys : List V} (np : H p = none) (h1 : LN H0 H a ls) (h2 : LN H0 H b ms) (e1 : H a = some (.lst xs)) (e2 : H b = some (.lst ys)) : LN H0 (upd H p (.lst (xs ++ ys))) p (ls ++ ms) := by
  obtain ⟨as, g1, g2, g3⟩ := h1
  obtain ⟨bs, k1, k2, k3⟩ := h2
  have ex : xs = as.map V.ref := by rw [g1] at e1; exact (HO.lst.inj (Option.some.inj e1)).symm
  have ey : ys = bs.map V.ref := by rw [k1] at e2; exact (HO.lst.inj (Option.some.inj e2)).symm
  refine ⟨as ++ bs, by rw [upd_same, ex, ey, List.map_append], by rw [List.length_append, List.length_append, g2, k2], fun i c l hc hl => ?_⟩
  suffices z : H0 c = none ∧ H c = some (.lst (l.map V.int)) from ⟨z.1, same_upd np _ _ z.2⟩
  by_cases hi : i < as.length
  · rw [List.getElem?_append_left hi] at hc
    rw [List.getElem?_append_left (by omega)] at hl
    exact g3 i c l hc hl
  · rw [List.getElem?_append_right (by omega)] at hc
    rw [List.getElem?_append_right (by omega), ← g2] at hl
    exact k3 _ c l hc hl
section
variable {P : Program} {w : World} {K : PySem.W.Frag} {mg : Str → Option Value} {base : Heap}
theorem ok_subsN {f : Addr} {fd : FuncData} (F : Fun K "_law_subsets" "_law_subsets" s__law_subsets f fd) (M : Mg mg) : FnOk P w K mg base CX0 1 f fd ["entries"] sp_subsN := by
  refine F.ok sc__law_subsets (fun vs H Q E h => ?_) (fun cdv A outer s H vs Q E hr h => ?_)
  · obtain ⟨a, es, rfl, _⟩ := h
    rfl
  · obtain ⟨a, es, rfl, ha, hl, q⟩ := h
    refine ⟨_, (pss_cons (ps_set (i := 1) sc__law_subsets.nd rfl (.inl rfl) (pe_lst (pa_cons (pe_lst pa_nil) pa_nil)))
      (pss_cons (ps_for PassesOwn.never rfl (pi_list (pv 0)) (pg_name (i := 2) sc__law_subsets.nd rfl (.inr rfl)) (pss_one (ps_set (i := 1) sc__law_subsets.nd rfl (.inl rfl) (pe_op op_cat (pv 1) (pe_lc (own := [("part", 3)]) (g := gName 3) (tt := tYes) rfl sc__law_subsets.nd (pi_list (pv 1)) (blkOk_by (N := N__law_subsets) (sc := defScope s__law_subsets) (by decide +kernel)) (fun _ _ _ _ _ => (pg_name (i := 3) sc__law_subsets.nd rfl (.inl rfl))) (fun _ _ _ _ _ => pts_nil) (fun _ _ _ _ _ => (pe_op op_cat (pv 3) (pe_lst (pa_cons (pv 2) pa_nil)))))))))
      (pss_one (ps_ret (pv 1))))), ?_⟩
    refine ⟨by show 0 ≤ sizeLine; decide, fun p1 n1 => ?_⟩
    have s1 := same_upd n1 (o := .lst [])
    have e1 : (upd H p1 (.lst [])) p1 = some (.lst (([] : List Int).map V.int)) := upd_same
    generalize upd H p1 (.lst []) = H1 at s1 e1
    refine ⟨by show 1 ≤ sizeLine; decide, fun p2 n2 => ?_⟩
    have s2 := same_upd n2 (o := .lst [.ref p1])
    have e2 : (upd H1 p2 (.lst [.ref p1])) p2 = some (.lst ([p1].map V.ref)) := upd_same
    generalize upd H1 p2 (.lst [.ref p1]) = H2 at s2 e2
    refine ⟨_, rfl, a, rfl, ⟨_, .of ((s1.trans s2) _ _ ha)⟩, ?_⟩
    refine for_list (K := K) (a := a) (xs := es.map V.int) (fun i σ Hi => ∃ (p : Addr) (z y : Option V), σ = [some (.ref a), some (.ref p), z, y] ∧ Same H Hi ∧ H p = none ∧ LN H Hi p (subs (es.take i))) ⟨p2, none, none, rfl, s1.trans s2, s1.free n2, [p1], e2, rfl, fun i b l hb hl => ?_⟩ (fun i σ Hi _ hp => by obtain ⟨p, z, y, rfl, si, _⟩ := hp; exact .of (si _ _ ha)) (fun i x σ Hi hx hp => ?_) (fun σ Hn hp => ?_)
    · match i, hb, hl with
      | 0, hb, hl =>
        cases hb
        cases hl
        exact ⟨n1, s2 _ _ e1⟩
      | i + 1, hb, _ => simp at hb
    · obtain ⟨p, z, y, rfl, si, np, ll⟩ := hp
      rw [List.getElem?_map] at hx
      obtain ⟨e, he, rfl⟩ := Option.map_eq_some_iff.mp hx
      have hi : i < es.length := (List.getElem?_eq_some_iff.mp he).1
      have et : es.take (i + 1) = es.take i ++ [e] := by rw [List.take_add_one, he]; rfl
      have lsub : (subs (es.take i)).length ≤ 1024 := by
        rw [subs_len, List.length_take]
        exact Nat.le_trans (Nat.pow_le_pow_right (by decide) (show min i es.length ≤ 10 by omega)) (by decide)
      obtain ⟨as, g1, g2, g3⟩ := id ll
      obtain ⟨as', k1, k2, k3⟩ := ll.get
      refine ⟨_, rfl, _, rfl, p, rfl, ⟨_, .of k1⟩, fun D nD => ?_⟩
      refine lc_list (K := K) (a := p) (xs := as'.map V.ref) (fun j Hj => Same Hi Hj ∧ LN H Hj D ((subs (es.take i)).take j |>.map (· ++ [e]))) ⟨same_upd nD, [], upd_same, rfl, fun i b l hb _ => by simp at hb⟩ (fun j Hj _ hp => .of (hp.1 _ _ k1)) (fun j x Hj hx hp => ?_) (fun Hn hp => ?_)
      · obtain ⟨sj, cs, c1, c2, c3⟩ := hp
        obtain ⟨b, l, rfl, hl, hb⟩ := k3 j x hx
        have hj : j < (subs (es.take i)).length := (List.getElem?_eq_some_iff.mp hl).1
        refine ⟨rfl, ?_⟩
        refine ⟨_, rfl, _, rfl, by show 1 ≤ sizeLine; decide, fun q1 nq1 => ?_⟩
        have t1 := same_upd nq1 (o := .lst [.int e])
        have eq1 : (upd Hj q1 (.lst [.int e])) q1 = some (.lst [.int e]) := upd_same
        generalize upd Hj q1 (.lst [.int e]) = Hj1 at t1 eq1
        have ll1 : l.length ≤ 10 := by
          have := subs_le _ l (List.mem_of_getElem? hl)
          have h2 := this.1
          rw [List.length_take] at h2
          omega
        refine ⟨b, q1, _, _, rfl, rfl, (sj.trans t1) _ _ hb, eq1, by rw [List.length_map]; exact Nat.le_trans (m := 100) (by show _ + 1 ≤ 100; omega) (by decide), fun q2 nq2 => ?_⟩
        have t2 := same_upd nq2 (o := .lst (l.map V.int ++ [.int e]))
        have eq2 : (upd Hj1 q2 (.lst (l.map V.int ++ [.int e]))) q2 = some (.lst ((l ++ [e]).map V.int)) := by rw [upd_same, List.map_append]; rfl
        generalize upd Hj1 q2 (.lst (l.map V.int ++ [.int e])) = Hj2 at t2 eq2
        have sj2 := (sj.trans t1).trans t2
        have cD := (t1.trans t2) _ _ c1
        refine ⟨_, cD, ?_, ?_, ?_⟩
        · rw [List.length_map, c2, List.length_map, List.length_take]
          exact Nat.lt_of_le_of_lt (m := 1024) (by omega) (by decide)
        · intro x o hx'
          rw [upd_ne (ne_of_none hx' nD)]
          exact sj2 _ _ hx'
        · refine ⟨cs ++ [q2], by rw [upd_same, List.map_append]; rfl, ?_, fun i' b' l' hb' hl' => ?_⟩
          · rw [List.length_append, c2, List.take_add_one, hl, List.map_append, List.length_append]
            rfl
          · have lc : cs.length = j := by rw [c2, List.length_map, List.length_take]; omega
            have nbD : b' ≠ D := by
              by_cases hi' : i' < cs.length
              · rw [List.getElem?_append_left hi'] at hb'
                intro z
                subst z
                -- the new list's own address is not one of its items
                have := (c3 i' b' _ hb' (List.getElem?_eq_getElem (by rw [← c2]; exact hi'))).2
                rw [c1] at this
                have e := HO.lst.inj (Option.some.inj this)
                cases cs with
                | nil => simp at hi'
                | cons c cs =>
                  rw [List.map_cons] at e
                  generalize (List.map (fun x => x ++ [_]) _)[i'] = w at e
                  cases w with
                  | nil => cases e
                  | cons w1 w2 => rw [List.map_cons] at e; exact nomatch (List.cons.inj e).1
              · rw [List.getElem?_append_right (by omega)] at hb'
                have : b' = q2 := by
                  cases h : i' - cs.length with
                  | zero => rw [h] at hb'; exact (Option.some.inj hb').symm
                  | succ k => rw [h] at hb'; simp at hb'
                subst this
                exact (ne_of_none (t1 _ _ c1) nq2).symm
            rw [upd_ne nbD]
            rw [List.take_add_one, hl, List.map_append] at hl'
            by_cases hi' : i' < cs.length
            · rw [List.getElem?_append_left hi'] at hb'
              rw [List.getElem?_append_left (by rw [← c2]; exact hi')] at hl'
              exact ⟨(c3 i' b' l' hb' hl').1, (t1.trans t2) _ _ (c3 i' b' l' hb' hl').2⟩
            · rw [List.getElem?_append_right (by omega)] at hb'
              rw [List.getElem?_append_right (by rw [← c2]; omega), ← c2] at hl'
              cases h : i' - cs.length with
              | zero =>
                rw [h] at hb' hl'
                have e1 : q2 = b' := Option.some.inj hb'
                have e2 : l ++ [e] = l' := Option.some.inj hl'
                subst e1 e2
                exact ⟨((si.trans sj).trans t1).free nq2, eq2⟩
              | succ k => rw [h] at hb'; simp at hb'
      · obtain ⟨sn, ll2⟩ := hp
        have el : (as'.map V.ref).length = (subs (es.take i)).length := by rw [List.length_map, k2]
        rw [el, List.take_of_length_le (Nat.le_refl _)] at ll2
        obtain ⟨bs, b1, b2, b3⟩ := id ll2
        refine ⟨p, D, _, _, rfl, rfl, sn _ _ k1, b1, ?_, fun q' nq' => ?_⟩
        · rw [List.length_map, List.length_map, k2, b2, List.length_map]
          exact Nat.le_trans (m := 2048) (by omega) (by decide)
        · refine ⟨q', _, _, rfl, (si.trans sn).trans (same_upd nq'), (si.trans sn).free nq', ?_⟩
          rw [et, subs_snoc]
          exact LN.app (q := q') nq' (ll.ext sn) ll2 (sn _ _ k1) b1
    · obtain ⟨p, z, y, rfl, si, np, ll⟩ := hp
      rw [List.length_map, List.take_of_length_le (Nat.le_refl _)] at ll
      exact ⟨_, rfl, q Hn p si np ll⟩
end

/-! ### a law's input rows -/
def sp_inp : Sp := fun vs H Q _ => ∃ (d c wa : Addr) (ws : List Nat) (most : Nat), vs = [.ref d, .ref wa, .int ((most : Nat) : Int)] ∧ Dr H d c ∧ wa ≠ d ∧ H wa = some (.lst (ws.map fun n : Nat => V.int ((n : Nat) : Int))) ∧ (∀ n ∈ ws, 1 ≤ n ∧ n ≤ 4) ∧ 1 ≤ ws.length ∧ ws.length ≤ 4 ∧ most ≤ 8 ∧
  ∀ (H' : Hp) (E : Addr) (xs : List (Addr × En)), Fd d H H' → Dr H' d c → H E = none → E ≠ d → E ≠ c → H' E = some (.lst (xs.map fun x => V.ref x.1)) → (∀ x ∈ xs, EnAt H' x) → (xs.map fun x => x.2.n).Pairwise (· < ·) → (∀ x ∈ xs, 0 ≤ x.2.n ∧ x.2.n < 1000 ∧ x.2.t < ws.length ∧ x.2.r ≠ [] ∧ x.2.r.length ≤ 4 ∧ ∀ v ∈ x.2.r, v.sm) → xs.length ≤ most → Q (.ref E) H'
section
variable {P : Program} {w : World} {K : PySem.W.Frag} {mg : Str → Option Value} {base : Heap}
theorem ok_inp {f : Addr} {fd : FuncData} (F : Fun K "_law_inputs" "_law_inputs" s__law_inputs f fd) (M : Mg mg) (c__law_next : Cl P w K mg base 1 "_law_next" sp_next) (c__law_cell : Cl P w K mg base 2 "_law_cell" sp_cell) : FnOk P w K mg base CX0 3 f fd ["draw", "widths", "most"] sp_inp := by
  refine F.ok sc__law_inputs (fun vs H Q E h => ?_) (fun cdv A outer s H vs Q E hr h => ?_)
  · obtain ⟨d, c, wa, ws, most, rfl, _⟩ := h
    rfl
  · obtain ⟨d, c, wa, ws, most, rfl, dr, nwd, hw, hws, lw1, lw4, hmost, q⟩ := h
    refine ⟨_, (pss_cons (ps_set (i := 3) sc__law_inputs.nd rfl (.inl rfl) (pe_lst pa_nil))
      (pss_cons (ps_set (i := 4) sc__law_inputs.nd rfl (.inl rfl) (pe_u c__law_next hr (by first | decide | omega) (by rfl) (pa_cons (pv 0) (pa_cons pe_int pa_nil))))
      (pss_cons (ps_for PassesOwn.never rfl (pi_range1 (by rfl) M.range (pa_cons (pe_u c__law_next hr (by first | decide | omega) (by rfl) (pa_cons (pv 0) (pa_cons (pe_op op_add (pv 2) pe_int) pa_nil))) pa_nil)) (pg_name (i := 5) sc__law_inputs.nd rfl (.inl rfl)) (pss_cons (ps_set (i := 6) sc__law_inputs.nd rfl (.inl rfl) (pe_u c__law_next hr (by first | decide | omega) (by rfl) (pa_cons (pv 0) (pa_cons (pe_callB (len_seqK K) (by rfl) M.len PySem.boot_len (pa_cons (pv 1) pa_nil)) pa_nil))))
      (pss_cons (ps_expr (pe_bmK K PySem.F.plainAttrs_list PySem.F.slot_list_append PySem.F.type_list_append mt_append (pv 3) (pa_cons (pe_tup (pa_cons (pv 4) (pa_cons (pv 6) (pa_cons (pe_callTy (tupleK K) (by rfl) M.tuple (by decide +kernel) (pa_cons (pe_lc (own := [("j", 7)]) (g := gName 7) (tt := tYes) rfl sc__law_inputs.nd (pi_range1 (by rfl) M.range (pa_cons (pe_ix (ix_listK K) (pv 1) (pv 6) (fun _ _ => rfl)) pa_nil)) (blkOk_by (N := N__law_inputs) (sc := defScope s__law_inputs) (by decide +kernel)) (fun _ _ _ _ _ => (pg_name (i := 7) sc__law_inputs.nd rfl (.inl rfl))) (fun _ _ _ _ _ => pts_nil) (fun _ _ _ _ _ => (pe_u c__law_cell hr (by first | decide | omega) (by rfl) (pa_cons (pv 0) pa_nil)))) pa_nil)) pa_nil)))) pa_nil)))
      (pss_one (ps_set (i := 4) sc__law_inputs.nd rfl (.inl rfl) (pe_op op_add (pe_op op_add (pv 4) pe_int) (pe_op op_mul (pe_u c__law_next hr (by first | decide | omega) (by rfl) (pa_cons (pv 0) (pa_cons pe_int pa_nil))) (pe_u c__law_next hr (by first | decide | omega) (by rfl) (pa_cons (pv 0) (pa_cons pe_int pa_nil))))))))))
      (pss_one (ps_ret (pv 3)))))), ?_⟩
    refine ⟨Nat.zero_le _, fun R nR => ?_⟩
    have sR := same_upd nR (o := .lst [])
    have eR : (upd H R (.lst [])) R = some (.lst []) := upd_same
    have nRd := dr.nd nR
    have nRc := dr.nc nR
    have nwR : wa ≠ R := ne_of_none hw nR
    generalize upd H R (.lst []) = H1 at sR eR ⊢
    refine ⟨_, rfl, d, c, 3, rfl, dr.ext sR, by decide, by decide, fun H2 n2 f2 _ dr2 n20 n21 => ?_⟩
    refine ⟨_, rfl, _, rfl, _, _, rfl, rfl, d, c, _, rfl, dr2, by omega, by omega, fun H3 n3 f3 _ dr3 n30 n31 => ?_⟩
    have f03 : Fd d H H3 := ((Fd.of sR).trans f2).trans f3
    have eR3 : H3 R = some (.lst []) := f3 _ _ nRd (f2 _ _ nRd eR)
    refine ⟨_, rfl, by omega, by omega, ?_⟩
    refine for_range (lo := 0) (n := n3.toNat) (fun i σ Hi => Fd d H Hi ∧ Dr Hi d c ∧ ∃ (xs : List (Addr × En)) (num : Int) (z5 z6 z7 : Option V), σ = [some (.ref d), some (.ref wa), some (.int ((most : Nat) : Int)), some (.ref R), some (.int num), z5, z6, z7] ∧ Hi R = some (.lst (xs.map fun x => V.ref x.1)) ∧ (∀ x ∈ xs, EnAt Hi x) ∧ xs.length = i ∧ (xs.map fun x => x.2.n).Pairwise (· < ·) ∧ (∀ x ∈ xs, 0 ≤ x.2.n ∧ x.2.n < num ∧ x.2.t < ws.length ∧ x.2.r ≠ [] ∧ x.2.r.length ≤ 4 ∧ ∀ v ∈ x.2.r, v.sm) ∧ 0 ≤ num ∧ num ≤ 2 + 50 * (i : Int)) ⟨f03, dr3, [], n2, _, _, _, rfl, eR3, (fun _ h => by cases h), rfl, .nil, (fun _ h => by cases h), n20, by omega⟩ (fun i σ Hi hi hp => ?_) (fun σ Hn hp => ?_)
    · obtain ⟨fi, di, xs, num, z5, z6, z7, rfl, eRi, hat, lxs, hpw, hxs, num0, num1⟩ := hp
      have hwi := fi _ _ nwd hw
      refine ⟨_, rfl, _, rfl, wa, _, rfl, .inl (.of hwi), d, c, _, rfl, di, by rw [List.length_map]; omega, by rw [List.length_map]; omega, fun H4 t f4 _ dr4 t0 t1 => ?_⟩
      rw [List.length_map] at t1
      obtain ⟨t, rfl⟩ := Int.eq_ofNat_of_zero_le t0
      have ht : t < ws.length := by omega
      have hwt := hws ws[t] (List.getElem_mem ht)
      have hw4 := f4 _ _ nwd hwi
      have eR4 := f4 _ _ nRd eRi
      refine ⟨_, rfl, .inl ⟨rfl, _, .inl (.inl eR4)⟩, _, rfl, _, rfl, _, rfl, _, rfl, wa, _, _, _, rfl, rfl, .of hw4, atI_nat (show (ws.map fun n : Nat => V.int ((n : Nat) : Int))[t]? = some (V.int ((ws[t] : Nat) : Int)) by rw [List.getElem?_map, List.getElem?_eq_getElem ht]; rfl), ?_⟩
      generalize ws[t] = wd at hwt
      refine ⟨_, rfl, by omega, by omega, fun D nD => ?_⟩
      refine lc_range (lo := 0) (n := ((wd : Nat) : Int).toNat) (fun j Hj => D ≠ d ∧ D ≠ c ∧ Fd d H4 Hj ∧ Dr Hj d c ∧ ∃ us : List Vl, us.length = j ∧ (∀ u ∈ us, u.sm) ∧ Hj D = some (.lst (us.map Vl.v))) ⟨dr4.nd nD, dr4.nc nD, Fd.new nD, dr4.ext (same_upd nD), [], rfl, (fun _ h => by cases h), upd_same⟩ (fun j Hj hj hp => ?_) (fun H5 hp => ?_)
      · obtain ⟨n1, n2', fj, drj, us, hl, ho, ev⟩ := hp
        refine ⟨rfl, ?_⟩
        refine ⟨_, rfl, d, c, rfl, drj, fun H' v f' dr' hv => ?_⟩
        refine ⟨_, f' _ _ n1 ev, ?_, n1, n2', ?_, dr'.upd n1 n2', us ++ [v], ?_, ?_, ?_⟩
        · rw [List.length_map, hl]
          exact Nat.lt_of_lt_of_le (m := 10) (by omega) (by decide)
        · intro b o nb e
          rw [upd_ne (ne_of_none e nD)]
          exact f' _ _ nb (fj _ _ nb e)
        · rw [List.length_append, hl]
          rfl
        · intro y hy
          rcases List.mem_append.mp hy with hy | hy
          · exact ho y hy
          · rw [List.mem_singleton.mp hy]
            exact hv
        · rw [upd_same, List.map_append]
          rfl
      obtain ⟨n1, n2', f5, dr5, us, hl, ho, ev⟩ := hp
      have hl : us.length = wd := hl
      refine ⟨D, _, rfl, .inl ⟨.of ev, fun T nT => ?_⟩⟩
      have dr6 := dr5.ext (same_upd nT (o := .tup (us.map Vl.v)))
      have sT := same_upd nT (o := .tup (us.map Vl.v))
      have eT : (upd H5 T (.tup (us.map Vl.v))) T = some (.tup (us.map Vl.v)) := upd_same
      generalize upd H5 T (.tup (us.map Vl.v)) = H6 at dr6 sT eT ⊢
      refine ⟨by show 3 ≤ sizeLine; decide, fun p np => ?_⟩
      have sp := same_upd np (o := .tup [.int num, .int ((t : Nat) : Int), .ref T])
      have ep : (upd H6 p (.tup [.int num, .int ((t : Nat) : Int), .ref T])) p = some (.tup [.int num, .int ((t : Nat) : Int), .ref T]) := upd_same
      have dr7 := dr6.ext sp
      generalize upd H6 p (.tup [.int num, .int ((t : Nat) : Int), .ref T]) = H7 at sp ep dr7 ⊢
      have f47 : Fd d H4 H7 := (f5.trans (Fd.of sT)).trans (Fd.of sp)
      have fi7 := f4.trans f47
      have eR7 := f47 _ _ nRd eR4
      refine ⟨R, _, _, rfl, rfl, eR7, by rw [List.length_map, lxs]; exact Nat.lt_of_le_of_lt (m := 10) (by omega) (by decide), ?_⟩
      have dr8 := dr7.upd nRd nRc (o := .lst (xs.map (fun x => V.ref x.1) ++ [.ref p]))
      refine ⟨_, rfl, _, _, rfl, rfl, _, rfl, d, c, 2, rfl, dr8, by decide, by decide, fun H9 r9 f9 _ dr9 r90 r91 => ?_⟩
      refine ⟨_, rfl, d, c, 50, rfl, dr9, by decide, by decide, fun Ha ra fa _ dra ra0 ra1 => ?_⟩
      refine ⟨_, _, rfl, rfl, .inl ⟨by omega, by omega⟩, _, _, rfl, rfl, ?_⟩
      have hmul : 0 ≤ r9 * ra ∧ r9 * ra ≤ 49 := by
        have : r9 = 0 ∨ r9 = 1 := by omega
        rcases this with rfl | rfl
        · simp
        · rw [Int.one_mul]; omega
      have eR8 : (upd H7 R (.lst (xs.map (fun x => V.ref x.1) ++ [V.ref p]))) R = some (.lst ((xs ++ [(p, (⟨num, t, T, us⟩ : En))]).map fun x => V.ref x.1)) := by
        rw [upd_same, List.map_append]
        rfl
      have tk78 : Tk H7 (upd H7 R (.lst (xs.map (fun x => V.ref x.1) ++ [V.ref p]))) := Tk.upd fun ys z => by rw [eR7] at z; cases z
      have f8a := f9.trans fa
      have tk8a : Tk (upd H7 R (.lst (xs.map (fun x => V.ref x.1) ++ [V.ref p]))) Ha := Tk.fd dr8 f8a
      have tk : Tk Hi Ha := (Tk.fd di fi7).trans (tk78.trans tk8a)
      refine ⟨fun b o nb e => ?_, dra, xs ++ [(p, (⟨num, t, T, us⟩ : En))], _, _, _, _, rfl, f8a _ _ nRd eR8, fun x hx => ?_, by rw [List.length_append, lxs]; rfl, ?_, fun x hx => ?_, by omega, by omega⟩
      · refine f8a _ _ nb ?_
        rw [upd_ne (ne_of_none e nR)]
        exact fi7 _ _ nb (fi _ _ nb e)
      · rcases List.mem_append.mp hx with hx | hx
        · exact (hat x hx).tk tk
        · rw [List.mem_singleton.mp hx]
          exact ⟨tk8a _ _ (tk78 _ _ ep), tk8a _ _ (tk78 _ _ (sp _ _ eT))⟩
      · rw [List.map_append, List.pairwise_append]
        refine ⟨hpw, List.pairwise_singleton _ _, fun x hx y hy => ?_⟩
        obtain ⟨z, hz, rfl⟩ := List.mem_map.mp hx
        rw [List.mem_singleton.mp hy]
        exact (hxs z hz).2.1
      · rcases List.mem_append.mp hx with hx | hx
        · obtain ⟨h1, h2, h3⟩ := hxs x hx
          exact ⟨h1, by omega, h3⟩
        · rw [List.mem_singleton.mp hx]
          refine ⟨num0, by show num < _; omega, ht, fun z => ?_, by show us.length ≤ 4; omega, ho⟩
          have z : us = [] := z
          rw [z] at hl
          simp at hl
          omega
    · obtain ⟨fn, dn, xs, num, z5, z6, z7, rfl, eRn, hat, lxs, hpw, hxs, num0, num1⟩ := hp
      refine ⟨_, rfl, q Hn R xs fn dn nR nRd nRc eRn hat hpw (fun x hx => ?_) (by omega)⟩
      obtain ⟨h1, h2, h3⟩ := hxs x hx
      exact ⟨h1, by omega, h3⟩
end

/-! ### (x,) * n: once, or more often -/
theorem tuple_mul1 (l : Addr) (items : Array Value) (n : Nat) (dd : Option Addr) (sl : Array (Option Value)) (u : Tok) :
    Meets (Builtin.«tuple.__mul__» ⟨[.ref l, .int 1 u], []⟩) (fun _ R s => s.heap.get? l = some { cls := .type "tuple", dict := dd, data := .seq items n, slots := sl } ∧ R (.ok (.ret (.ref l))) s) :=
  .of_wp fun prog w A R s h => by
    obtain ⟨hp, g, d, tk, os⟩ := s
    obtain ⟨hl, h⟩ := h
    have f1 := AutoSeq1.idx_int
    have c1 : (items.isEmpty || (1 : Int) == 1) = true := by simp
    wp_walk using wpAny_loadPart' hl
    repeat (first
      | (refine wpAny_ite_false (by decide) ?_; wp_walk using wpAny_loadPart' hl)
      | (refine wpAny_ite_true (decide_eq_true c1) ?_; wp_walk using wpAny_loadPart' hl))
    exact ⟨_, rfl, h⟩
def rRepT1 (K : PySem.W.Frag) : R2 := fun x y H Q => ∃ l k xs, x = .ref l ∧ y = .int k ∧ SqT K H l xs ∧ xs ≠ [] ∧ 1 ≤ k ∧ k ≤ 1000 ∧ xs.length ≤ 1000 ∧ (k = 1 → Q (.ref l) H) ∧ (2 ≤ k → ∀ p, H p = none → Q (.ref p) (upd H p (.tup (List.replicate k.toNat xs).flatten)))
theorem op_repT1 {X : Cx} (K : PySem.W.Frag) (e : X.K = K := by rfl) : OpR X (binaryOp .Mult) (rRepT1 K) := by
  subst e
  intro pins s σ H x y v u Q I rx ry h
  obtain ⟨l, k, xs, rfl, rfl, hT, hne, h1, h2, hz, q1, q2⟩ := h
  by_cases hk : 2 ≤ k
  · exact op_repT pins s σ H _ _ v u Q I rx ry ⟨l, k, xs, rfl, rfl, hT, hne, hk, h2, hz, q2 hk⟩
  · obtain rfl : k = 1 := by omega
    cases rx
    obtain ⟨t, rfl⟩ := ry
    obtain ⟨its, r, ⟨⟨cls, dd, data, sl⟩, ho, hc, n, hd⟩, hs⟩ := I.tuple hT
    simp only at hc hd
    subst hc hd
    exact wpAny_binaryOp_repeat_ref (T := "tuple") (U := "int") (by decide) ⟨_, ho, rfl⟩ (fun s' => typeIs_int s' 1 t) noFill_tuple_mul F.fills_int_mul F.slot_int_rmul repeat_tuple F.slot_int_index.lookup
      (call_meets F.slot_int_rmul (typeIs_int s 1 t) F.entry_int_rmul (F.args_int_rmul_2 _ _) (int_rmul_tuple 1 t l its.toArray n dd sl)
        ⟨ho, rfl, ⟨_, ho, rfl⟩, call_meets F.slot_tuple_mul ⟨_, ho, rfl⟩ F.entry_tuple_mul (F.args_tuple_mul_2 _ _) (tuple_mul1 l its.toArray n dd sl t) ⟨ho, ⟨.ref l, H, I, rfl, q1 rfl⟩⟩⟩)

/-! ### data that repr shows: how long, how deep -/
structure Shw (d : PyData) (b k : Nat) : Prop where
  sh : d.showable = true
  nd : d.hasDict = false
  lf : d.leavesShort 32 = true
  bk : d.bulk ≤ b
  dp : d.depth ≤ k
structure ShwA (ds : List PyData) (b k : Nat) : Prop where
  sh : PyData.showableAll ds = true
  nd : PyData.hasDictAll ds = false
  lf : PyData.leavesShortAll 32 ds = true
  bk : PyData.bulkAll ds ≤ b
  dp : PyData.depthAll ds ≤ k
theorem ShwA.nil {k : Nat} : ShwA [] 0 k := ⟨rfl, rfl, rfl, Nat.le_refl _, Nat.zero_le _⟩
theorem ShwA.cons {d : PyData} {ds : List PyData} {b c k : Nat} (h : Shw d b k) (g : ShwA ds c k) : ShwA (d :: ds) (b + 1 + c) k := by
  refine ⟨?_, ?_, ?_, ?_, ?_⟩
  · unfold PyData.showableAll
    rw [h.sh, g.sh]
    rfl
  · unfold PyData.hasDictAll
    rw [h.nd, g.nd]
    rfl
  · unfold PyData.leavesShortAll
    rw [h.lf, g.lf]
    rfl
  · unfold PyData.bulkAll
    have := h.bk
    have := g.bk
    omega
  · unfold PyData.depthAll
    exact Nat.max_le.mpr ⟨h.dp, g.dp⟩
theorem ShwA.tup {ds : List PyData} {b k : Nat} (h : ShwA ds b k) : Shw (.tuple ds) b (k + 1) := by
  refine ⟨?_, ?_, ?_, ?_, ?_⟩
  · unfold PyData.showable
    exact h.sh
  · unfold PyData.hasDict
    exact h.nd
  · unfold PyData.leavesShort
    exact h.lf
  · unfold PyData.bulk
    exact h.bk
  · unfold PyData.depth
    have := h.dp
    omega
theorem ShwA.lst {ds : List PyData} {b k : Nat} (h : ShwA ds b k) : Shw (.list ds) b (k + 1) := by
  refine ⟨?_, ?_, ?_, ?_, ?_⟩
  · unfold PyData.showable
    exact h.sh
  · unfold PyData.hasDict
    exact h.nd
  · unfold PyData.leavesShort
    exact h.lf
  · unfold PyData.bulk
    exact h.bk
  · unfold PyData.depth
    have := h.dp
    omega
theorem Shw.le {d : PyData} {b k b' k' : Nat} (h : Shw d b k) (hb : b ≤ b') (hk : k ≤ k') : Shw d b' k' := ⟨h.sh, h.nd, h.lf, Nat.le_trans h.bk hb, Nat.le_trans h.dp hk⟩
theorem ShwA.le {d : List PyData} {b k b' k' : Nat} (h : ShwA d b k) (hb : b ≤ b') (hk : k ≤ k') : ShwA d b' k' := ⟨h.sh, h.nd, h.lf, Nat.le_trans h.bk hb, Nat.le_trans h.dp hk⟩
theorem ShwA.all {b k : Nat} : ∀ {ds : List PyData}, (∀ d ∈ ds, Shw d b k) → ShwA ds (ds.length * (b + 1)) k
  | [], _ => ⟨rfl, rfl, rfl, by show 0 ≤ _; exact Nat.zero_le _, Nat.zero_le _⟩
  | d :: ds, h => (ShwA.cons (h d List.mem_cons_self) (ShwA.all fun x hx => h x (List.mem_cons_of_mem _ hx))).le (by rw [List.length_cons, Nat.add_mul, Nat.one_mul]; omega) (Nat.le_refl _)
theorem Shw.int {i : Int} (h : -1000000000000000 ≤ i ∧ i ≤ 1000000000000000) {k : Nat} : Shw (.int i) 0 k := by
  have hn : i.natAbs < 10 ^ 16 := by
    have : (10 : Nat) ^ 16 = 10000000000000000 := by decide
    omega
  refine ⟨?_, rfl, ?_, Nat.le_refl _, Nat.zero_le _⟩
  · unfold PyData.showable
    refine decide_eq_true ?_
    have : i.natAbs < 2 ^ 60 := by
      have e : (2 : Nat) ^ 60 = 1152921504606846976 := by decide
      omega
    have := PySem.Flt.log2_lt_of (by decide : 0 < 60) this
    omega
  · unfold PyData.leavesShort
    refine decide_eq_true ?_
    have e := int_text_length_le10 (k := 16) (by decide) hn
    show (Str.ofString (toString i)).length ≤ 32
    rw [PySem.ofString_length]
    omega
theorem Shw.non {k : Nat} : Shw .none 0 k := ⟨rfl, rfl, rfl, Nat.le_refl _, Nat.zero_le _⟩
theorem Shw.str {x : Str} {k : Nat} (h : (x.cps.toList.all fun c => decide (c < 16 ^ 8)) = true) : Shw (.str x) x.cps.size k := ⟨rfl, rfl, h, Nat.le_refl _, Nat.zero_le _⟩
theorem Shw.repr {d : PyData} {b k : Nat} (h : Shw d b k) (hb : b ≤ 400000) (hk : k ≤ 50) : d.showable = true ∧ d.hasDict = false ∧ d.depth ≤ 50 ∧ d.shown.length ≤ sizeLine := by
  refine ⟨h.sh, h.nd, Nat.le_trans h.dp hk, ?_⟩
  have h1 := PyData.shown_le_bulk 32 (by decide) d h.lf
  have h2 := h.bk
  have h3 : (14000000 : Nat) ≤ sizeLine := by decide
  omega

theorem vl_shw {v : Vl} (h : v.ok) {k : Nat} : Shw v.p 1 k := by
  cases v with
  | n => exact Shw.non.le (by decide) (Nat.le_refl _)
  | i k => exact (Shw.int h).le (by decide) (Nat.le_refl _)
  | s l =>
    rcases h with rfl | rfl
    · exact Shw.str (by decide +kernel)
    · exact Shw.str (by decide +kernel)

def sp_law (K : PySem.W.Frag) : Sp := fun vs H Q _ => ∃ (a : Addr) (ns : List Int), vs = [.ref a] ∧ SqL K H a (ns.map V.int) ∧ ns.length ≤ 63 ∧ ∀ H', Q (.bl true) H'
/-- the input rows as data -/
def enD (e : En) : PyData := .tuple [.int e.n, .int ((e.t : Nat) : Int), rowP e.r]
def ensD (xs : List (Addr × En)) : PyData := .list (xs.map fun x => enD x.2)
theorem dp_ens {K : PySem.W.Frag} {H : Hp} {E : Addr} {xs : List (Addr × En)} (h : H E = some (.lst (xs.map fun x => V.ref x.1))) (hat : ∀ x ∈ xs, EnAt H x) : Dp K H (.ref E) (ensD xs) := by
  refine .lst (.of h) ?_
  clear h
  induction xs with
  | nil => exact .nil
  | cons x xs ih =>
    have hx := hat x List.mem_cons_self
    exact .cons (.tup (.of hx.1) (.cons (.int _) (.cons (.int _) (.cons (dp_rowP (.of hx.2)) .nil)))) (ih fun y hy => hat y (List.mem_cons_of_mem _ hy))
theorem ens_shw {xs : List (Addr × En)} (h : ∀ x ∈ xs, 0 ≤ x.2.n ∧ x.2.n < 1000 ∧ x.2.t < 4 ∧ x.2.r.length ≤ 4 ∧ ∀ v ∈ x.2.r, v.ok) (hl : xs.length ≤ 6) : Shw (ensD xs) 200 6 := by
  have hs : ∀ d ∈ xs.map (fun x => enD x.2), Shw d 20 4 := fun d hd => by
    obtain ⟨x, hx, rfl⟩ := List.mem_map.mp hd
    obtain ⟨h1, h2, h3, h4, h5⟩ := h x hx
    have hr : ShwA (x.2.r.map Vl.p) (x.2.r.length * 2) 2 := by
      have := ShwA.all (ds := x.2.r.map Vl.p) (b := 1) (k := 2) fun d hd => by
        obtain ⟨v, hv, rfl⟩ := List.mem_map.mp hd
        exact vl_shw (h5 v hv)
      rw [List.length_map] at this
      exact this
    exact (ShwA.tup (ShwA.cons (Shw.int (by omega)) (ShwA.cons (Shw.int (by omega)) (ShwA.cons (hr.tup.le (Nat.le_refl _) (Nat.le_refl _)) ShwA.nil)))).le (by omega) (Nat.le_refl _)
  have := ShwA.all hs
  rw [List.length_map] at this
  exact this.lst.le (by omega) (by omega)
def rowsD (rs : List (List Vl)) : PyData := .list (rs.map rowP)
theorem sh_rowP {n : Nat} {r : List Vl} (h : r.length ≤ 100000) : Sh (n + 1) (rowP r) := .tup (by rw [List.length_map]; exact h) fun d hd => by
  obtain ⟨v, _, rfl⟩ := List.mem_map.mp hd
  cases v <;> constructor
theorem sh_rows {n : Nat} {rs : List (List Vl)} (hl : rs.length ≤ 1000) (h : ∀ r ∈ rs, r.length ≤ 1000) : Sh (n + 2) (rowsD rs) := .lst (by rw [List.length_map]; omega) fun d hd => by
  obtain ⟨r, hr, rfl⟩ := List.mem_map.mp hd
  exact sh_rowP (by have := h r hr; omega)
theorem dp_rows {K : PySem.W.Frag} {H : Hp} {a : Addr} {α : Type} (pa : α → Addr) (pr : α → List Vl) {zs : List α} (h : H a = some (.lst (zs.map fun x => V.ref (pa x)))) (hat : ∀ x ∈ zs, H (pa x) = some (.tup ((pr x).map Vl.v))) : Dp K H (.ref a) (rowsD (zs.map pr)) := by
  refine .lst (.of h) ?_
  clear h
  induction zs with
  | nil => exact .nil
  | cons x xs ih => exact .cons (dp_rowP (.of (hat x List.mem_cons_self))) (ih fun y hy => hat y (List.mem_cons_of_mem _ hy))
theorem map_inj {α β : Type} {f : α → β} : ∀ {l : List α} {x y : α}, (l.map f).Nodup → x ∈ l → y ∈ l → f x = f y → x = y
  | z :: l, x, y, h, hx, hy, e => by
    rw [List.map_cons, List.nodup_cons] at h
    rcases List.mem_cons.mp hx with ex | hx'
    · rcases List.mem_cons.mp hy with ey | hy'
      · rw [ex, ey]
      · exact absurd (List.mem_map.mpr ⟨y, hy', by rw [← e, ex]⟩) h.1
    · rcases List.mem_cons.mp hy with ey | hy'
      · exact absurd (List.mem_map.mpr ⟨x, hx', by rw [e, ey]⟩) h.1
      · exact map_inj h.2 hx' hy' e
theorem asc_nd {l : List (List Vl)} (h : l.Pairwise (fun x y => rlt x y = true)) : l.Nodup := h.imp fun {x y} h e => by
  subst e
  rw [rlt_asym _ _ h] at h
  cases h
section
variable {P : Program} {w : World} {K : PySem.W.Frag} {mg : Str → Option Value} {base : Heap}
set_option maxHeartbeats 8000000 in
theorem ok_law {f C : Addr} {fd : FuncData} (F : Fun K "law" "law" s_law f fd) (M : Mg mg) (c__law_draw : Cl P w K mg base 1 "_law_draw" (sp_draw K)) (c__law_next : Cl P w K mg base 1 "_law_next" sp_next) (c__law_inputs : Cl P w K mg base 3 "_law_inputs" sp_inp) (c_Diagrams___init__ : ClC P w K mg base 1 "Diagrams" C (sp_dinit C K)) (c__law_ordered : Cl P w K mg base 5 "_law_ordered" (sp_lord K)) (c_entry_candidates : Cl P w K mg base 13 "entry_candidates" (sp_ecand C K)) (c__law_subsets : Cl P w K mg base 1 "_law_subsets" sp_subsN)
    (c__law_same : Cl P w K mg base 5 "_law_same" (sp_same K 4)) (c_Diagrams_holds : ClM P w K mg base 2 C "holds" (sp_holds C K)) (c_condition_of : Cl P w K mg base 1 "condition_of" (sp_cof K)) : CallerOk P w K mg base f fd "script" (sp_law K) := by
  refine okG_of (k := 14) F sc_law ⟨rfl, by decide, by decide⟩ (fun cdv s H v Q hr h => ?_)
  obtain ⟨a, ns, hv, hS, _, q⟩ := h
  cases hv
  obtain ⟨t, ht', tail⟩ : ∃ t, PSs (cxOf CX0 P w K mg base N_law "law" (defScope s_law) f cdv callerA [] s H E0).nox ((defBody s_law).drop 4) t ∧ ∀ (H5 : Hp) (d W Ea : Addr) (ws : List Nat) (xs : List (Addr × En)) (z4 z5 z6 : Option V), H5 W = some (.lst (ws.map fun n : Nat => V.int ((n : Nat) : Int))) → (∀ n ∈ ws, 1 ≤ n ∧ n ≤ 2) → ws.length ≤ 2 → H5 Ea = some (.lst (xs.map fun x => V.ref x.1)) → (∀ x ∈ xs, EnAt H5 x) → (xs.map fun x => x.2.n).Pairwise (· < ·) → (∀ x ∈ xs, 0 ≤ x.2.n ∧ x.2.n < 1000 ∧ x.2.t < ws.length ∧ x.2.r ≠ [] ∧ x.2.r.length ≤ 4 ∧ ∀ v ∈ x.2.r, v.sm) → xs.length ≤ 6 →
      t { nx := fun _ H' => Q .non H', rt := Q } [some (.ref a), some (.ref d), some (.ref W), some (.ref Ea), z4, z5, z6, none, none, none, none, none, none, none, none, none, none, none, none, none] H5 := by
    refine ⟨_, (pss_cons (ps_set (i := 7) sc_law.nd rfl (.inl rfl) (pe_mk0 c_Diagrams___init__ hr (by first | decide | omega) (by rfl)))
      (pss_cons (ps_set (i := 8) sc_law.nd rfl (.inl rfl) (pe_callB (reprK K rfl hr.units) (by rfl) M.repr (by decide +kernel) (pa_cons (pv 3) pa_nil)))
      (pss_cons (ps_for PassesOwn.never rfl (pi_range1 (by rfl) M.range (pa_cons (pe_callB (len_seqK K) (by rfl) M.len PySem.boot_len (pa_cons (pv 2) pa_nil)) pa_nil)) (pg_name (i := 5) sc_law.nd rfl (.inr rfl)) (pss_cons (ps_setLc (i := 9) (own := [("entry", 16)]) (g := gName 16) rfl sc_law.nd rfl rfl (sw_true rfl rfl rfl (by decide +kernel)) (pi_list (pv 3)) (blkOk_by (N := N_law) (sc := defScope s_law) (by decide +kernel)) (fun _ _ _ _ _ => (pg_name (i := 16) sc_law.nd rfl (.inl rfl))) (fun _ _ _ _ _ => (pts_one (pt_cmpR op_eq (pe_ix (ix_tupK K) (pv 16) pe_int (fun _ _ => rfl)) (pv 5) (nomark _)))) (fun _ _ _ _ _ => (pv 16)))
      (pss_cons (ps_set (i := 10) sc_law.nd rfl (.inl rfl) (pe_u c__law_ordered hr (by first | decide | omega) (by rfl) (pa_cons (pe_lc (own := [("number", 4), ("place", 17), ("row", 6)]) (g := gTup K 3 (gCons (gName 4) (gCons (gName 17) (gCons (gName 6) (gNil))))) (tt := tYes) rfl sc_law.nd (pi_list (pv 9)) (blkOk_by (N := N_law) (sc := defScope s_law) (by decide +kernel)) (fun _ _ _ _ _ => (pg_tup (by rfl) (pgs_cons (pg_name (i := 4) sc_law.nd rfl (.inl rfl)) (pgs_cons (pg_name (i := 17) sc_law.nd rfl (.inl rfl)) (pgs_cons (pg_name (i := 6) sc_law.nd rfl (.inl rfl)) pgs_nil))))) (fun _ _ _ _ _ => pts_nil) (fun _ _ _ _ _ => (pv 6))) pa_nil)))
      (pss_cons (ps_set (i := 11) sc_law.nd rfl (.inl rfl) (pe_u c_entry_candidates hr (by first | decide | omega) (by rfl) (pa_cons (pv 7) (pa_cons (pv 3) (pa_cons (pv 5) pa_nil)))))
      (pss_cons (ps_if (PW.pt (pw_or (pt_not (pt_val (pe_callB (isiK K) (by rfl) M.isinstance (by decide +kernel) (pa_cons (pv 11) (pa_cons (pe_bltn (v := .ty "list") (by rfl) M.list (by decide +kernel) rfl) pa_nil))))) (pw_or1 (pt_not (pt_val (pe_callB (allK K rfl) (by rfl) M.all (by decide +kernel) (pa_cons (pe_lc (own := [("pair", 18)]) (g := gName 18) (tt := tYes) rfl sc_law.nd (pi_list (pv 11)) (blkOk_by (N := N_law) (sc := defScope s_law) (by decide +kernel)) (fun _ _ _ _ _ => (pg_name (i := 18) sc_law.nd rfl (.inl rfl))) (fun _ _ _ _ _ => pts_nil) (fun _ _ _ _ _ => (pe_and (pe_callB (isiK K) (by rfl) M.isinstance (by decide +kernel) (pa_cons (pv 18) (pa_cons (pe_bltn (v := .ty "tuple") (by rfl) M.tuple (by decide +kernel) rfl) pa_nil))) (pe_one (pe_cmpR op_eq (pe_callB (len_seqK K) (by rfl) M.len PySem.boot_len (pa_cons (pv 18) pa_nil)) pe_int (nomark _)))))) pa_nil))))))) (pss_one (ps_ret pe_bl)) pss_nil)
      (pss_cons (ps_if (pt_not (pt_val (pe_u c__law_same hr (by first | decide | omega) (by rfl) (pa_cons (pe_lc (own := [("row", 6), ("condition", 12)]) (g := gTup K 2 (gCons (gName 6) (gCons (gName 12) (gNil)))) (tt := tYes) rfl sc_law.nd (pi_list (pv 11)) (blkOk_by (N := N_law) (sc := defScope s_law) (by decide +kernel)) (fun _ _ _ _ _ => (pg_tup (by rfl) (pgs_cons (pg_name (i := 6) sc_law.nd rfl (.inl rfl)) (pgs_cons (pg_name (i := 12) sc_law.nd rfl (.inl rfl)) pgs_nil)))) (fun _ _ _ _ _ => pts_nil) (fun _ _ _ _ _ => (pv 6))) (pa_cons (pv 10) pa_nil))))) (pss_one (ps_ret pe_bl)) pss_nil)
      (pss_cons (ps_for PassesOwn.never rfl (pi_list (pe_u c__law_subsets hr (by first | decide | omega) (by rfl) (pa_cons (pe_lc (own := [("number", 4), ("place", 17), ("row", 6)]) (g := gTup K 3 (gCons (gName 4) (gCons (gName 17) (gCons (gName 6) (gNil))))) (tt := tYes) rfl sc_law.nd (pi_list (pv 3)) (blkOk_by (N := N_law) (sc := defScope s_law) (by decide +kernel)) (fun _ _ _ _ _ => (pg_tup (by rfl) (pgs_cons (pg_name (i := 4) sc_law.nd rfl (.inl rfl)) (pgs_cons (pg_name (i := 17) sc_law.nd rfl (.inl rfl)) (pgs_cons (pg_name (i := 6) sc_law.nd rfl (.inl rfl)) pgs_nil))))) (fun _ _ _ _ _ => pts_nil) (fun _ _ _ _ _ => (pv 4))) pa_nil))) (pg_name (i := 13) sc_law.nd rfl (.inr rfl)) (pss_one (ps_for PassesOwn.never rfl (pi_list (pv 11)) (pg_tup (by rfl) (pgs_cons (pg_name (i := 6) sc_law.nd rfl (.inr rfl)) (pgs_cons (pg_name (i := 12) sc_law.nd rfl (.inl rfl)) pgs_nil))) (pss_cons (ps_set (i := 14) sc_law.nd rfl (.inl rfl) (pe_callB (anyK K rfl) (by rfl) M.any (by decide +kernel) (pa_cons (pe_lc (own := [("number", 4), ("place", 17), ("other", 19)]) (g := gTup K 3 (gCons (gName 4) (gCons (gName 17) (gCons (gName 19) (gNil))))) rfl sc_law.nd (pi_list (pv 9)) (blkOk_by (N := N_law) (sc := defScope s_law) (by decide +kernel)) (fun _ _ _ _ _ => (pg_tup (by rfl) (pgs_cons (pg_name (i := 4) sc_law.nd rfl (.inl rfl)) (pgs_cons (pg_name (i := 17) sc_law.nd rfl (.inl rfl)) (pgs_cons (pg_name (i := 19) sc_law.nd rfl (.inl rfl)) pgs_nil))))) (fun _ _ _ _ _ => (pts_one (pt_cmpR (eqDK K hr.units) (pv 19) (pv 6) (nomark _)))) (fun _ _ _ _ _ => (pe_cmpR (inK K) (pv 4) (pv 13) (by rfl)))) pa_nil)))
      (pss_one (ps_if (pt_not (pt_val (pe_u c__law_same hr (by first | decide | omega) (by rfl) (pa_cons (pe_mt c_Diagrams_holds hr (by first | decide | omega) (pv 7) (pa_cons (pv 12) (pa_cons (pv 13) pa_nil))) (pa_cons (pv 14) pa_nil))))) (pss_one (ps_ret pe_bl)) pss_nil))))))
      (pss_cons (ps_for PassesOwn.never rfl (pi_list (pv 11)) (pg_tup (by rfl) (pgs_cons (pg_name (i := 6) sc_law.nd rfl (.inr rfl)) (pgs_cons (pg_name (i := 12) sc_law.nd rfl (.inl rfl)) pgs_nil))) (pss_one (ps_if (pt_cmpR op_ne (pe_u c_condition_of hr (by first | decide | omega) (by rfl) (pa_cons (pv 11) (pa_cons (pv 6) pa_nil))) (pv 12) (nomark _)) (pss_one (ps_ret pe_bl)) pss_nil)))
      (pss_one (ps_if (pt_not (pt_val (pe_u c__law_same hr (by first | decide | omega) (by rfl) (pa_cons (pe_u c_condition_of hr (by first | decide | omega) (by rfl) (pa_cons (pv 11) (pa_cons (pe_op (op_repT1 K) (pe_tup (pa_cons pe_int pa_nil)) (pe_ix (ix_listK K) (pv 2) (pv 5) (fun _ _ => rfl))) pa_nil))) (pa_cons pe_int pa_nil))))) (pss_one (ps_ret pe_bl)) pss_nil))))))))))
      (pss_one (ps_ret (pe_cmpR op_eq (pe_callB (reprK K rfl hr.units) (by rfl) M.repr (by decide +kernel) (pa_cons (pv 3) pa_nil)) (pv 8) (nomark _))))))), fun H5 d W Ea ws xs z4 z5 z6 eW hws lws eE hat hpw hxs lxs => ?_⟩
    refine fun x dx nx ndx nex => ⟨x, dx, rfl, upd_same, fun H6 sa hsp f6 hk hu hm stm => ⟨rfl, ?_⟩⟩
    subst hsp
    have s6 := made_same nx ndx f6
    have hk := made_free hk
    have hu := made_free hu
    have hm := made_free hm
    have st6 := stm _ hpw
    have eE6 := s6 _ _ eE
    have eW6 := s6 _ _ eW
    have kE : Ea ≠ sa.k ∧ Ea ≠ sa.u ∧ Ea ≠ sa.m := ⟨ne_of_none eE hk, ne_of_none eE hu, ne_of_none eE hm⟩
    have kW : W ≠ sa.k ∧ W ≠ sa.u ∧ W ≠ sa.m := ⟨ne_of_none eW hk, ne_of_none eW hu, ne_of_none eW hm⟩
    have hat6 : ∀ x ∈ xs, EnAt H6 x := fun x hx => (hat x hx).tk (Tk.same s6)
    have hok : ∀ x ∈ xs, ∀ v ∈ x.2.r, v.ok := fun x hx v hv => Vl.sm_ok ((hxs x hx).2.2.2.2.2 v hv)
    have hxr : ∀ x ∈ xs, rok x.2.r ∧ x.2.r.length ≤ 1000 := fun x hx => ⟨⟨(hxs x hx).2.2.2.1, hok x hx⟩, by have := (hxs x hx).2.2.2.2.1; omega⟩
    have les : (xs.map fun x => x.2.n).length ≤ 6 := by rw [List.length_map]; exact lxs
    have hes : ∀ x ∈ xs, x.2.n ∈ xs.map (fun x => x.2.n) := fun x hx => List.mem_map.mpr ⟨x, hx, rfl⟩
    generalize hEs : (xs.map fun x => x.2.n) = es at hpw st6 les hes
    obtain ⟨w1, w2, w3, w4⟩ := (ens_shw (fun x hx => ⟨(hxs x hx).1, (hxs x hx).2.1, by have := (hxs x hx).2.2.1; omega, (hxs x hx).2.2.2.2.1, hok x hx⟩) lxs).repr (by decide) (by decide)
    refine ⟨_, rfl, Ea, ensD xs, rfl, dp_ens eE6 hat6, w1, w2, w3, w4, ?_⟩
    generalize eK : (ensD xs).shown = kept
    refine ⟨_, rfl, W, _, rfl, .inl (.of eW6), _, rfl, by rw [List.length_map]; omega, by rw [List.length_map]; omega, ?_⟩
    have sl : (100000 : Nat) < sizeLine := by decide
    refine for_range (lo := 0) (n := ((((ws.map fun n : Nat => V.int ((n : Nat) : Int)).length : Nat) : Int)).toNat) (fun i σ Hi => FdS sa H6 Hi ∧ (∃ N L, N.length ≤ 1000 * i ∧ L ≤ 1000 * i ∧ Sto C K Hi sa N es L) ∧ ∃ z4 z5 z6 z9 z10 z11 z12 z13 z14, σ = [some (.ref a), some (.ref d), some (.ref W), some (.ref Ea), z4, z5, z6, some (.ref sa.p), some (.str kept), z9, z10, z11, z12, z13, z14, none, none, none, none, none]) ⟨FdS.refl _ _, ⟨[], 0, Nat.zero_le _, Nat.zero_le _, st6⟩, _, _, _, _, _, _, _, _, _, rfl⟩ (fun i σ Hi hi hp => ?_) (fun σ Hn hp => ?_)
    · obtain ⟨fi, ⟨N, L, lN, lL, sti⟩, z4, z5, z6, z9, z10, z11, z12, z13, z14, rfl⟩ := hp
      have hi : i < ws.length := by rw [List.length_map] at hi; omega
      rw [Int.zero_add]
      have tk6 := Tk.fds st6 fi
      have hati : ∀ x ∈ xs, EnAt Hi x := fun x hx => (hat6 x hx).tk tk6
      have eEi := fi _ _ kE.1 kE.2.1 kE.2.2 eE6
      have eWi := fi _ _ kW.1 kW.2.1 kW.2.2 eW6
      -- the table's input rows
      refine ⟨_, rfl, Ea, rfl, ⟨_, .of eEi⟩, fun D1 nD1 => ?_⟩
      refine lc_list (K := K) (a := Ea) (xs := xs.map fun x => V.ref x.1) (fun j Hj => Same Hi Hj ∧ Hj D1 = some (.lst (((xs.take j).filter fun x => decide (x.2.t = i)).map fun x => V.ref x.1))) ⟨same_upd nD1, upd_same⟩ (fun j Hj _ hp => .of (hp.1 _ _ eEi)) (fun j y Hj hy hp => ?_) (fun H7 hp => ?_)
      · obtain ⟨sj, eD⟩ := hp
        rw [List.getElem?_map] at hy
        obtain ⟨x, hx, rfl⟩ := Option.map_eq_some_iff.mp hy
        have hc := (hati x (List.mem_of_getElem? hx)).tk (Tk.same sj)
        have etk : (xs.take (j + 1)).filter (fun x => decide (x.2.t = i)) = (xs.take j).filter (fun x => decide (x.2.t = i)) ++ if decide (x.2.t = i) = true then [x] else [] := by
          rw [List.take_add_one, hx, List.filter_append]
          show _ ++ List.filter _ [x] = _
          rw [List.filter_cons, List.filter_nil]
        have lft : ((xs.take j).filter fun x => decide (x.2.t = i)).length ≤ 6 := by
          refine Nat.le_trans (List.length_filter_le _ _) ?_
          rw [List.length_take]
          omega
        refine ⟨rfl, ?_⟩
        refine ⟨_, rfl, x.1, _, _, _, rfl, rfl, .of hc.1, atI_nat (j := 1) rfl, _, rfl, rfl, _, rfl, ?_⟩
        rw [show decide (V.int ((x.2.t : Nat) : Int) = V.int ((i : Nat) : Int)) = decide (x.2.t = i) from decide_eq_decide.mpr ⟨fun z => by have := V.int.inj z; omega, fun z => by rw [z]⟩]
        refine ite2 (fun g => ?_) (fun g => ?_)
        · refine ⟨_, rfl, _, eD, by rw [List.length_map]; exact small1 (by omega), fun b o e => ?_, ?_⟩
          · rw [upd_ne (ne_of_none e nD1)]
            exact sj _ _ e
          · rw [upd_same, etk, if_pos g, List.map_append]
            rfl
        · refine ⟨sj, ?_⟩
          rw [etk, if_neg g, List.append_nil]
          exact eD
      obtain ⟨s7, eD1⟩ := hp
      rw [List.length_map, List.take_of_length_le (Nat.le_refl _)] at eD1
      have hmx : ∀ x, x ∈ xs.filter (fun x => decide (x.2.t = i)) ↔ x ∈ xs ∧ x.2.t = i := fun x => by rw [List.mem_filter, decide_eq_true_iff]
      have lmx : (xs.filter fun x => decide (x.2.t = i)).length ≤ 6 := Nat.le_trans (List.length_filter_le _ _) lxs
      generalize (xs.filter fun x => decide (x.2.t = i)) = mx at eD1 hmx lmx
      have hat7 : ∀ x ∈ mx, EnAt H7 x := fun x hx => (hati x ((hmx x).mp hx).1).tk (Tk.same s7)
      -- what is due
      refine ⟨_, rfl, D1, rfl, ⟨_, .of eD1⟩, fun D2 nD2 => ?_⟩
      refine lc_list (K := K) (a := D1) (xs := mx.map fun x => V.ref x.1) (fun j Hj => Same H7 Hj ∧ Hj D2 = some (.lst ((mx.take j).map fun x => V.ref x.2.a))) ⟨same_upd nD2, upd_same⟩ (fun j Hj _ hp => .of (hp.1 _ _ eD1)) (fun j y Hj hy hp => ?_) (fun H8 hp => ?_)
      · obtain ⟨sj, eD⟩ := hp
        rw [List.getElem?_map] at hy
        obtain ⟨x, hx, rfl⟩ := Option.map_eq_some_iff.mp hy
        have hc := (hat7 x (List.mem_of_getElem? hx)).tk (Tk.same sj)
        refine ⟨x.1, _, rfl, .of hc.1, rfl, _, _, rfl, _, _, rfl, _, _, rfl, rfl, rfl, ?_⟩
        refine ⟨_, rfl, _, eD, by rw [List.length_map, List.length_take]; exact small1 (by omega), fun b o e => ?_, ?_⟩
        · rw [upd_ne (ne_of_none e nD2)]
          exact sj _ _ e
        · rw [upd_same, List.take_add_one, hx, List.map_append]
          rfl
      obtain ⟨s8, eD2⟩ := hp
      rw [List.length_map, List.take_of_length_le (Nat.le_refl _)] at eD2
      have hat8 : ∀ x ∈ mx, EnAt H8 x := fun x hx => (hat7 x hx).tk (Tk.same s8)
      refine ⟨D2, mx.map (fun x => (x.2.a, x.2.r)), rfl, by rw [List.map_map]; exact .of eD2, fun y hy => ?_, fun y hy => ?_, by rw [List.length_map]; omega, fun H9 due ds s9 ndue edue dsub dlen dasc dmem => ?_⟩
      · obtain ⟨x, hx, rfl⟩ := List.mem_map.mp hy
        exact (hat8 x hx).2
      · obtain ⟨x, hx, rfl⟩ := List.mem_map.mp hy
        exact hxr x ((hmx x).mp hx).1
      have s79 := (s7.trans s8).trans s9
      have st9 := sti.ext s79
      have eE9 := s79 _ _ eEi
      have hat9 : ∀ x ∈ xs, EnAt H9 x := fun x hx => (hati x hx).tk (Tk.same s79)
      refine ⟨_, rfl, _, rfl, _, rfl, sa, N, es, L, Ea, xs, i, rfl, st9, kE, eE9, hat9, fun x hx => ⟨hes x hx, hxr x hx⟩, les, lxs, by omega, by omega, fun Ha fo cz Mo L' fa sta lM lL' nfo efo hcz casc cmem => ?_⟩
      have hca : ∀ x ∈ cz, CnAt Ha x := fun x hx => (hcz x hx).1
      have erows : cz.map (fun x => x.2.r) = ds.map Prod.snd := asc_eq casc dasc fun r => by
        rw [cmem, dmem, List.map_map]
        constructor
        · rintro ⟨x, hx, h1, h2⟩
          exact List.mem_map.mpr ⟨x, (hmx x).mpr ⟨hx, h1⟩, h2⟩
        · intro h
          obtain ⟨x, hx, h2⟩ := List.mem_map.mp h
          obtain ⟨h3, h4⟩ := (hmx x).mp hx
          exact ⟨x, h3, h4, h2⟩
      have lcz : cz.length ≤ 6 := by
        have h1 := congrArg List.length erows
        rw [List.length_map, List.length_map] at h1
        rw [List.length_map] at dlen
        omega
      refine ⟨_, rfl, _, _, _, _, _, rfl, .ty _, tyL (.of efo), kit_ty (show kitB _ _ = some true by decide +kernel), _, rfl, ?_⟩
      show if (!true) = true then _ else _
      refine iteF ?_
      refine ⟨_, rfl, fo, rfl, ⟨_, .of efo⟩, fun D3 nD3 => ?_⟩
      refine lc_list (K := K) (a := fo) (xs := cz.map fun x => V.ref x.1) (fun j Hj => Same Ha Hj ∧ Hj D3 = some (.lst ((List.replicate j true).map V.bl))) ⟨same_upd nD3, upd_same⟩ (fun j Hj _ hp => .of (hp.1 _ _ efo)) (fun j y Hj hy hp => ?_) (fun Hb hp => ?_)
      · obtain ⟨sj, eD⟩ := hp
        have hj : j < 6 := by have := (List.getElem?_eq_some_iff.mp hy).1; rw [List.length_map] at this; omega
        rw [List.getElem?_map] at hy
        obtain ⟨x, hx, rfl⟩ := Option.map_eq_some_iff.mp hy
        have hc := (hca x (List.mem_of_getElem? hx)).tk (Tk.same sj)
        refine ⟨rfl, ?_⟩
        refine ⟨_, rfl, _, _, _, _, _, rfl, .ty _, tyT (.of hc.1), kit_ty (show kitB _ _ = some true by decide +kernel), ?_⟩
        refine ⟨_, rfl, iteT ⟨_, rfl, x.1, _, rfl, .inr (.of hc.1), rfl, ?_⟩⟩
        refine ⟨_, eD, by rw [List.length_map, List.length_replicate]; exact small1 (by omega), fun b o e => ?_, ?_⟩
        · rw [upd_ne (ne_of_none e nD3)]
          exact sj _ _ e
        · rw [upd_same, List.replicate_succ', List.map_append]
          rfl
      obtain ⟨sb, eD3⟩ := hp
      refine ⟨D3, _, rfl, .of eD3, ?_⟩
      rw [rep_bl]
      refine ⟨_, rfl, ?_⟩
      show if (!true) = true then _ else _
      refine iteF ?_
      -- the rows
      have efb := sb _ _ efo
      have hcb : ∀ x ∈ cz, CnAt Hb x := fun x hx => (hca x hx).tk (Tk.same sb)
      refine ⟨_, rfl, fo, rfl, ⟨_, .of efb⟩, fun D4 nD4 => ?_⟩
      refine lc_list (K := K) (a := fo) (xs := cz.map fun x => V.ref x.1) (fun j Hj => Same Hb Hj ∧ Hj D4 = some (.lst ((cz.take j).map fun x => V.ref x.2.a))) ⟨same_upd nD4, upd_same⟩ (fun j Hj _ hp => .of (hp.1 _ _ efb)) (fun j y Hj hy hp => ?_) (fun Hc hp => ?_)
      · obtain ⟨sj, eD⟩ := hp
        rw [List.getElem?_map] at hy
        obtain ⟨x, hx, rfl⟩ := Option.map_eq_some_iff.mp hy
        have hc := (hcb x (List.mem_of_getElem? hx)).tk (Tk.same sj)
        refine ⟨x.1, _, rfl, .of hc.1, rfl, _, _, rfl, _, _, rfl, rfl, rfl, ?_⟩
        refine ⟨_, rfl, _, eD, by rw [List.length_map, List.length_take]; exact small1 (by omega), fun b o e => ?_, ?_⟩
        · rw [upd_ne (ne_of_none e nD4)]
          exact sj _ _ e
        · rw [upd_same, List.take_add_one, hx, List.map_append]
          rfl
      obtain ⟨sc, eD4⟩ := hp
      rw [List.length_map, List.take_of_length_le (Nat.le_refl _)] at eD4
      have hcc : ∀ x ∈ cz, CnAt Hc x := fun x hx => (hcb x hx).tk (Tk.same sc)
      have tk9 : Tk H9 Hc := (Tk.fds st9 fa).trans ((Tk.same sb).trans (Tk.same sc))
      have kdue := bu_ne (sti.ext (s7.trans s8)) ndue
      have kD1 := bu_ne sti nD1
      have edc : Hc due = some (.lst (ds.map fun x => V.ref x.1)) := sc _ _ (sb _ _ (fa _ _ kdue.1 kdue.2.1 kdue.2.2 edue))
      have hds : ∀ x ∈ ds, Hc x.1 = some (.tup (x.2.map Vl.v)) := fun x hx => tk9 _ _ (by
        obtain ⟨y, hy, rfl⟩ := List.mem_map.mp (dsub x hx)
        exact s9 _ _ (hat8 y hy).2)
      refine ⟨_, rfl, _, _, rowsD (ds.map Prod.snd), 3, rfl, rfl, sh_rows (by rw [List.length_map]; rw [List.length_map] at dlen; omega) (fun r hr => ?_), ?_, dp_rows (fun x : AR => x.1) (fun x : AR => x.2) edc hds, fun Hd sd => ⟨_, rfl, ?_⟩⟩
      · obtain ⟨y, hy, rfl⟩ := List.mem_map.mp hr
        obtain ⟨x, hx, rfl⟩ := List.mem_map.mp (dsub y hy)
        exact (hxr x ((hmx x).mp hx).1).2
      · rw [← erows]
        exact dp_rows (fun x : Addr × Cn => x.2.a) (fun x : Addr × Cn => x.2.r) eD4 fun x hx => (hcc x hx).2
      show if (!true) = true then _ else _
      refine iteF ?_
      -- the sets
      have sbd := (sb.trans sc).trans sd
      have std := sta.ext sbd
      have efd := sbd _ _ efo
      have hcd : ∀ x ∈ cz, CnAt Hd x := fun x hx => (hca x hx).tk (Tk.same sbd)
      have fid : FdS sa Hi Hd := (FdS.of s79).trans (fa.trans (FdS.of sbd))
      have tkd : Tk Hi Hd := Tk.fds sti fid
      have eEd := fid _ _ kE.1 kE.2.1 kE.2.2 eEi
      have eWd := fid _ _ kW.1 kW.2.1 kW.2.2 eWi
      have hatd : ∀ x ∈ xs, EnAt Hd x := fun x hx => (hati x hx).tk tkd
      have eD1d : Hd D1 = some (.lst (mx.map fun x => V.ref x.1)) := sbd _ _ (fa _ _ kD1.1 kD1.2.1 kD1.2.2 (s9 _ _ (s8 _ _ eD1)))
      refine ⟨_, rfl, Ea, rfl, ⟨_, .of eEd⟩, fun D5 nD5 => ?_⟩
      refine lc_list (K := K) (a := Ea) (xs := xs.map fun x => V.ref x.1) (fun j Hj => Same Hd Hj ∧ Hj D5 = some (.lst ((xs.take j).map fun x => V.int x.2.n))) ⟨same_upd nD5, upd_same⟩ (fun j Hj _ hp => .of (hp.1 _ _ eEd)) (fun j y Hj hy hp => ?_) (fun He hp => ?_)
      · obtain ⟨sj, eD⟩ := hp
        rw [List.getElem?_map] at hy
        obtain ⟨x, hx, rfl⟩ := Option.map_eq_some_iff.mp hy
        have hc := (hatd x (List.mem_of_getElem? hx)).tk (Tk.same sj)
        refine ⟨x.1, _, rfl, .of hc.1, rfl, _, _, rfl, _, _, rfl, _, _, rfl, rfl, rfl, ?_⟩
        refine ⟨_, rfl, _, eD, by rw [List.length_map, List.length_take]; exact small1 (by omega), fun b o e => ?_, ?_⟩
        · rw [upd_ne (ne_of_none e nD5)]
          exact sj _ _ e
        · rw [upd_same, List.take_add_one, hx, List.map_append]
          rfl
      obtain ⟨se, eD5⟩ := hp
      rw [List.length_map, List.take_of_length_le (Nat.le_refl _), show xs.map (fun x => V.int x.2.n) = es.map V.int by rw [← hEs, List.map_map]; rfl] at eD5
      refine ⟨D5, es, rfl, eD5, by omega, fun Hf ps sf nps ln => ?_⟩
      obtain ⟨as, l1, l2, l3⟩ := ln.get
      have sdf := se.trans sf
      have hcf : ∀ x ∈ cz, CnAt Hf x := fun x hx => (hcd x hx).tk (Tk.same sdf)
      have hatf : ∀ x ∈ mx, EnAt Hf x := fun x hx => (hatd x ((hmx x).mp hx).1).tk (Tk.same sdf)
      have eff := sdf _ _ efd
      have eD1f := sdf _ _ eD1d
      have stf := std.ext sdf
      refine ⟨ps, rfl, ⟨_, .of l1⟩, ?_⟩
      refine for_list (K := K) (a := ps) (xs := as.map V.ref) (fun j σ Hj => Same Hf Hj ∧ ∃ z4 z6 z12 z13 z14, σ = [some (.ref a), some (.ref d), some (.ref W), some (.ref Ea), z4, some (.int ((i : Nat) : Int)), z6, some (.ref sa.p), some (.str kept), some (.ref D1), some (.ref due), some (.ref fo), z12, z13, z14, none, none, none, none, none]) ⟨fun _ _ h => h, _, _, _, _, _, rfl⟩ (fun j σ Hj _ hp => .of (hp.1 _ _ l1)) (fun j y σ Hj hy hp => ?_) (fun σ Hg hp => ?_)
      · obtain ⟨sj, z4, z6, z12, z13, z14, rfl⟩ := hp
        obtain ⟨b, l, rfl, hl, hb⟩ := l3 j y hy
        refine ⟨_, rfl, fo, rfl, ⟨_, .of (sj _ _ eff)⟩, ?_⟩
        refine for_list (K := K) (a := fo) (xs := cz.map fun x => V.ref x.1) (fun k σ Hk => Same Hf Hk ∧ ∃ z4 z6 z12 z14, σ = [some (.ref a), some (.ref d), some (.ref W), some (.ref Ea), z4, some (.int ((i : Nat) : Int)), z6, some (.ref sa.p), some (.str kept), some (.ref D1), some (.ref due), some (.ref fo), z12, some (.ref b), z14, none, none, none, none, none]) ⟨sj, _, _, _, _, rfl⟩ (fun k σ Hk _ hp => .of (hp.1 _ _ eff)) (fun k y σ Hk hy hp => ?_) (fun σ Hg hp => ?_)
        · obtain ⟨sk, z4, z6, z12, z14, rfl⟩ := hp
          rw [List.getElem?_map] at hy
          obtain ⟨x, hx, rfl⟩ := Option.map_eq_some_iff.mp hy
          have hxm := List.mem_of_getElem? hx
          have hc := (hcf x hxm).tk (Tk.same sk)
          obtain ⟨_, ⟨hA, hW, hE⟩, hrk, hrl⟩ := hcz x hxm
          refine ⟨x.1, _, rfl, .of hc.1, rfl, _, _, rfl, _, _, rfl, rfl, ?_⟩
          refine ⟨_, rfl, D1, rfl, ⟨_, .of (sk _ _ eD1f)⟩, fun D6 nD6 => ?_⟩
          refine lc_list (K := K) (a := D1) (xs := mx.map fun x => V.ref x.1) (fun m Hm => Same Hk Hm ∧ Hm D6 = some (.lst ((((mx.take m).filter fun y => decide (y.2.r = x.2.r)).map fun y => decide (y.2.n ∈ l)).map V.bl))) ⟨same_upd nD6, upd_same⟩ (fun m Hm _ hp => .of (hp.1 _ _ (sk _ _ eD1f))) (fun m y Hm hy hp => ?_) (fun Hl hp => ?_)
          · obtain ⟨sm, eD⟩ := hp
            rw [List.getElem?_map] at hy
            obtain ⟨y, hy0, rfl⟩ := Option.map_eq_some_iff.mp hy
            have hym := List.mem_of_getElem? hy0
            have hy2 := (hatf y hym).tk (Tk.same (sk.trans sm))
            have etk : (mx.take (m + 1)).filter (fun y => decide (y.2.r = x.2.r)) = (mx.take m).filter (fun y => decide (y.2.r = x.2.r)) ++ if decide (y.2.r = x.2.r) = true then [y] else [] := by
              rw [List.take_add_one, hy0, List.filter_append]
              show _ ++ List.filter _ [y] = _
              rw [List.filter_cons, List.filter_nil]
            have lft : ((mx.take m).filter fun y => decide (y.2.r = x.2.r)).length ≤ 6 := by
              refine Nat.le_trans (List.length_filter_le _ _) ?_
              rw [List.length_take]
              omega
            refine ⟨y.1, _, rfl, .of hy2.1, rfl, _, _, rfl, _, _, rfl, _, _, rfl, rfl, rfl, ?_⟩
            refine ⟨_, rfl, _, rfl, rowP y.2.r, rowP x.2.r, dp_rowP (.of hy2.2), dp_rowP (.of (Tk.same sm _ _ hc.2)), rowP_shaped (hok y ((hmx y).mp hym).1), rowP_shaped hrk.2, _, rfl, ?_⟩
            rw [rowP_eqv]
            refine ite2 (fun g => ?_) (fun g => ?_)
            · refine ⟨_, rfl, _, rfl, b, l.map V.int, rfl, .inl (.of (sm _ _ (sk _ _ hb))), rfl, ints_flat l, ?_⟩
              rw [if_neg Bool.false_ne_true, inV_int]
              refine ⟨_, eD, by rw [List.length_map, List.length_map]; exact small1 (by omega), fun b o e => ?_, ?_⟩
              · rw [upd_ne (ne_of_none e nD6)]
                exact sm _ _ e
              · rw [upd_same, etk, if_pos g, List.map_append, List.map_append]
                rfl
            · refine ⟨sm, ?_⟩
              rw [etk, if_neg g, List.append_nil]
              exact eD
          obtain ⟨sm, eD6⟩ := hp
          rw [List.length_map, List.take_of_length_le (Nat.le_refl _)] at eD6
          have eB : x.2.b.ev (fun e => decide (e ∈ l)) = ((mx.filter fun y => decide (y.2.r = x.2.r)).map fun y => decide (y.2.n ∈ l)).any id := by
            rw [hE, Bool.eq_iff_iff]
            unfold evR
            rw [List.any_eq_true, List.any_eq_true]
            constructor
            · rintro ⟨e, he, g⟩
              obtain ⟨y, hy, rfl⟩ := List.mem_map.mp he
              rw [Bool.and_eq_true] at g
              unfold isR at g
              rw [Bool.and_eq_true] at g
              exact ⟨_, List.mem_map.mpr ⟨y, List.mem_filter.mpr ⟨(hmx y).mpr ⟨hy, of_decide_eq_true g.1.1⟩, g.1.2⟩, rfl⟩, g.2⟩
            · rintro ⟨q', hq', g⟩
              obtain ⟨y, hy, rfl⟩ := List.mem_map.mp hq'
              obtain ⟨h1, h2⟩ := List.mem_filter.mp hy
              obtain ⟨h3, h4⟩ := (hmx y).mp h1
              refine ⟨y.2, List.mem_map.mpr ⟨y, h3, rfl⟩, ?_⟩
              rw [isR_yes h4 (of_decide_eq_true h2), Bool.true_and]
              exact g
          generalize ((mx.filter fun y => decide (y.2.r = x.2.r)).map fun y => decide (y.2.n ∈ l)) = bs at eD6 eB
          refine ⟨D6, bs, rfl, .of eD6, ?_⟩
          have stl := stf.ext (sk.trans sm)
          refine ⟨_, rfl, stl.go (by decide +kernel) (by decide +kernel) (by decide +kernel) ⟨_, rfl, _, rfl, ?_⟩⟩
          refine ⟨sa, N ++ Mo, es, L', x.2.c, x.2.b, b, l, rfl, stl, hA, .of (sm _ _ (sk _ _ hb)), ?_⟩
          rw [eB]
          refine ⟨_, rfl, _, _, .bool (bs.any id), 3, rfl, rfl, .bl _, .bl _, .bl _, fun Hn sn => ⟨_, rfl, ?_⟩⟩
          show if (!true) = true then _ else _
          refine iteF ?_
          exact ⟨(sk.trans sm).trans sn, _, _, _, _, rfl⟩
        · obtain ⟨sk, z4, z6, z12, z14, rfl⟩ := hp
          exact ⟨sk, _, _, _, _, _, rfl⟩
      obtain ⟨sg, z4, z6, z12, z13, z14, rfl⟩ := hp
      have efg := sg _ _ eff
      have hcg : ∀ x ∈ cz, CnAt Hg x := fun x hx => (hcf x hx).tk (Tk.same sg)
      have hnd := asc_nd casc
      refine ⟨_, rfl, fo, rfl, ⟨_, .of efg⟩, ?_⟩
      refine for_list (K := K) (a := fo) (xs := cz.map fun x => V.ref x.1) (fun k σ Hk => Hk = Hg ∧ ∃ z4 z6 z12 z13 z14, σ = [some (.ref a), some (.ref d), some (.ref W), some (.ref Ea), z4, some (.int ((i : Nat) : Int)), z6, some (.ref sa.p), some (.str kept), some (.ref D1), some (.ref due), some (.ref fo), z12, z13, z14, none, none, none, none, none]) ⟨rfl, _, _, _, _, _, rfl⟩ (fun k σ Hk _ hp => by obtain ⟨rfl, _⟩ := hp; exact .of efg) (fun k y σ Hk hy hp => ?_) (fun σ Hh hp => ?_)
      · obtain ⟨rfl, z4, z6, z12, z13, z14, rfl⟩ := hp
        rw [List.getElem?_map] at hy
        obtain ⟨x, hx, rfl⟩ := Option.map_eq_some_iff.mp hy
        have hxm := List.mem_of_getElem? hx
        have hc := hcg x hxm
        refine ⟨x.1, _, rfl, .of hc.1, rfl, _, _, rfl, _, _, rfl, rfl, ?_⟩
        refine ⟨_, rfl, _, rfl, fo, x.2.a, cz, x.2.r, rfl, .of efg, hcg, fun y hy => (hcz y hy).2.2.1.2, (hcz x hxm).2.2.1.2, hc.2, fun y hy ey => ⟨_, rfl, rfl, _, rfl, ?_⟩, fun h => absurd rfl (h x hxm)⟩
        have exy : y = x := map_inj (f := fun z : Addr × Cn => z.2.r) hnd hy hxm ey
        rw [exy, decide_eq_true rfl]
        refine iteF ?_
        exact ⟨rfl, _, _, _, _, _, rfl⟩
      obtain ⟨rfl, z4, z6, z12, z13, z14, rfl⟩ := hp
      -- a strange row
      have eWg := sg _ _ (sdf _ _ eWd)
      have hwi := hws ws[i] (List.getElem_mem hi)
      have hgi : (ws.map fun n : Nat => V.int ((n : Nat) : Int))[i]? = some (V.int ((ws[i] : Nat) : Int)) := by rw [List.getElem?_map, List.getElem?_eq_getElem hi]; rfl
      generalize ws[i] = wd at hwi hgi
      refine ⟨_, rfl, by show 1 ≤ sizeLine; decide, fun p np => ?_⟩
      have sp := same_upd np (o := .tup [.int 9])
      have ep : (upd Hh p (.tup [.int 9])) p = some (.tup [.int 9]) := upd_same
      generalize upd Hh p (.tup [.int 9]) = Hp1 at sp ep ⊢
      have stg := (stf.ext sg).ext sp
      have fend : FdS sa H6 Hp1 := (fi.trans fid).trans (FdS.of ((sdf.trans sg).trans sp))
      have hcp : ∀ x ∈ cz, CnAt Hp1 x := fun x hx => (hcg x hx).tk (Tk.same sp)
      have efp := sp _ _ efg
      refine ⟨_, rfl, _, rfl, W, _, _, _, rfl, rfl, .of (sp _ _ eWg), atI_nat hgi, p, _, [V.int 9], rfl, rfl, .of ep, by simp, by omega, by omega, by decide, fun e1 => ?h1, fun e2 p2 np2 => ?h2⟩
      case' h1 =>
        have hb : Hp1 p = some (.tup ((List.replicate wd (Vl.i 9)).map Vl.v)) := by
          rw [ep, show wd = 1 by omega]
          rfl
        clear np ep
      case' h2 =>
        have hb : (upd Hp1 p2 (.tup (List.replicate ((wd : Nat) : Int).toNat [V.int 9]).flatten)) p2 = some (.tup ((List.replicate wd (Vl.i 9)).map Vl.v)) := by
          rw [upd_same, Int.toNat_natCast]
          have : (List.replicate wd [V.int 9]).flatten = (List.replicate wd (Vl.i 9)).map Vl.v := by
            clear hwi hgi e2 np2
            induction wd with
            | zero => rfl
            | succ n ih =>
              rw [List.replicate_succ, List.replicate_succ, List.flatten_cons, List.map_cons, ih]
              rfl
          rw [this]
        have s2 := same_upd np2 (o := .tup (List.replicate ((wd : Nat) : Int).toNat [V.int 9]).flatten)
        have fend := fend.trans (FdS.of s2)
        have stg := stg.ext s2
        have hcp : ∀ x ∈ cz, CnAt (upd Hp1 p2 (.tup (List.replicate ((wd : Nat) : Int).toNat [V.int 9]).flatten)) x := fun x hx => (hcp x hx).tk (Tk.same s2)
        have efp := s2 _ _ efp
        clear s2 np ep sp
        generalize upd Hp1 p2 (.tup (List.replicate ((wd : Nat) : Int).toNat [V.int 9]).flatten) = Hp1 at hb fend stg hcp efp ⊢
        generalize p2 = p at hb ⊢
      all_goals
        refine ⟨fo, p, cz, List.replicate wd (Vl.i 9), rfl, .of efp, hcp, fun y hy => (hcz y hy).2.2.1.2, fun v hv => ?_, hb, fun y hy ey => ?_, fun _ => ?_⟩
        · rw [List.eq_of_mem_replicate hv]
          exact ⟨by decide, by decide⟩
        · exfalso
          have hm : y.2.r ∈ cz.map (fun x => x.2.r) := List.mem_map.mpr ⟨y, hy, rfl⟩
          obtain ⟨x, hx, _, ex⟩ := (cmem _).mp hm
          have h9 := (hxs x hx).2.2.2.2.2 (Vl.i 9) (by rw [ex, ey]; exact List.mem_replicate.mpr ⟨by omega, rfl⟩)
          have h9 : (0 : Int) ≤ 9 ∧ (9 : Int) ≤ 3 := h9
          omega
        · refine ⟨_, _, .int 0, 3, rfl, rfl, .int _, .int _, .int _, fun Hz sz => ⟨_, rfl, ?_⟩⟩
          show if (!true) = true then _ else _
          refine iteF ?_
          exact ⟨fend.trans (FdS.of sz), ⟨N ++ Mo, L', by rw [List.length_append]; omega, by omega, stg.ext sz⟩, _, _, _, _, _, _, _, _, _, rfl⟩
    · obtain ⟨fn, _, z4, z5, z6, z9, z10, z11, z12, z13, z14, rfl⟩ := hp
      have tkn := Tk.fds st6 fn
      refine ⟨_, rfl, Ea, ensD xs, rfl, dp_ens (fn _ _ kE.1 kE.2.1 kE.2.2 eE6) (fun x hx => (hat6 x hx).tk tkn), w1, w2, w3, w4, _, rfl, rfl, ?_⟩
      rw [eK, decide_eq_true rfl]
      exact q _
  refine ⟨_, (pss_cons (ps_set (i := 1) sc_law.nd rfl (.inr rfl) (pe_u c__law_draw hr (by first | decide | omega) (by rfl) (pa_cons (pv 0) pa_nil)))
      (pss_cons (ps_setLc (i := 2) (own := [("k", 15)]) (g := gName 15) (tt := tYes) rfl sc_law.nd rfl rfl (sw_true rfl rfl rfl (by decide +kernel)) (pi_range1 (by rfl) M.range (pa_cons (pe_op op_add pe_int (pe_u c__law_next hr (by first | decide | omega) (by rfl) (pa_cons (pv 1) (pa_cons pe_int pa_nil)))) pa_nil)) (blkOk_by (N := N_law) (sc := defScope s_law) (by decide +kernel)) (fun _ _ _ _ _ => (pg_name (i := 15) sc_law.nd rfl (.inl rfl))) (fun _ _ _ _ _ => pts_nil) (fun _ _ _ _ _ => (pe_op op_add pe_int (pe_u c__law_next hr (by first | decide | omega) (by rfl) (pa_cons (pv 1) (pa_cons pe_int pa_nil))))))
      (pss_cons (ps_set (i := 3) sc_law.nd rfl (.inl rfl) (pe_u c__law_inputs hr (by first | decide | omega) (by rfl) (pa_cons (pv 1) (pa_cons (pv 2) (pa_cons pe_int pa_nil)))))
      (pss_cons (ps_if (PW.pt (pw_and (pt_cmpR op_gt (pe_callB (len_seqK K) (by rfl) M.len PySem.boot_len (pa_cons (pv 3) pa_nil)) pe_int (nomark _)) (pw_and1 (pt_truthK K (pe_u c__law_next hr (by first | decide | omega) (by rfl) (pa_cons (pv 1) (pa_cons pe_int pa_nil))) (by intro _; rfl))))) (pss_cons (ps_asg (pe_ix (ix_listK K) (pv 3) (pe_un un_neg pe_int) (fun _ _ => rfl)) (pg_tup (by rfl) (pgs_cons (pg_name (i := 4) sc_law.nd rfl (.inl rfl)) (pgs_cons (pg_name (i := 5) sc_law.nd rfl (.inr rfl)) (pgs_cons (pg_name (i := 6) sc_law.nd rfl (.inr rfl)) pgs_nil)))))
      (pss_one (ps_asg (pe_tup (pa_cons (pv 4) (pa_cons (pe_ix (ix_tupK K) (pe_ix (ix_listK K) (pv 3) pe_int (fun _ _ => rfl)) pe_int (fun _ _ => rfl)) (pa_cons (pe_ix (ix_tupK K) (pe_ix (ix_listK K) (pv 3) pe_int (fun _ _ => rfl)) pe_int (fun _ _ => rfl)) pa_nil)))) (pg_sub (pv 3) (pe_un un_neg pe_int) set_list)))) pss_nil)
      ht')))), ?_⟩
  refine ⟨_, rfl, a, ns, rfl, hS, fun H1 d c s1 nd dr => ?_⟩
  refine ⟨_, rfl, d, c, 2, rfl, dr, by decide, by decide, fun H2 r f2 _ dr2 r0 r1 => ⟨_, _, rfl, rfl, _, rfl, by omega, by omega, fun W nW => ?_⟩⟩
  refine lc_range (lo := 0) (n := (1 + r).toNat) (fun j Hj => W ≠ d ∧ W ≠ c ∧ Dr Hj d c ∧ ∃ ws : List Nat, ws.length = j ∧ (∀ n ∈ ws, 1 ≤ n ∧ n ≤ 2) ∧ Hj W = some (.lst (ws.map fun n : Nat => V.int ((n : Nat) : Int)))) ⟨dr2.nd nW, dr2.nc nW, dr2.ext (same_upd nW), [], rfl, (fun _ h => by cases h), upd_same⟩ (fun j Hj hj hp => ?_) (fun H3 hp => ?_)
  · obtain ⟨n1, n2, drj, ws, hl, ho, ev⟩ := hp
    refine ⟨rfl, ?_⟩
    refine ⟨_, rfl, d, c, 2, rfl, drj, by decide, by decide, fun H' r' f' _ dr' r0' r1' => ⟨_, _, rfl, rfl, ?_⟩⟩
    obtain ⟨k, rfl⟩ := Int.eq_ofNat_of_zero_le r0'
    refine ⟨_, f' _ _ n1 ev, ?_, n1, n2, dr'.upd n1 n2, ws ++ [1 + k], ?_, ?_, ?_⟩
    · rw [List.length_map, hl]
      exact Nat.lt_of_lt_of_le (m := 10) (by omega) (by decide)
    · rw [List.length_append, hl]
      rfl
    · intro y hy
      rcases List.mem_append.mp hy with hy | hy
      · exact ho y hy
      · rw [List.mem_singleton.mp hy]
        omega
    · rw [upd_same, List.map_append]
      rfl
  obtain ⟨n1, n2, dr3, ws, hl, ho, ev⟩ := hp
  refine ⟨_, rfl, _, rfl, d, c, W, ws, 6, rfl, dr3, n1, ev, fun n hn => by have := ho n hn; omega, by omega, by omega, by decide, fun H4 Ea xs f4 dr4 nE nEd nEc eE hat hpw hxs lxs => ?_⟩
  have eW4 := f4 _ _ n1 ev
  refine ⟨_, rfl, Ea, _, rfl, .inl (.of eE), _, _, rfl, rfl, _, rfl, ite2 (fun g => ?_) (fun g => ?_)⟩
  · refine ⟨_, rfl, d, c, 2, rfl, dr4, by decide, by decide, fun H5 r5 f5 _ dr5 r50 r51 => ⟨_, rfl, ?_⟩⟩
    have eE5 := f5 _ _ nEd eE
    have eW5 := f5 _ _ n1 eW4
    have hat5 : ∀ x ∈ xs, EnAt H5 x := fun x hx => (hat x hx).tk (Tk.fd dr4 f5)
    refine ite2 (fun g2 => ?_) (fun g2 => ?_)
    · have g := of_decide_eq_true g
      rw [List.length_map] at g
      have hne : xs ≠ [] := fun z => by rw [z] at g; simp at g
      obtain ⟨ys, z, rfl⟩ : ∃ ys z, xs = ys ++ [z] := ⟨xs.dropLast, xs.getLast hne, (List.dropLast_concat_getLast hne).symm⟩
      obtain ⟨x0, hx0⟩ : ∃ x0, (ys ++ [z])[0]? = some x0 := by
        cases ys with
        | nil => exact ⟨z, rfl⟩
        | cons y ys => exact ⟨y, rfl⟩
      have hz := hat5 z (List.mem_append_right _ (List.mem_singleton.mpr rfl))
      have h0 := hat5 x0 (List.mem_of_getElem? hx0)
      have b0 := hxs x0 (List.mem_of_getElem? hx0)
      have bz := hxs z (List.mem_append_right _ (List.mem_singleton.mpr rfl))
      have eE5' : H5 Ea = some (.lst (ys.map (fun x => V.ref x.1) ++ [V.ref z.1])) := by rw [eE5, List.map_append]; rfl
      have hg0 : (ys.map (fun x => V.ref x.1) ++ [V.ref z.1])[0]? = some (V.ref x0.1) := by
        rw [show ys.map (fun x => V.ref x.1) ++ [V.ref z.1] = (ys ++ [z]).map fun x => V.ref x.1 by rw [List.map_append]; rfl, List.getElem?_map, hx0]
        rfl
      refine ⟨_, rfl, _, rfl, Ea, _, _, _, rfl, rfl, .of eE5', atI_last _ _, ?_⟩
      refine ⟨z.1, _, rfl, .of hz.1, rfl, _, _, rfl, _, _, rfl, _, _, rfl, rfl, ?_⟩
      refine ⟨_, rfl, _, rfl, Ea, _, _, _, rfl, rfl, .of eE5', atI_nat (j := 0) hg0, x0.1, _, _, _, rfl, rfl, .of h0.1, atI_nat (j := 1) rfl, _, rfl, Ea, _, _, _, rfl, rfl, .of eE5', atI_nat (j := 0) hg0, x0.1, _, _, _, rfl, rfl, .of h0.1, atI_nat (j := 2) rfl, by show 3 ≤ sizeLine; decide, fun p np => ?_⟩
      have sp := same_upd np (o := .tup [.int z.2.n, .int ((x0.2.t : Nat) : Int), .ref x0.2.a])
      have ep : (upd H5 p (.tup [.int z.2.n, .int ((x0.2.t : Nat) : Int), .ref x0.2.a])) p = some (.tup [.int z.2.n, .int ((x0.2.t : Nat) : Int), .ref x0.2.a]) := upd_same
      have npE : p ≠ Ea := (ne_of_none eE5 np).symm
      generalize upd H5 p (.tup [.int z.2.n, .int ((x0.2.t : Nat) : Int), .ref x0.2.a]) = H6 at sp ep ⊢
      have eE6 := sp _ _ eE5'
      have eW6 := sp _ _ eW5
      refine ⟨_, rfl, _, rfl, Ea, _, _, ys.length, rfl, rfl, eE6, ?_, ?_⟩
      · unfold ixN
        rw [if_neg (by decide), List.length_append, List.length_map, List.length_singleton, if_pos (by omega)]
        congr 1
        omega
      have est : (ys.map (fun x => V.ref x.1) ++ [V.ref z.1]).set ys.length (V.ref p) = (ys ++ [(p, (⟨z.2.n, x0.2.t, x0.2.a, x0.2.r⟩ : En))]).map fun x => V.ref x.1 := by
        rw [List.set_append_right (h := by rw [List.length_map]; exact Nat.le_refl _), List.length_map, Nat.sub_self, List.map_append]
        rfl
      rw [est]
      have tk6 : Tk H6 (upd H6 Ea (.lst ((ys ++ [(p, (⟨z.2.n, x0.2.t, x0.2.a, x0.2.r⟩ : En))]).map fun x => V.ref x.1))) := Tk.upd fun ys z => by rw [eE6] at z; cases z
      have nWE : W ≠ Ea := ne_of_none ev nE
      refine tail _ d W Ea ws _ _ _ _ (by rw [upd_ne nWE]; exact eW6) ho (by omega) upd_same (fun x hx => ?_) (by rw [List.map_append] at hpw ⊢; exact hpw) (fun x hx => ?_) (by rw [List.length_append] at lxs ⊢; exact lxs)
      · rcases List.mem_append.mp hx with hx | hx
        · exact (hat5 x (List.mem_append_left _ hx)).tk ((Tk.same sp).trans tk6)
        · rw [List.mem_singleton.mp hx]
          exact ⟨tk6 _ _ ep, tk6 _ _ (sp _ _ h0.2)⟩
      · rcases List.mem_append.mp hx with hx | hx
        · exact hxs x (List.mem_append_left _ hx)
        · rw [List.mem_singleton.mp hx]
          exact ⟨bz.1, bz.2.1, b0.2.2⟩
    · exact tail H5 d W Ea ws xs _ _ _ eW5 ho (by omega) eE5 hat5 hpw hxs lxs
  · exact iteF (tail H4 d W Ea ws xs _ _ _ eW4 ho (by omega) eE hat hpw hxs lxs)
end

set_option maxHeartbeats 0 in
theorem all_mk {l : PySem.W.OpenLaw} {w : World} {K : PySem.W.Frag} {h : Heap} {mg : Str → Option Value} {fa : Addr} (X : K.In h) (G : h.Ns mainGlobals mg) (hfa : mg "law" = some (.ref fa))
    {od0 an0 : Option Addr} {sl0 : Array (Option Value)} {oc0 kV0 dc0 pm0 cd0 ct0 : Value} {f0 : Addr}
    {od1 an1 : Option Addr} {sl1 : Array (Option Value)} {oc1 kV1 dc1 pm1 cd1 ct1 : Value} {f1 : Addr}
    {od2 an2 : Option Addr} {sl2 : Array (Option Value)} {oc2 kV2 dc2 pm2 cd2 ct2 : Value} {f2 : Addr}
    {od3 an3 : Option Addr} {sl3 : Array (Option Value)} {oc3 kV3 dc3 pm3 cd3 ct3 : Value} {f3 : Addr}
    {od4 an4 : Option Addr} {sl4 : Array (Option Value)} {oc4 kV4 dc4 pm4 cd4 ct4 : Value} {f4 : Addr}
    {od5 an5 : Option Addr} {sl5 : Array (Option Value)} {oc5 kV5 dc5 pm5 cd5 ct5 : Value} {f5 : Addr}
    {od6 an6 : Option Addr} {sl6 : Array (Option Value)} {oc6 kV6 dc6 pm6 cd6 ct6 : Value} {f6 : Addr}
    {od7 an7 : Option Addr} {sl7 : Array (Option Value)} {oc7 kV7 dc7 pm7 cd7 ct7 : Value} {f7 : Addr}
    {od8 an8 : Option Addr} {sl8 : Array (Option Value)} {oc8 kV8 dc8 pm8 cd8 ct8 : Value} {f8 : Addr}
    {od9 an9 : Option Addr} {sl9 : Array (Option Value)} {oc9 kV9 dc9 pm9 cd9 ct9 : Value} {f9 : Addr}
    {od10 an10 : Option Addr} {sl10 : Array (Option Value)} {oc10 kV10 dc10 pm10 cd10 ct10 : Value} {f10 : Addr}
    {od11 an11 : Option Addr} {sl11 : Array (Option Value)} {oc11 kV11 dc11 pm11 cd11 ct11 : Value} {f11 : Addr}
    {od12 an12 : Option Addr} {sl12 : Array (Option Value)} {oc12 kV12 dc12 pm12 cd12 ct12 : Value} {f12 : Addr}
    {od13 an13 : Option Addr} {sl13 : Array (Option Value)} {oc13 kV13 dc13 pm13 cd13 ct13 : Value} {f13 : Addr}
    {od14 an14 : Option Addr} {sl14 : Array (Option Value)} {oc14 kV14 dc14 pm14 cd14 ct14 : Value} {f14 : Addr}
    {od15 an15 : Option Addr} {sl15 : Array (Option Value)} {oc15 kV15 dc15 pm15 cd15 ct15 : Value} {f15 : Addr}
    {od16 an16 : Option Addr} {sl16 : Array (Option Value)} {oc16 kV16 dc16 pm16 cd16 ct16 : Value} {f16 : Addr}
    {od17 an17 : Option Addr} {sl17 : Array (Option Value)} {oc17 kV17 dc17 pm17 cd17 ct17 : Value} {f17 : Addr}
    {od18 an18 : Option Addr} {sl18 : Array (Option Value)} {oc18 kV18 dc18 pm18 cd18 ct18 : Value} {f18 : Addr}
    {od19 an19 : Option Addr} {sl19 : Array (Option Value)} {oc19 kV19 dc19 pm19 cd19 ct19 : Value} {f19 : Addr}
    {od20 an20 : Option Addr} {sl20 : Array (Option Value)} {oc20 kV20 dc20 pm20 cd20 ct20 : Value} {f20 : Addr}
    {od21 an21 : Option Addr} {sl21 : Array (Option Value)} {oc21 kV21 dc21 pm21 cd21 ct21 : Value} {f21 : Addr}
    {od22 an22 : Option Addr} {sl22 : Array (Option Value)} {oc22 kV22 dc22 pm22 cd22 ct22 : Value} {f22 : Addr}
    {od23 an23 : Option Addr} {sl23 : Array (Option Value)} {oc23 kV23 dc23 pm23 cd23 ct23 : Value} {f23 : Addr}
    {od24 an24 : Option Addr} {sl24 : Array (Option Value)} {oc24 kV24 dc24 pm24 cd24 ct24 : Value} {f24 : Addr}
    {od25 an25 : Option Addr} {sl25 : Array (Option Value)} {oc25 kV25 dc25 pm25 cd25 ct25 : Value} {f25 : Addr}
    {C_Diagrams : Addr}
    (a0 : PySem.W.findIn K (.ref C_Diagrams) "__init__" = some (some (.ref f0))) (i0 : PySem.W.isFn K (.ref f0) = true) (l0 : K.lookup f0 = some ⟨oc0, od0, .func (PySem.W.fnOf "__init__" "Diagrams.__init__" (defArgs s_Diagrams___init__) (defBody s_Diagrams___init__) (defScope s_Diagrams___init__) .none kV0 dc0 pm0 an0 cd0 ct0), sl0⟩) (c0 : PySem.W.codeIn K cd0 "Diagrams.__init__" = true) (k0 : PySem.W.keepIn K (.ref f0) = true)
    (a1 : PySem.W.findIn K (.ref C_Diagrams) "there" = some (some (.ref f1))) (i1 : PySem.W.isFn K (.ref f1) = true) (l1 : K.lookup f1 = some ⟨oc1, od1, .func (PySem.W.fnOf "there" "Diagrams.there" (defArgs s_Diagrams_there) (defBody s_Diagrams_there) (defScope s_Diagrams_there) .none kV1 dc1 pm1 an1 cd1 ct1), sl1⟩) (c1 : PySem.W.codeIn K cd1 "Diagrams.there" = true) (k1 : PySem.W.keepIn K (.ref f1) = true)
    (a2 : PySem.W.findIn K (.ref C_Diagrams) "disjunction" = some (some (.ref f2))) (i2 : PySem.W.isFn K (.ref f2) = true) (l2 : K.lookup f2 = some ⟨oc2, od2, .func (PySem.W.fnOf "disjunction" "Diagrams.disjunction" (defArgs s_Diagrams_disjunction) (defBody s_Diagrams_disjunction) (defScope s_Diagrams_disjunction) .none kV2 dc2 pm2 an2 cd2 ct2), sl2⟩) (c2 : PySem.W.codeIn K cd2 "Diagrams.disjunction" = true) (k2 : PySem.W.keepIn K (.ref f2) = true)
    (a3 : PySem.W.findIn K (.ref C_Diagrams) "holds" = some (some (.ref f3))) (i3 : PySem.W.isFn K (.ref f3) = true) (l3 : K.lookup f3 = some ⟨oc3, od3, .func (PySem.W.fnOf "holds" "Diagrams.holds" (defArgs s_Diagrams_holds) (defBody s_Diagrams_holds) (defScope s_Diagrams_holds) .none kV3 dc3 pm3 an3 cd3 ct3), sl3⟩) (c3 : PySem.W.codeIn K cd3 "Diagrams.holds" = true) (k3 : PySem.W.keepIn K (.ref f3) = true)
    (a4 : PySem.W.findIn K (.ref C_Diagrams) "top" = some (some (.ref f4))) (i4 : PySem.W.isFn K (.ref f4) = true) (l4 : K.lookup f4 = some ⟨oc4, od4, .func (PySem.W.fnOf "top" "Diagrams.top" (defArgs s_Diagrams_top) (defBody s_Diagrams_top) (defScope s_Diagrams_top) .none kV4 dc4 pm4 an4 cd4 ct4), sl4⟩) (c4 : PySem.W.codeIn K cd4 "Diagrams.top" = true) (k4 : PySem.W.keepIn K (.ref f4) = true)
    (a5 : PySem.W.findIn K (.ref C_Diagrams) "branches" = some (some (.ref f5))) (i5 : PySem.W.isFn K (.ref f5) = true) (l5 : K.lookup f5 = some ⟨oc5, od5, .func (PySem.W.fnOf "branches" "Diagrams.branches" (defArgs s_Diagrams_branches) (defBody s_Diagrams_branches) (defScope s_Diagrams_branches) .none kV5 dc5 pm5 an5 cd5 ct5), sl5⟩) (c5 : PySem.W.codeIn K cd5 "Diagrams.branches" = true) (k5 : PySem.W.keepIn K (.ref f5) = true)
    (a6 : PySem.W.findIn K (.ref C_Diagrams) "node_of" = some (some (.ref f6))) (i6 : PySem.W.isFn K (.ref f6) = true) (l6 : K.lookup f6 = some ⟨oc6, od6, .func (PySem.W.fnOf "node_of" "Diagrams.node_of" (defArgs s_Diagrams_node_of) (defBody s_Diagrams_node_of) (defScope s_Diagrams_node_of) .none kV6 dc6 pm6 an6 cd6 ct6), sl6⟩) (c6 : PySem.W.codeIn K cd6 "Diagrams.node_of" = true) (k6 : PySem.W.keepIn K (.ref f6) = true)
    (a7 : PySem.W.findIn K (.ref C_Diagrams) "node" = some (some (.ref f7))) (i7 : PySem.W.isFn K (.ref f7) = true) (l7 : K.lookup f7 = some ⟨oc7, od7, .func (PySem.W.fnOf "node" "Diagrams.node" (defArgs s_Diagrams_node) (defBody s_Diagrams_node) (defScope s_Diagrams_node) .none kV7 dc7 pm7 an7 cd7 ct7), sl7⟩) (c7 : PySem.W.codeIn K cd7 "Diagrams.node" = true) (k7 : PySem.W.keepIn K (.ref f7) = true)
    (a8 : PySem.W.findIn K (.ref C_Diagrams) "combine" = some (some (.ref f8))) (i8 : PySem.W.isFn K (.ref f8) = true) (l8 : K.lookup f8 = some ⟨oc8, od8, .func (PySem.W.fnOf "combine" "Diagrams.combine" (defArgs s_Diagrams_combine) (defBody s_Diagrams_combine) (defScope s_Diagrams_combine) .none kV8 dc8 pm8 an8 cd8 ct8), sl8⟩) (c8 : PySem.W.codeIn K cd8 "Diagrams.combine" = true) (k8 : PySem.W.keepIn K (.ref f8) = true)
    (a9 : PySem.W.nsIn K mainGlobals "value_key" = some (some (.ref f9))) (l9 : K.lookup f9 = some ⟨oc9, od9, .func (PySem.W.fnOf "value_key" "value_key" (defArgs s_value_key) (defBody s_value_key) (defScope s_value_key) .none kV9 dc9 pm9 an9 cd9 ct9), sl9⟩) (c9 : PySem.W.codeIn K cd9 "value_key" = true) (k9 : PySem.W.keepIn K (.ref f9) = true)
    (a10 : PySem.W.nsIn K mainGlobals "row_key" = some (some (.ref f10))) (l10 : K.lookup f10 = some ⟨oc10, od10, .func (PySem.W.fnOf "row_key" "row_key" (defArgs s_row_key) (defBody s_row_key) (defScope s_row_key) .none kV10 dc10 pm10 an10 cd10 ct10), sl10⟩) (c10 : PySem.W.codeIn K cd10 "row_key" = true) (k10 : PySem.W.keepIn K (.ref f10) = true)
    (a11 : PySem.W.nsIn K mainGlobals "entry_candidates" = some (some (.ref f11))) (l11 : K.lookup f11 = some ⟨oc11, od11, .func (PySem.W.fnOf "entry_candidates" "entry_candidates" (defArgs s_entry_candidates) (defBody s_entry_candidates) (defScope s_entry_candidates) .none kV11 dc11 pm11 an11 cd11 ct11), sl11⟩) (c11 : PySem.W.codeIn K cd11 "entry_candidates" = true) (k11 : PySem.W.keepIn K (.ref f11) = true)
    (a12 : PySem.W.nsIn K mainGlobals "condition_of" = some (some (.ref f12))) (l12 : K.lookup f12 = some ⟨oc12, od12, .func (PySem.W.fnOf "condition_of" "condition_of" (defArgs s_condition_of) (defBody s_condition_of) (defScope s_condition_of) .none kV12 dc12 pm12 an12 cd12 ct12), sl12⟩) (c12 : PySem.W.codeIn K cd12 "condition_of" = true) (k12 : PySem.W.keepIn K (.ref f12) = true)
    (a13 : PySem.W.nsIn K mainGlobals "candidate_key" = some (some (.ref f13))) (l13 : K.lookup f13 = some ⟨oc13, od13, .func (PySem.W.fnOf "candidate_key" "candidate_key" (defArgs s_candidate_key) (defBody s_candidate_key) (defScope s_candidate_key) .none kV13 dc13 pm13 an13 cd13 ct13), sl13⟩) (c13 : PySem.W.codeIn K cd13 "candidate_key" = true) (k13 : PySem.W.keepIn K (.ref f13) = true)
    (a14 : PySem.W.nsIn K mainGlobals "in_row_order" = some (some (.ref f14))) (l14 : K.lookup f14 = some ⟨oc14, od14, .func (PySem.W.fnOf "in_row_order" "in_row_order" (defArgs s_in_row_order) (defBody s_in_row_order) (defScope s_in_row_order) .none kV14 dc14 pm14 an14 cd14 ct14), sl14⟩) (c14 : PySem.W.codeIn K cd14 "in_row_order" = true) (k14 : PySem.W.keepIn K (.ref f14) = true)
    (a15 : PySem.W.nsIn K mainGlobals "_law_draw" = some (some (.ref f15))) (l15 : K.lookup f15 = some ⟨oc15, od15, .func (PySem.W.fnOf "_law_draw" "_law_draw" (defArgs s__law_draw) (defBody s__law_draw) (defScope s__law_draw) .none kV15 dc15 pm15 an15 cd15 ct15), sl15⟩) (c15 : PySem.W.codeIn K cd15 "_law_draw" = true) (k15 : PySem.W.keepIn K (.ref f15) = true)
    (a16 : PySem.W.nsIn K mainGlobals "_law_next" = some (some (.ref f16))) (l16 : K.lookup f16 = some ⟨oc16, od16, .func (PySem.W.fnOf "_law_next" "_law_next" (defArgs s__law_next) (defBody s__law_next) (defScope s__law_next) .none kV16 dc16 pm16 an16 cd16 ct16), sl16⟩) (c16 : PySem.W.codeIn K cd16 "_law_next" = true) (k16 : PySem.W.keepIn K (.ref f16) = true)
    (a17 : PySem.W.nsIn K mainGlobals "_law_same" = some (some (.ref f17))) (l17 : K.lookup f17 = some ⟨oc17, od17, .func (PySem.W.fnOf "_law_same" "_law_same" (defArgs s__law_same) (defBody s__law_same) (defScope s__law_same) .none kV17 dc17 pm17 an17 cd17 ct17), sl17⟩) (c17 : PySem.W.codeIn K cd17 "_law_same" = true) (k17 : PySem.W.keepIn K (.ref f17) = true)
    (a18 : PySem.W.nsIn K mainGlobals "_law_cell" = some (some (.ref f18))) (l18 : K.lookup f18 = some ⟨oc18, od18, .func (PySem.W.fnOf "_law_cell" "_law_cell" (defArgs s__law_cell) (defBody s__law_cell) (defScope s__law_cell) .none kV18 dc18 pm18 an18 cd18 ct18), sl18⟩) (c18 : PySem.W.codeIn K cd18 "_law_cell" = true) (k18 : PySem.W.keepIn K (.ref f18) = true)
    (a19 : PySem.W.nsIn K mainGlobals "_law_key" = some (some (.ref f19))) (l19 : K.lookup f19 = some ⟨oc19, od19, .func (PySem.W.fnOf "_law_key" "_law_key" (defArgs s__law_key) (defBody s__law_key) (defScope s__law_key) .none kV19 dc19 pm19 an19 cd19 ct19), sl19⟩) (c19 : PySem.W.codeIn K cd19 "_law_key" = true) (k19 : PySem.W.keepIn K (.ref f19) = true)
    (a20 : PySem.W.nsIn K mainGlobals "_law_row_key" = some (some (.ref f20))) (l20 : K.lookup f20 = some ⟨oc20, od20, .func (PySem.W.fnOf "_law_row_key" "_law_row_key" (defArgs s__law_row_key) (defBody s__law_row_key) (defScope s__law_row_key) .none kV20 dc20 pm20 an20 cd20 ct20), sl20⟩) (c20 : PySem.W.codeIn K cd20 "_law_row_key" = true) (k20 : PySem.W.keepIn K (.ref f20) = true)
    (a21 : PySem.W.nsIn K mainGlobals "_law_distinct" = some (some (.ref f21))) (l21 : K.lookup f21 = some ⟨oc21, od21, .func (PySem.W.fnOf "_law_distinct" "_law_distinct" (defArgs s__law_distinct) (defBody s__law_distinct) (defScope s__law_distinct) .none kV21 dc21 pm21 an21 cd21 ct21), sl21⟩) (c21 : PySem.W.codeIn K cd21 "_law_distinct" = true) (k21 : PySem.W.keepIn K (.ref f21) = true)
    (a22 : PySem.W.nsIn K mainGlobals "_law_ordered" = some (some (.ref f22))) (l22 : K.lookup f22 = some ⟨oc22, od22, .func (PySem.W.fnOf "_law_ordered" "_law_ordered" (defArgs s__law_ordered) (defBody s__law_ordered) (defScope s__law_ordered) .none kV22 dc22 pm22 an22 cd22 ct22), sl22⟩) (c22 : PySem.W.codeIn K cd22 "_law_ordered" = true) (k22 : PySem.W.keepIn K (.ref f22) = true)
    (a23 : PySem.W.nsIn K mainGlobals "_law_subsets" = some (some (.ref f23))) (l23 : K.lookup f23 = some ⟨oc23, od23, .func (PySem.W.fnOf "_law_subsets" "_law_subsets" (defArgs s__law_subsets) (defBody s__law_subsets) (defScope s__law_subsets) .none kV23 dc23 pm23 an23 cd23 ct23), sl23⟩) (c23 : PySem.W.codeIn K cd23 "_law_subsets" = true) (k23 : PySem.W.keepIn K (.ref f23) = true)
    (a24 : PySem.W.nsIn K mainGlobals "_law_inputs" = some (some (.ref f24))) (l24 : K.lookup f24 = some ⟨oc24, od24, .func (PySem.W.fnOf "_law_inputs" "_law_inputs" (defArgs s__law_inputs) (defBody s__law_inputs) (defScope s__law_inputs) .none kV24 dc24 pm24 an24 cd24 ct24), sl24⟩) (c24 : PySem.W.codeIn K cd24 "_law_inputs" = true) (k24 : PySem.W.keepIn K (.ref f24) = true)
    (a25 : PySem.W.nsIn K mainGlobals "law" = some (some (.ref f25))) (l25 : K.lookup f25 = some ⟨oc25, od25, .func (PySem.W.fnOf "law" "law" (defArgs s_law) (defBody s_law) (defScope s_law) .none kV25 dc25 pm25 an25 cd25 ct25), sl25⟩) (c25 : PySem.W.codeIn K cd25 "law" = true) (k25 : PySem.W.keepIn K (.ref f25) = true)
    {tk_NEVER : Tok} (w_NEVER : PySem.W.nsIn K mainGlobals "NEVER" = some (some (.int 0 tk_NEVER))) {tk_ALWAYS : Tok} (w_ALWAYS : PySem.W.nsIn K mainGlobals "ALWAYS" = some (some (.int 1 tk_ALWAYS))) {tk_FIRST_NODE : Tok} (w_FIRST_NODE : PySem.W.nsIn K mainGlobals "FIRST_NODE" = some (some (.int 2 tk_FIRST_NODE))) (aC_Diagrams : PySem.W.nsIn K mainGlobals "Diagrams" = some (some (.ref C_Diagrams))) (pg_Diagrams : PySem.W.plainGet K C_Diagrams Str.empty = true) (hd_Diagrams : PySem.W.hasDictIn K C_Diagrams = true) (po_Diagrams : PySem.W.plainOver K C_Diagrams = true) (sa_Diagrams : PySem.W.findIn K (.ref C_Diagrams) "__setattr__" = some (some (.builtin "object.__setattr__"))) (mk_Diagrams : PySem.W.makesIn K C_Diagrams = true) (kc_Diagrams : PySem.W.keepIn K (.ref C_Diagrams) = true) (nf_Diagrams_combined : PySem.W.findIn K (.ref C_Diagrams) "combined" = some none) (nf_Diagrams_kept : PySem.W.findIn K (.ref C_Diagrams) "kept" = some none) (nf_Diagrams_numbers : PySem.W.findIn K (.ref C_Diagrams) "numbers" = some none) (z_abs : PySem.W.nsIn K mainGlobals "abs" = some none) (z_all : PySem.W.nsIn K mainGlobals "all" = some none) (z_any : PySem.W.nsIn K mainGlobals "any" = some none) (z_bool : PySem.W.nsIn K mainGlobals "bool" = some none) (z_int : PySem.W.nsIn K mainGlobals "int" = some none) (z_isinstance : PySem.W.nsIn K mainGlobals "isinstance" = some none) (z_len : PySem.W.nsIn K mainGlobals "len" = some none) (z_list : PySem.W.nsIn K mainGlobals "list" = some none) (z_min : PySem.W.nsIn K mainGlobals "min" = some none) (z_range : PySem.W.nsIn K mainGlobals "range" = some none) (z_repr : PySem.W.nsIn K mainGlobals "repr" = some none) (z_sorted : PySem.W.nsIn K mainGlobals "sorted" = some none) (z_str : PySem.W.nsIn K mainGlobals "str" = some none) (z_tuple : PySem.W.nsIn K mainGlobals "tuple" = some none) :
    ∃ fd : FuncData, (∀ (s : Shared) (v : Value), BindsTo s fd ⟨[v], []⟩ [("script", v)]) ∧ ∀ base : Heap, K.In base → base.Ns mainGlobals mg → CallerOk l.prog w K mg base fa fd "script" (sp_law K) := by
  have e := hfa.symm.trans (PySem.W.mg_of X G a25)
  cases e
  have F_Diagrams___init__ := fun_mk (st := s_Diagrams___init__) l0 c0 k0
  have b_Diagrams___init__ := F_Diagrams___init__.binds (ps := ["self"]) fun _ _ _ _ _ _ us hl => match us, hl with | [_], _ => rfl
  have mk0_Diagrams : Mk K C_Diagrams f0 := ⟨mk_Diagrams, a0, i0, kc_Diagrams⟩
  have F_Diagrams_there := fun_mk (st := s_Diagrams_there) l1 c1 k1
  have b_Diagrams_there := F_Diagrams_there.binds (ps := ["self", "entry"]) fun _ _ _ _ _ _ us hl => match us, hl with | [_, _], _ => rfl
  have m_Diagrams_there : Meth K C_Diagrams "there" f1 := ⟨a1, i1, k1⟩
  have F_Diagrams_disjunction := fun_mk (st := s_Diagrams_disjunction) l2 c2 k2
  have b_Diagrams_disjunction := F_Diagrams_disjunction.binds (ps := ["self", "first", "second"]) fun _ _ _ _ _ _ us hl => match us, hl with | [_, _, _], _ => rfl
  have m_Diagrams_disjunction : Meth K C_Diagrams "disjunction" f2 := ⟨a2, i2, k2⟩
  have F_Diagrams_holds := fun_mk (st := s_Diagrams_holds) l3 c3 k3
  have b_Diagrams_holds := F_Diagrams_holds.binds (ps := ["self", "condition", "present"]) fun _ _ _ _ _ _ us hl => match us, hl with | [_, _, _], _ => rfl
  have m_Diagrams_holds : Meth K C_Diagrams "holds" f3 := ⟨a3, i3, k3⟩
  have F_Diagrams_top := fun_mk (st := s_Diagrams_top) l4 c4 k4
  have b_Diagrams_top := F_Diagrams_top.binds (ps := ["self", "conditions"]) fun _ _ _ _ _ _ us hl => match us, hl with | [_, _], _ => rfl
  have m_Diagrams_top : Meth K C_Diagrams "top" f4 := ⟨a4, i4, k4⟩
  have F_Diagrams_branches := fun_mk (st := s_Diagrams_branches) l5 c5 k5
  have b_Diagrams_branches := F_Diagrams_branches.binds (ps := ["self", "condition", "entry"]) fun _ _ _ _ _ _ us hl => match us, hl with | [_, _, _], _ => rfl
  have m_Diagrams_branches : Meth K C_Diagrams "branches" f5 := ⟨a5, i5, k5⟩
  have F_Diagrams_node_of := fun_mk (st := s_Diagrams_node_of) l6 c6 k6
  have b_Diagrams_node_of := F_Diagrams_node_of.binds (ps := ["self", "condition"]) fun _ _ _ _ _ _ us hl => match us, hl with | [_, _], _ => rfl
  have m_Diagrams_node_of : Meth K C_Diagrams "node_of" f6 := ⟨a6, i6, k6⟩
  have F_Diagrams_node := fun_mk (st := s_Diagrams_node) l7 c7 k7
  have b_Diagrams_node := F_Diagrams_node.binds (ps := ["self", "entry", "without", "there"]) fun _ _ _ _ _ _ us hl => match us, hl with | [_, _, _, _], _ => rfl
  have m_Diagrams_node : Meth K C_Diagrams "node" f7 := ⟨a7, i7, k7⟩
  have F_Diagrams_combine := fun_mk (st := s_Diagrams_combine) l8 c8 k8
  have b_Diagrams_combine := F_Diagrams_combine.binds (ps := ["self", "condition", "first", "second"]) fun _ _ _ _ _ _ us hl => match us, hl with | [_, _, _, _], _ => rfl
  have m_Diagrams_combine : Meth K C_Diagrams "combine" f8 := ⟨a8, i8, k8⟩
  have F_value_key := fun_mk (st := s_value_key) l9 c9 k9
  have b_value_key := F_value_key.binds (ps := ["value"]) fun _ _ _ _ _ _ us hl => match us, hl with | [_], _ => rfl
  have g_value_key := PySem.W.mg_of X G a9
  have F_row_key := fun_mk (st := s_row_key) l10 c10 k10
  have b_row_key := F_row_key.binds (ps := ["row"]) fun _ _ _ _ _ _ us hl => match us, hl with | [_], _ => rfl
  have g_row_key := PySem.W.mg_of X G a10
  have F_entry_candidates := fun_mk (st := s_entry_candidates) l11 c11 k11
  have b_entry_candidates := F_entry_candidates.binds (ps := ["store", "entries", "table"]) fun _ _ _ _ _ _ us hl => match us, hl with | [_, _, _], _ => rfl
  have g_entry_candidates := PySem.W.mg_of X G a11
  have F_condition_of := fun_mk (st := s_condition_of) l12 c12 k12
  have b_condition_of := F_condition_of.binds (ps := ["candidates", "row"]) fun _ _ _ _ _ _ us hl => match us, hl with | [_, _], _ => rfl
  have g_condition_of := PySem.W.mg_of X G a12
  have F_candidate_key := fun_mk (st := s_candidate_key) l13 c13 k13
  have b_candidate_key := F_candidate_key.binds (ps := ["candidate"]) fun _ _ _ _ _ _ us hl => match us, hl with | [_], _ => rfl
  have g_candidate_key := PySem.W.mg_of X G a13
  have F_in_row_order := fun_mk (st := s_in_row_order) l14 c14 k14
  have b_in_row_order := F_in_row_order.binds (ps := ["found"]) fun _ _ _ _ _ _ us hl => match us, hl with | [_], _ => rfl
  have g_in_row_order := PySem.W.mg_of X G a14
  have F__law_draw := fun_mk (st := s__law_draw) l15 c15 k15
  have b__law_draw := F__law_draw.binds (ps := ["script"]) fun _ _ _ _ _ _ us hl => match us, hl with | [_], _ => rfl
  have g__law_draw := PySem.W.mg_of X G a15
  have F__law_next := fun_mk (st := s__law_next) l16 c16 k16
  have b__law_next := F__law_next.binds (ps := ["draw", "many"]) fun _ _ _ _ _ _ us hl => match us, hl with | [_, _], _ => rfl
  have g__law_next := PySem.W.mg_of X G a16
  have F__law_same := fun_mk (st := s__law_same) l17 c17 k17
  have b__law_same := F__law_same.binds (ps := ["actual", "due"]) fun _ _ _ _ _ _ us hl => match us, hl with | [_, _], _ => rfl
  have g__law_same := PySem.W.mg_of X G a17
  have F__law_cell := fun_mk (st := s__law_cell) l18 c18 k18
  have b__law_cell := F__law_cell.binds (ps := ["draw"]) fun _ _ _ _ _ _ us hl => match us, hl with | [_], _ => rfl
  have g__law_cell := PySem.W.mg_of X G a18
  have F__law_key := fun_mk (st := s__law_key) l19 c19 k19
  have b__law_key := F__law_key.binds (ps := ["value"]) fun _ _ _ _ _ _ us hl => match us, hl with | [_], _ => rfl
  have g__law_key := PySem.W.mg_of X G a19
  have F__law_row_key := fun_mk (st := s__law_row_key) l20 c20 k20
  have b__law_row_key := F__law_row_key.binds (ps := ["row"]) fun _ _ _ _ _ _ us hl => match us, hl with | [_], _ => rfl
  have g__law_row_key := PySem.W.mg_of X G a20
  have F__law_distinct := fun_mk (st := s__law_distinct) l21 c21 k21
  have b__law_distinct := F__law_distinct.binds (ps := ["rows"]) fun _ _ _ _ _ _ us hl => match us, hl with | [_], _ => rfl
  have g__law_distinct := PySem.W.mg_of X G a21
  have F__law_ordered := fun_mk (st := s__law_ordered) l22 c22 k22
  have b__law_ordered := F__law_ordered.binds (ps := ["rows"]) fun _ _ _ _ _ _ us hl => match us, hl with | [_], _ => rfl
  have g__law_ordered := PySem.W.mg_of X G a22
  have F__law_subsets := fun_mk (st := s__law_subsets) l23 c23 k23
  have b__law_subsets := F__law_subsets.binds (ps := ["entries"]) fun _ _ _ _ _ _ us hl => match us, hl with | [_], _ => rfl
  have g__law_subsets := PySem.W.mg_of X G a23
  have F__law_inputs := fun_mk (st := s__law_inputs) l24 c24 k24
  have b__law_inputs := F__law_inputs.binds (ps := ["draw", "widths", "most"]) fun _ _ _ _ _ _ us hl => match us, hl with | [_, _, _], _ => rfl
  have g__law_inputs := PySem.W.mg_of X G a24
  have F_law := fun_mk (st := s_law) l25 c25 k25
  have cl_Diagrams : Cls K C_Diagrams := ⟨pg_Diagrams, hd_Diagrams, po_Diagrams, sa_Diagrams⟩
  have g_Diagrams := PySem.W.mg_of X G aC_Diagrams
  have M : Mg mg := ⟨PySem.W.mg_none_of X G z_abs, PySem.W.mg_none_of X G z_all, PySem.W.mg_none_of X G z_any, PySem.W.mg_none_of X G z_bool, PySem.W.mg_none_of X G z_int, PySem.W.mg_none_of X G z_isinstance, PySem.W.mg_none_of X G z_len, PySem.W.mg_none_of X G z_list, PySem.W.mg_none_of X G z_min, PySem.W.mg_none_of X G z_range, PySem.W.mg_none_of X G z_repr, PySem.W.mg_none_of X G z_sorted, PySem.W.mg_none_of X G z_str, PySem.W.mg_none_of X G z_tuple⟩
  exact ⟨PySem.W.fnOf "law" "law" (defArgs s_law) (defBody s_law) (defScope s_law) .none kV25 dc25 pm25 an25 cd25 ct25, fun s v => .of_eq rfl, fun base _ _ => by
  have GD : DgC K C_Diagrams mg := ⟨cl_Diagrams, nf_Diagrams_kept, nf_Diagrams_numbers, nf_Diagrams_combined, ⟨_, PySem.W.mg_of X G w_NEVER, _, rfl⟩, ⟨_, PySem.W.mg_of X G w_ALWAYS, _, rfl⟩, ⟨_, PySem.W.mg_of X G w_FIRST_NODE, _, rfl⟩⟩
  have NOF := FnOk.clm (P := l.prog) (w := w) (base := base) (ok_nof F_Diagrams_node_of M GD) m_Diagrams_node_of cl_Diagrams b_Diagrams_node_of
  have NDE := FnOk.clm (P := l.prog) (w := w) (base := base) (ok_node F_Diagrams_node M GD) m_Diagrams_node cl_Diagrams b_Diagrams_node
  have TOP := FnOk.clm (ok_top F_Diagrams_top M GD NOF) m_Diagrams_top cl_Diagrams b_Diagrams_top
  have BRA := FnOk.clm (ok_bra F_Diagrams_branches M GD NOF) m_Diagrams_branches cl_Diagrams b_Diagrams_branches
  have CMB := cl_comb F_Diagrams_combine M GD m_Diagrams_combine b_Diagrams_combine NDE TOP BRA 9
  have THE := FnOk.clm (ok_there F_Diagrams_there M GD NDE) m_Diagrams_there cl_Diagrams b_Diagrams_there
  have DIS := FnOk.clm (ok_disj F_Diagrams_disjunction M GD CMB) m_Diagrams_disjunction cl_Diagrams b_Diagrams_disjunction
  have HOL := FnOk.clm (ok_holds F_Diagrams_holds M GD NOF) m_Diagrams_holds cl_Diagrams b_Diagrams_holds
  have DIN : ClC l.prog w K mg base 1 "Diagrams" C_Diagrams (sp_dinit C_Diagrams K) := ⟨_, _, _, ok_dinit F_Diagrams___init__ GD, mk0_Diagrams, g_Diagrams, b_Diagrams___init__⟩
  have N := FnOk.cl (P := l.prog) (w := w) (base := base) (ok_next F__law_next M) F__law_next g__law_next b__law_next
  have DR := FnOk.cl (P := l.prog) (w := w) (base := base) (ok_draw F__law_draw M) F__law_draw g__law_draw b__law_draw

  have SM := cl_same (P := l.prog) (w := w) (base := base) F__law_same M g__law_same b__law_same
  have CEL := FnOk.cl (ok_cell F__law_cell M N) F__law_cell g__law_cell b__law_cell
  have LKE := FnOk.cl (P := l.prog) (w := w) (base := base) (ok_lkey F__law_key M) F__law_key g__law_key b__law_key
  have LRK := FnOk.cl (ok_lrkey F__law_row_key M LKE) F__law_row_key g__law_row_key b__law_row_key
  have LDI := FnOk.cl (P := l.prog) (w := w) (base := base) (ok_ldist F__law_distinct M) F__law_distinct g__law_distinct b__law_distinct
  have LOR := FnOk.cl (ok_lord F__law_ordered M LDI LRK) F__law_ordered g__law_ordered b__law_ordered
  have KEY := FnOk.cl (P := l.prog) (w := w) (base := base) (ok_key F_value_key M) F_value_key g_value_key b_value_key
  have RKE := FnOk.cl (ok_rkey F_row_key M KEY) F_row_key g_row_key b_row_key
  have CKE := FnOk.cl (ok_ckey F_candidate_key M RKE) F_candidate_key g_candidate_key b_candidate_key
  have IRO := FnOk.cl (ok_iro F_in_row_order M CKE) F_in_row_order g_in_row_order b_in_row_order
  have ECA := FnOk.cl (ok_ecand F_entry_candidates M GD THE DIS IRO) F_entry_candidates g_entry_candidates b_entry_candidates
  have COF := FnOk.cl (P := l.prog) (w := w) (base := base) (ok_cof F_condition_of M GD) F_condition_of g_condition_of b_condition_of
  have LSN := FnOk.cl (P := l.prog) (w := w) (base := base) (ok_subsN F__law_subsets M) F__law_subsets g__law_subsets b__law_subsets
  have INP := FnOk.cl (ok_inp F__law_inputs M N CEL) F__law_inputs g__law_inputs b__law_inputs
  exact ok_law F_law M DR N INP DIN LOR ECA LSN (SM 4) HOL COF⟩
end Lw
open PySem PySem.W PyProof.Rows
set_option maxHeartbeats 0 in
theorem PySem.Challenge.cw_lineworks_k64_candidates_of_tables_holds : PySem.Challenge.rw_lineworks_k64_candidates_of_tables.Holds := by
  w_on; o_law; k_head; (case hw => w_witness2)
  k_fill
  refine Lw.walk_ofG (l := PySem.Challenge.rw_lineworks_k64_candidates_of_tables) (n := 63) (p := "script") (sp := fun w => Lw.sp_law _) rfl (by decide) rfl (fun w h Y => PySem.W.kIn_of Y) ?F (fun _ _ a ns hl hS => ⟨a, ns, rfl, hS, hl, fun _ => rfl⟩)
  case F =>
    intro w mg fa h KX G hmg
    refine' Lw.all_mk KX G hmg ?a0 ?i0 ?l0 ?c0 ?k0 ?a1 ?i1 ?l1 ?c1 ?k1 ?a2 ?i2 ?l2 ?c2 ?k2 ?a3 ?i3 ?l3 ?c3 ?k3 ?a4 ?i4 ?l4 ?c4 ?k4 ?a5 ?i5 ?l5 ?c5 ?k5 ?a6 ?i6 ?l6 ?c6 ?k6 ?a7 ?i7 ?l7 ?c7 ?k7 ?a8 ?i8 ?l8 ?c8 ?k8 ?a9 ?l9 ?c9 ?k9 ?a10 ?l10 ?c10 ?k10 ?a11 ?l11 ?c11 ?k11 ?a12 ?l12 ?c12 ?k12 ?a13 ?l13 ?c13 ?k13 ?a14 ?l14 ?c14 ?k14 ?a15 ?l15 ?c15 ?k15 ?a16 ?l16 ?c16 ?k16 ?a17 ?l17 ?c17 ?k17 ?a18 ?l18 ?c18 ?k18 ?a19 ?l19 ?c19 ?k19 ?a20 ?l20 ?c20 ?k20 ?a21 ?l21 ?c21 ?k21 ?a22 ?l22 ?c22 ?k22 ?a23 ?l23 ?c23 ?k23 ?a24 ?l24 ?c24 ?k24 ?a25 ?l25 ?c25 ?k25 ?w_NEVER ?w_ALWAYS ?w_FIRST_NODE ?aC_Diagrams ?pg_Diagrams ?hd_Diagrams ?po_Diagrams ?sa_Diagrams ?mk_Diagrams ?kc_Diagrams ?nf_Diagrams_combined ?nf_Diagrams_kept ?nf_Diagrams_numbers ?z_abs ?z_all ?z_any ?z_bool ?z_int ?z_isinstance ?z_len ?z_list ?z_min ?z_range ?z_repr ?z_sorted ?z_str ?z_tuple
    (case aC_Diagrams => k_is)
    (case pg_Diagrams => k_is)
    (case hd_Diagrams => k_is)
    (case po_Diagrams => k_is)
    (case sa_Diagrams => k_is)
    (case mk_Diagrams => k_is)
    (case kc_Diagrams => k_is)
    (case nf_Diagrams_combined => k_is)
    (case nf_Diagrams_kept => k_is)
    (case nf_Diagrams_numbers => k_is)
    (case a0 => k_is); (case i0 => k_is); (case l0 => k_is); (case c0 => k_is); (case k0 => k_is)
    (case a1 => k_is); (case i1 => k_is); (case l1 => k_is); (case c1 => k_is); (case k1 => k_is)
    (case a2 => k_is); (case i2 => k_is); (case l2 => k_is); (case c2 => k_is); (case k2 => k_is)
    (case a3 => k_is); (case i3 => k_is); (case l3 => k_is); (case c3 => k_is); (case k3 => k_is)
    (case a4 => k_is); (case i4 => k_is); (case l4 => k_is); (case c4 => k_is); (case k4 => k_is)
    (case a5 => k_is); (case i5 => k_is); (case l5 => k_is); (case c5 => k_is); (case k5 => k_is)
    (case a6 => k_is); (case i6 => k_is); (case l6 => k_is); (case c6 => k_is); (case k6 => k_is)
    (case a7 => k_is); (case i7 => k_is); (case l7 => k_is); (case c7 => k_is); (case k7 => k_is)
    (case a8 => k_is); (case i8 => k_is); (case l8 => k_is); (case c8 => k_is); (case k8 => k_is)
    (case a9 => k_is); (case l9 => k_is); (case c9 => k_is); (case k9 => k_is)
    (case a10 => k_is); (case l10 => k_is); (case c10 => k_is); (case k10 => k_is)
    (case a11 => k_is); (case l11 => k_is); (case c11 => k_is); (case k11 => k_is)
    (case a12 => k_is); (case l12 => k_is); (case c12 => k_is); (case k12 => k_is)
    (case a13 => k_is); (case l13 => k_is); (case c13 => k_is); (case k13 => k_is)
    (case a14 => k_is); (case l14 => k_is); (case c14 => k_is); (case k14 => k_is)
    (case a15 => k_is); (case l15 => k_is); (case c15 => k_is); (case k15 => k_is)
    (case a16 => k_is); (case l16 => k_is); (case c16 => k_is); (case k16 => k_is)
    (case a17 => k_is); (case l17 => k_is); (case c17 => k_is); (case k17 => k_is)
    (case a18 => k_is); (case l18 => k_is); (case c18 => k_is); (case k18 => k_is)
    (case a19 => k_is); (case l19 => k_is); (case c19 => k_is); (case k19 => k_is)
    (case a20 => k_is); (case l20 => k_is); (case c20 => k_is); (case k20 => k_is)
    (case a21 => k_is); (case l21 => k_is); (case c21 => k_is); (case k21 => k_is)
    (case a22 => k_is); (case l22 => k_is); (case c22 => k_is); (case k22 => k_is)
    (case a23 => k_is); (case l23 => k_is); (case c23 => k_is); (case k23 => k_is)
    (case a24 => k_is); (case l24 => k_is); (case c24 => k_is); (case k24 => k_is)
    (case a25 => k_is); (case l25 => k_is); (case c25 => k_is); (case k25 => k_is)
    (case w_NEVER => k_is)
    (case w_ALWAYS => k_is)
    (case w_FIRST_NODE => k_is)
    (case z_abs => k_is); (case z_all => k_is); (case z_any => k_is); (case z_bool => k_is); (case z_int => k_is); (case z_isinstance => k_is); (case z_len => k_is); (case z_list => k_is); (case z_min => k_is); (case z_range => k_is); (case z_repr => k_is); (case z_sorted => k_is); (case z_str => k_is); (case z_tuple => k_is)

