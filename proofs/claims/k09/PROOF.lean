import PyProof.Rows.All
import Wide.All
import OpenK.AllK
import Wide.FinOn
import HandS.ForMost
import HandS.Wide
import HandS.IsInst
import HandS.Replace
import HandS.Codes
import HandS.StrMore
import HandS.More
import HandS.FStr
import PySem.Challenge.RW_lineworks_k09_sources_are_printed
set_option Elab.async false
set_option linter.all false
set_option maxRecDepth 100000
namespace Lw
open PySem PySem.Spec PyProof.Rows L2
def topS (i : Nat) : Stmt := PySem.Challenge.pw_lineworks_k09_sources_are_printed.main.body.getD i (.Pass ⟨0, 0, 0, 0⟩)
abbrev s_print_expression : Stmt := topS 5
abbrev N_print_expression : List Str := ["expression", "word", "_", "left", "right", "arguments", "part"]
theorem sc_print_expression : FnScope N_print_expression ["expression"] (defScope s_print_expression) := ⟨rfl, rfl, rfl, by decide +kernel, rfl, by decide +kernel, by decide +kernel⟩
abbrev s_print_query : Stmt := topS 6
abbrev N_print_query : List Str := ["query"]
theorem sc_print_query : FnScope N_print_query ["query"] (defScope s_print_query) := ⟨rfl, rfl, rfl, by decide +kernel, rfl, by decide +kernel, by decide +kernel⟩
abbrev s_print_source : Stmt := topS 7
abbrev N_print_source : List Str := ["items", "item"]
theorem sc_print_source : FnScope N_print_source ["items"] (defScope s_print_source) := ⟨rfl, rfl, rfl, by decide +kernel, rfl, by decide +kernel, by decide +kernel⟩
abbrev s_inner_text : Stmt := topS 8
abbrev N_inner_text : List Str := ["expression", "least", "text"]
theorem sc_inner_text : FnScope N_inner_text ["expression", "least"] (defScope s_inner_text) := ⟨rfl, rfl, rfl, by decide +kernel, rfl, by decide +kernel, by decide +kernel⟩
abbrev s_closeness : Stmt := topS 9
abbrev N_closeness : List Str := ["expression", "word"]
theorem sc_closeness : FnScope N_closeness ["expression"] (defScope s_closeness) := ⟨rfl, rfl, rfl, by decide +kernel, rfl, by decide +kernel, by decide +kernel⟩
abbrev s_leaf_text : Stmt := topS 10
abbrev N_leaf_text : List Str := ["expression", "word", "doubled"]
theorem sc_leaf_text : FnScope N_leaf_text ["expression"] (defScope s_leaf_text) := ⟨rfl, rfl, rfl, by decide +kernel, rfl, by decide +kernel, by decide +kernel⟩
abbrev s_item_text : Stmt := topS 11
abbrev N_item_text : List Str := ["item", "word", "name", "parts", "columns", "lines", "line", "column", "kind"]
theorem sc_item_text : FnScope N_item_text ["item"] (defScope s_item_text) := ⟨rfl, rfl, rfl, by decide +kernel, rfl, by decide +kernel, by decide +kernel⟩
abbrev s_query_lines : Stmt := topS 12
abbrev N_query_lines : List Str := ["query", "lines", "how", "operand", "stages", "start", "stage"]
theorem sc_query_lines : FnScope N_query_lines ["query"] (defScope s_query_lines) := ⟨rfl, rfl, rfl, by decide +kernel, rfl, by decide +kernel, by decide +kernel⟩
abbrev s_operand_text : Stmt := topS 13
abbrev N_operand_text : List Str := ["operand", "word", "named", "alias"]
theorem sc_operand_text : FnScope N_operand_text ["operand"] (defScope s_operand_text) := ⟨rfl, rfl, rfl, by decide +kernel, rfl, by decide +kernel, by decide +kernel⟩
abbrev s_stage_text : Stmt := topS 14
abbrev N_stage_text : List Str := ["stage", "word"]
theorem sc_stage_text : FnScope N_stage_text ["stage"] (defScope s_stage_text) := ⟨rfl, rfl, rfl, by decide +kernel, rfl, by decide +kernel, by decide +kernel⟩
abbrev s_join_text : Stmt := topS 15
abbrev N_join_text : List Str := ["stage", "_", "how", "operand", "condition", "start"]
theorem sc_join_text : FnScope N_join_text ["stage"] (defScope s_join_text) := ⟨rfl, rfl, rfl, by decide +kernel, rfl, by decide +kernel, by decide +kernel⟩
abbrev s_group_text : Stmt := topS 16
abbrev N_group_text : List Str := ["stage", "_", "outputs", "totals", "parts", "form", "name"]
theorem sc_group_text : FnScope N_group_text ["stage"] (defScope s_group_text) := ⟨rfl, rfl, rfl, by decide +kernel, rfl, by decide +kernel, by decide +kernel⟩
abbrev s_outputs_text : Stmt := topS 17
abbrev N_outputs_text : List Str := ["outputs", "output"]
theorem sc_outputs_text : FnScope N_outputs_text ["outputs"] (defScope s_outputs_text) := ⟨rfl, rfl, rfl, by decide +kernel, rfl, by decide +kernel, by decide +kernel⟩
abbrev s_output_text : Stmt := topS 18
abbrev N_output_text : List Str := ["output", "expression", "name", "text"]
theorem sc_output_text : FnScope N_output_text ["output"] (defScope s_output_text) := ⟨rfl, rfl, rfl, by decide +kernel, rfl, by decide +kernel, by decide +kernel⟩
abbrev s_form_text : Stmt := topS 19
abbrev N_form_text : List Str := ["form"]
theorem sc_form_text : FnScope N_form_text ["form"] (defScope s_form_text) := ⟨rfl, rfl, rfl, by decide +kernel, rfl, by decide +kernel, by decide +kernel⟩
abbrev s__law_draw : Stmt := topS 21
abbrev N__law_draw : List Str := ["script"]
theorem sc__law_draw : FnScope N__law_draw ["script"] (defScope s__law_draw) := ⟨rfl, rfl, rfl, by decide +kernel, rfl, by decide +kernel, by decide +kernel⟩
abbrev s__law_next : Stmt := topS 22
abbrev N__law_next : List Str := ["draw", "many", "found", "cell"]
theorem sc__law_next : FnScope N__law_next ["draw", "many"] (defScope s__law_next) := ⟨rfl, rfl, rfl, by decide +kernel, rfl, by decide +kernel, by decide +kernel⟩
abbrev s__law_reserved : Stmt := topS 23
abbrev N__law_reserved : List Str := ["words"]
theorem sc__law_reserved : FnScope N__law_reserved [] (defScope s__law_reserved) := ⟨rfl, rfl, rfl, by decide +kernel, rfl, by decide +kernel, by decide +kernel⟩
abbrev s__law_name : Stmt := topS 24
abbrev N__law_name : List Str := ["draw", "letters", "size", "word", "k"]
theorem sc__law_name : FnScope N__law_name ["draw"] (defScope s__law_name) := ⟨rfl, rfl, rfl, by decide +kernel, rfl, by decide +kernel, by decide +kernel⟩
abbrev s__law_string : Stmt := topS 25
abbrev N__law_string : List Str := ["draw", "chars", "size", "k"]
theorem sc__law_string : FnScope N__law_string ["draw"] (defScope s__law_string) := ⟨rfl, rfl, rfl, by decide +kernel, rfl, by decide +kernel, by decide +kernel⟩
abbrev s__law_quoted : Stmt := topS 26
abbrev N__law_quoted : List Str := ["value"]
theorem sc__law_quoted : FnScope N__law_quoted ["value"] (defScope s__law_quoted) := ⟨rfl, rfl, rfl, by decide +kernel, rfl, by decide +kernel, by decide +kernel⟩
abbrev s__law_number : Stmt := topS 27
abbrev N__law_number : List Str := ["draw", "number", "k"]
theorem sc__law_number : FnScope N__law_number ["draw"] (defScope s__law_number) := ⟨rfl, rfl, rfl, by decide +kernel, rfl, by decide +kernel, by decide +kernel⟩
abbrev s__law_signs : Stmt := topS 28
abbrev N__law_signs : List Str := []
theorem sc__law_signs : FnScope N__law_signs [] (defScope s__law_signs) := ⟨rfl, rfl, rfl, by decide +kernel, rfl, by decide +kernel, by decide +kernel⟩
abbrev s__law_leaf : Stmt := topS 29
abbrev N__law_leaf : List Str := ["draw", "form"]
theorem sc__law_leaf : FnScope N__law_leaf ["draw"] (defScope s__law_leaf) := ⟨rfl, rfl, rfl, by decide +kernel, rfl, by decide +kernel, by decide +kernel⟩
abbrev s__law_expression : Stmt := topS 30
abbrev N__law_expression : List Str := ["draw", "depth", "form", "first", "second"]
theorem sc__law_expression : FnScope N__law_expression ["draw", "depth"] (defScope s__law_expression) := ⟨rfl, rfl, rfl, by decide +kernel, rfl, by decide +kernel, by decide +kernel⟩
abbrev s__law_level : Stmt := topS 31
abbrev N__law_level : List Str := ["expression", "levels"]
theorem sc__law_level : FnScope N__law_level ["expression"] (defScope s__law_level) := ⟨rfl, rfl, rfl, by decide +kernel, rfl, by decide +kernel, by decide +kernel⟩
abbrev s__law_print_atom : Stmt := topS 32
abbrev N__law_print_atom : List Str := ["expression", "form", "part"]
theorem sc__law_print_atom : FnScope N__law_print_atom ["expression"] (defScope s__law_print_atom) := ⟨rfl, rfl, rfl, by decide +kernel, rfl, by decide +kernel, by decide +kernel⟩
abbrev s__law_print : Stmt := topS 33
abbrev N__law_print : List Str := ["expression", "wanted", "level", "written", "first"]
theorem sc__law_print : FnScope N__law_print ["expression", "wanted"] (defScope s__law_print) := ⟨rfl, rfl, rfl, by decide +kernel, rfl, by decide +kernel, by decide +kernel⟩
abbrev s__law_outputs : Stmt := topS 34
abbrev N__law_outputs : List Str := ["draw", "depth", "outputs", "k", "expression", "name"]
theorem sc__law_outputs : FnScope N__law_outputs ["draw", "depth"] (defScope s__law_outputs) := ⟨rfl, rfl, rfl, by decide +kernel, rfl, by decide +kernel, by decide +kernel⟩
abbrev s__law_totals : Stmt := topS 35
abbrev N__law_totals : List Str := ["draw", "depth", "totals", "k", "form", "expression"]
theorem sc__law_totals : FnScope N__law_totals ["draw", "depth"] (defScope s__law_totals) := ⟨rfl, rfl, rfl, by decide +kernel, rfl, by decide +kernel, by decide +kernel⟩
abbrev s__law_operand : Stmt := topS 36
abbrev N__law_operand : List Str := ["draw", "inside", "depth", "name"]
theorem sc__law_operand : FnScope N__law_operand ["draw", "inside", "depth"] (defScope s__law_operand) := ⟨rfl, rfl, rfl, by decide +kernel, rfl, by decide +kernel, by decide +kernel⟩
abbrev s__law_stage : Stmt := topS 37
abbrev N__law_stage : List Str := ["draw", "inside", "depth", "form", "how", "operand", "outputs"]
theorem sc__law_stage : FnScope N__law_stage ["draw", "inside", "depth"] (defScope s__law_stage) := ⟨rfl, rfl, rfl, by decide +kernel, rfl, by decide +kernel, by decide +kernel⟩
abbrev s__law_query : Stmt := topS 38
abbrev N__law_query : List Str := ["draw", "inside", "depth", "query", "k", "how", "operand", "stages", "j"]
theorem sc__law_query : FnScope N__law_query ["draw", "inside", "depth"] (defScope s__law_query) := ⟨rfl, rfl, rfl, by decide +kernel, rfl, by decide +kernel, by decide +kernel⟩
abbrev s__law_print_output : Stmt := topS 39
abbrev N__law_print_output : List Str := ["output", "expression", "written"]
theorem sc__law_print_output : FnScope N__law_print_output ["output"] (defScope s__law_print_output) := ⟨rfl, rfl, rfl, by decide +kernel, rfl, by decide +kernel, by decide +kernel⟩
abbrev s__law_print_total : Stmt := topS 40
abbrev N__law_print_total : List Str := ["total", "form"]
theorem sc__law_print_total : FnScope N__law_print_total ["total"] (defScope s__law_print_total) := ⟨rfl, rfl, rfl, by decide +kernel, rfl, by decide +kernel, by decide +kernel⟩
abbrev s__law_print_operand : Stmt := topS 41
abbrev N__law_print_operand : List Str := ["operand"]
theorem sc__law_print_operand : FnScope N__law_print_operand ["operand"] (defScope s__law_print_operand) := ⟨rfl, rfl, rfl, by decide +kernel, rfl, by decide +kernel, by decide +kernel⟩
abbrev s__law_print_stage : Stmt := topS 42
abbrev N__law_print_stage : List Str := ["stage", "word", "written", "parts", "output", "total"]
theorem sc__law_print_stage : FnScope N__law_print_stage ["stage"] (defScope s__law_print_stage) := ⟨rfl, rfl, rfl, by decide +kernel, rfl, by decide +kernel, by decide +kernel⟩
abbrev s__law_print_query : Stmt := topS 43
abbrev N__law_print_query : List Str := ["query", "gap", "parts", "how", "chain", "begin", "stage"]
theorem sc__law_print_query : FnScope N__law_print_query ["query", "gap"] (defScope s__law_print_query) := ⟨rfl, rfl, rfl, by decide +kernel, rfl, by decide +kernel, by decide +kernel⟩
abbrev s__law_items : Stmt := topS 44
abbrev N__law_items : List Str := ["draw", "inside", "depth", "items", "k", "name", "columns", "j"]
theorem sc__law_items : FnScope N__law_items ["draw", "inside", "depth"] (defScope s__law_items) := ⟨rfl, rfl, rfl, by decide +kernel, rfl, by decide +kernel, by decide +kernel⟩
abbrev s__law_print_item : Stmt := topS 45
abbrev N__law_print_item : List Str := ["item", "columns", "name", "kind"]
theorem sc__law_print_item : FnScope N__law_print_item ["item"] (defScope s__law_print_item) := ⟨rfl, rfl, rfl, by decide +kernel, rfl, by decide +kernel, by decide +kernel⟩
abbrev s_law : Stmt := topS 46
abbrev N_law : List Str := ["script", "draw", "items", "due", "actual", "item"]
theorem sc_law : FnScope N_law ["script"] (defScope s_law) := ⟨rfl, rfl, rfl, by decide +kernel, rfl, by decide +kernel, by decide +kernel⟩
/-! ### heaps and calls -/
theorem same_upd {H : Hp} {p : Addr} {o : HO} (h : H p = none) : Same H (upd H p o) := fun b x e => by
  rw [upd_ne (ne_of_none e h)]
  exact e
/-- what stood stands, but for the object at d -/
def Fd (d : Addr) (H H' : Hp) : Prop := ∀ b o, b ≠ d → H b = some o → H' b = some o
theorem Fd.refl (d : Addr) (H : Hp) : Fd d H H := fun _ _ _ e => e
theorem Fd.trans {d : Addr} {H H1 H2 : Hp} (a : Fd d H H1) (b : Fd d H1 H2) : Fd d H H2 := fun c o n e => b c o n (a c o n e)
theorem Fd.of {d : Addr} {H H' : Hp} (a : Same H H') : Fd d H H' := fun b o _ e => a b o e
theorem Fd.new {d : Addr} {H : Hp} {p : Addr} {o : HO} (h : H p = none) : Fd d H (upd H p o) := Fd.of (same_upd h)
theorem Fd.at {d : Addr} {H : Hp} {o : HO} : Fd d H (upd H d o) := fun b x n e => by
  rw [upd_ne n]
  exact e
/-- a def that may be called by its name -/
structure Cl (P : Program) (w : World) (K : PySem.W.Frag) (mg : Str → Option Value) (base : Heap) (k : Nat) (x : Str) (sp : Sp) : Prop where
  ex : ∃ (f : Addr) (fd : FuncData) (ps : List Str), FnOk P w K mg base CX0 k f fd ps sp ∧ mg x = some (.ref f) ∧ PySem.W.keepIn K (.ref f) = true ∧ Binds K fd ps []
section
variable {X : Cx} {k j : Nat} {x : Str} {sp : Sp} {p pos : Pos} {e : Expr} {es : List Expr} {t : TA}
theorem pe_u (c : Cl X.prog X.w X.K X.mg X.base k x sp) (hr : Room j X.A) (hk : k ≤ j) (hg : Gl X x) (ha : PA X (e :: es) t)
    (hdb : (x == ("__debug__" : Str)) = false := by decide) (he : starEach (e :: es) X.env = (false, eval e X.env) :: starEach es X.env := by rfl) (hpl : (backTo pos (starEach es X.env)).any (·.1) = false := by rfl) :
    PE X (.Call (.Name x p) (e :: es) [] pos) (tCall sp [] E0 t) := by
  obtain ⟨f, fd, ps, F, hm, kp, b⟩ := c.ex
  exact pe_call F (hr.mono hk) hg hm kp b .nil pass0 ha hdb he hpl
theorem pe_u0 (c : Cl X.prog X.w X.K X.mg X.base k x sp) (hr : Room j X.A) (hk : k ≤ j) (hg : Gl X x) (hdb : (x == ("__debug__" : Str)) = false := by decide) : PE X (.Call (.Name x p) [] [] pos) (tCall sp [] E0 tNil) := by
  obtain ⟨f, fd, ps, F, hm, kp, b⟩ := c.ex
  exact pe_call0 F (hr.mono hk) hg hm kp b .nil pass0 hdb
end
theorem FnOk.cl {P : Program} {w : World} {K : PySem.W.Frag} {mg : Str → Option Value} {base : Heap} {k : Nat} {x q : Str} {st : Stmt} {f : Addr} {fd : FuncData} {ps : List Str} {sp : Sp} (h : FnOk P w K mg base CX0 k f fd ps sp) (F : Fun K x q st f fd) (g : mg x = some (.ref f)) (b : Binds K fd ps []) : Cl P w K mg base k x sp := ⟨f, fd, ps, h, g, F.kp, b⟩
/-! ### rules with the written part named (within a comprehension) -/
section
variable {X : Cx} (K : PySem.W.Frag)
theorem ix_listK (h : X.K = K := by rfl) : IxR X (rIxL K) := by subst h; exact ix_list
theorem ix_tupK (h : X.K = K := by rfl) : IxR X (rIxT K) := by subst h; exact ix_tup
theorem ix_seqK (h : X.K = K := by rfl) : IxR X (rIx K) := by subst h; exact ix_seq
theorem len_seqK (h : X.K = K := by rfl) : CallR X (.builtin "len") (fun xs H Q => ∃ p ys, xs = [.ref p] ∧ (SqL K H p ys ∨ SqT K H p ys) ∧ Q (.int ys.length) H) := by subst h; exact call_len_seq
theorem isiK (h : X.K = K := by rfl) : CallR X (.builtin "isinstance") (rIsi K) := by subst h; exact call_isi
theorem isiTK (h : X.K = K := by rfl) : CallR X (.builtin "isinstance") (rIsiT K) := by subst h; exact call_isiT
theorem allK (hc : X.calm = true) (h : X.K = K := by rfl) : CallR X (.builtin "all") (rAll K) := by subst h; exact cr_all hc
theorem listK (h : X.K = K := by rfl) : CallR X (.type "list") (fun xs H Q => ∃ p ys, xs = [.ref p] ∧ (SqL K H p ys ∨ SqT K H p ys) ∧ ∀ l, H l = none → Q (.ref l) (upd H l (.lst ys))) := by subst h; exact call_list_of
theorem tupleK (h : X.K = K := by rfl) : CallR X (.type "tuple") (fun xs H Q => ∃ p ys, xs = [.ref p] ∧ ((SqL K H p ys ∧ ∀ l, H l = none → Q (.ref l) (upd H l (.tup ys))) ∨ (SqT K H p ys ∧ Q (.ref p) H))) := by subst h; exact call_tuple_of
theorem inK (h : X.K = K := by rfl) : OpR X (compareOp .In) (rIn K false) := by subst h; exact op_in_seq
theorem notInK (h : X.K = K := by rfl) : OpR X (compareOp .NotIn) (rIn K true) := by subst h; exact op_notIn_seq
theorem pe_bmK {T : String} {name : Str} {id : String} {r : V → List V → Hp → VK → Prop} {o e : Expr} {es : List Expr} {to : TE} {t : TA} {apos cpos : Pos} (pa : PlainAttrs T) (slot : Slot T name id) (hty : typeOf (.builtin id) = pure (.type "method_descriptor")) (hm : MtR X id r) (ho : PE X o to) (ha : PA X (e :: es) t) (hK : X.K = K := by rfl)
    (hbase : attributeBase o name X.env (eval o X.env) = eval o X.env := by rfl)
    (hfew : ((backTo cpos (starEach (e :: es) X.env)).all (fun x => !x.1) && (backToKw cpos (keywordEach [] X.env)).all (fun x => x.1.isSome)
      && decide ((e :: es).length + ([] : List Keyword).length + (if ([] : List Keyword).isEmpty then 0 else 1) < 30)) = true := by rfl)
    (hline : (apos.endLine == cpos.line) = true := by rfl) (hs : starEach (e :: es) X.env = (false, eval e X.env) :: starEach es X.env := by rfl) (hplain : (backTo cpos (starEach es X.env)).any (·.1) = false := by rfl) :
    PE X (.Call (.Attribute o name apos) (e :: es) [] cpos) (tBM K T r to t) := by subst hK; exact pe_bm pa slot hty hm ho ha hbase hfew hline hs hplain
theorem pt_truthK {a : Expr} {ta : TE} (ha : PE X a ta) (he : ∀ whole, isTrue a X.env whole = (do let v ← whole; standAt a.pos; holding [v] (truthy v))) (h : X.K = K := by rfl) : PT X a (fun σ H Q => ta σ H fun x H' => ∃ k, TruV K x H' k ∧ Q k H') := by subst h; exact pt_truth ha he
theorem eqDK (hu : X.A.units + 64 < cLine) (h : X.K = K := by rfl) : OpR X (compareOp .Eq) (rEqD K) := by subst h; exact op_eqD hu
theorem neDK (hu : X.A.units + 64 < cLine) (h : X.K = K := by rfl) : OpR X (compareOp .NotEq) (rNeD K) := by subst h; exact op_neD hu
end
/-- over the signs of a text -/
theorem for_strs {x : Str} {g : TG} {tb : TS} {D : Ends} {σ : L2.St} {H : Hp} (Pv : Nat → L2.St → Hp → Prop) (h0 : Pv 0 σ H)
    (hs : ∀ i c σ H, x.cps.toList[i]? = some c → Pv i σ H → g (.str ⟨#[c]⟩) σ H fun σ2 H2 => tb { D with nx := Pv (i + 1), ct := Pv (i + 1), bk := D.nx } σ2 H2) (hd : ∀ σ H, Pv x.cps.toList.length σ H → D.nx σ H) :
    ∃ W : Nat → Nat → L2.St → Hp → Prop, (∃ m, W 0 m σ H) ∧ ∀ i m σ H, W i m σ H →
      ((Its x).stop i H ∧ D.nx σ H) ∨ ((Its x).go i H ∧ ∃ N : L2.St → Hp → Prop, (∀ σ' H', N σ' H' → ∃ m', m' < m ∧ W (i + 1) m' σ' H') ∧ ∀ v H', (Its x).yld i H v H' → g v σ H' fun σ2 H2 => tb { D with nx := N, ct := N, bk := D.nx } σ2 H2) := by
  have es : x.cps.toList.length = x.cps.size := by simp
  refine ⟨fun i m σ H => m = x.cps.size - i ∧ i ≤ x.cps.size ∧ Pv i σ H, ⟨x.cps.size, by simp, Nat.zero_le _, h0⟩, ?_⟩
  rintro i m σ H ⟨rfl, hi, p⟩
  by_cases hlt : i < x.cps.size
  · refine .inr ⟨hlt, Pv (i + 1), fun σ' H' p' => ⟨x.cps.size - (i + 1), by omega, rfl, hlt, p'⟩, fun v H' y => ?_⟩
    obtain ⟨e, c, hc, rfl⟩ := y
    subst e
    exact hs i c σ _ (by rw [Array.getElem?_toList]; exact hc) p
  · have e : i = x.cps.size := by omega
    subst e
    exact .inl ⟨Nat.le_refl _, hd σ H (by rw [es]; exact p)⟩
theorem joinL0 : ∀ ps : List (List Nat), TL.joinL [] ps = ps.flatten
  | [] => rfl
  | [p] => by
    show p = p ++ []
    rw [List.append_nil]
  | p :: q :: r => by
    show p ++ ([] ++ TL.joinL [] (q :: r)) = p ++ (q :: r).flatten
    rw [joinL0 (q :: r), List.nil_append]
theorem join0 (ys : List Str) : Txt.join ⟨#[]⟩ ys = ⟨((ys.map TL.tl).flatten).toArray⟩ := by
  refine TL.ext_tl ?_
  rw [TL.join_eq, TL.tl_join]
  show TL.joinL [] _ = _
  rw [joinL0]
theorem flat_len : ∀ ys : List Str, ((ys.map TL.tl).flatten).length = (ys.map (·.length)).sum
  | [] => rfl
  | y :: ys => by
    rw [List.map_cons, List.flatten_cons, List.length_append, flat_len ys, List.map_cons, List.sum_cons]
    show y.cps.toList.length + _ = _
    rw [Array.length_toList]
    rfl
theorem S_len' (l : List Nat) : (⟨l.toArray⟩ : Str).length = l.length := by simp [Str.length]
theorem cut_to (l : List Nat) {o : Nat} (h : o ≤ l.length) : cutS ⟨l.toArray⟩ none (some (o : Int)) = ⟨(l.take o).toArray⟩ := by
  unfold cutS
  rw [HT.sIx_none, HT.sIx_nat, S_len', Nat.sub_zero, Nat.min_eq_left h]
  show (⟨((l.drop 0).take o).toArray⟩ : Str) = _
  rw [List.drop_zero]
theorem str1 (c : Nat) (d : Nat) : decide (V.str ⟨#[c]⟩ = V.str ⟨#[d]⟩) = decide (c = d) := by
  by_cases h : c = d
  · subst h
    rw [decide_eq_true rfl, decide_eq_true rfl]
  · rw [decide_eq_false h, decide_eq_false]
    intro e
    have e1 := V.str.inj e
    have e2 := Array.toList_inj.mpr (Str.mk.inj e1)
    exact h (by simpa using e2)

structure Mg (mg : Str → Option Value) : Prop where
  abs : mg "abs" = none
  int : mg "int" = none
  isinstance : mg "isinstance" = none
  len : mg "len" = none
  list : mg "list" = none
  range : mg "range" = none
  str : mg "str" = none
/-! ### the law's draws: a list of the script's copy, a place in it, what is left of a great number, a seed -/
def Dr (H : Hp) (d c : Addr) : Prop := c ≠ d ∧ ∃ (ns : List Int) (pos rest seed : Int), H d = some (.lst [.ref c, .int pos, .int rest, .int seed]) ∧ H c = some (.lst (ns.map V.int)) ∧ 0 ≤ pos ∧ 0 ≤ rest ∧ 0 ≤ seed ∧ seed < 2147483647
theorem Dr.ext {H H' : Hp} {d c : Addr} (h : Dr H d c) (e : Same H H') : Dr H' d c := by
  obtain ⟨n, ns, pos, rest, seed, h1, h2, r⟩ := h
  exact ⟨n, ns, pos, rest, seed, e _ _ h1, e _ _ h2, r⟩
theorem Dr.upd {H : Hp} {d c p : Addr} {o : HO} (h : Dr H d c) (n1 : p ≠ d) (n2 : p ≠ c) : Dr (upd H p o) d c := by
  obtain ⟨n, ns, pos, rest, seed, h1, h2, r⟩ := h
  exact ⟨n, ns, pos, rest, seed, by rw [upd_ne n1.symm]; exact h1, by rw [upd_ne n2.symm]; exact h2, r⟩
theorem Dr.nd {H : Hp} {d c p : Addr} (h : Dr H d c) (n : H p = none) : p ≠ d := by
  obtain ⟨_, ns, pos, rest, seed, h1, _⟩ := h
  exact (ne_of_none h1 n).symm
theorem Dr.nc {H : Hp} {d c p : Addr} (h : Dr H d c) (n : H p = none) : p ≠ c := by
  obtain ⟨_, ns, pos, rest, seed, _, h2, _⟩ := h
  exact (ne_of_none h2 n).symm
theorem Dr.lst {H : Hp} {d c : Addr} (h : Dr H d c) : ∃ zs, H d = some (.lst zs) := by
  obtain ⟨_, ns, pos, rest, seed, h1, _⟩ := h
  exact ⟨_, h1⟩
theorem Dr.lift {H H' : Hp} {d c d' c' : Addr} (_h : Dr H d c) (h' : Dr H' d' c') : Dr H' d' c' := h'
def sp_draw (K : PySem.W.Frag) : Sp := fun vs H Q _ => ∃ (a : Addr) (ns : List Int), vs = [.ref a] ∧ SqL K H a (ns.map V.int) ∧ ∀ H' d c, Same H H' → H d = none → Dr H' d c → Q (.ref d) H'
/-- a draw: some number below many -/
def sp_next : Sp := fun vs H Q _ => ∃ (d c : Addr) (many : Int), vs = [.ref d, .int many] ∧ Dr H d c ∧ 1 ≤ many ∧ many < 2 ^ 64 ∧ ∀ H' r, Fd d H H' → (∀ p, p ≠ d → H' p = H p) → Dr H' d c → 0 ≤ r → r < many → Q (.int r) H'
section
variable {P : Program} {w : World} {K : PySem.W.Frag} {mg : Str → Option Value} {base : Heap}
theorem ok_draw {f : Addr} {fd : FuncData} (F : Fun K "_law_draw" "_law_draw" s__law_draw f fd) (M : Mg mg) : FnOk P w K mg base CX0 1 f fd ["script"] (sp_draw K) := by
  refine F.ok sc__law_draw (fun vs H Q E h => ?_) (fun cdv A outer s H vs Q E hr h => ?_)
  · obtain ⟨a, ns, rfl, _⟩ := h
    rfl
  · obtain ⟨a, ns, rfl, hS, q⟩ := h
    refine ⟨_, (pss_one (ps_ret (pe_lst (pa_cons (pe_callTy (listK K) (by rfl) M.list (by decide +kernel) (pa_cons (pv 0) pa_nil)) (pa_cons pe_int (pa_cons pe_int (pa_cons pe_int pa_nil))))))), ?_⟩
    refine ⟨_, rfl, a, _, rfl, .inl hS, fun c nc => ?_⟩
    refine ⟨by show 4 ≤ sizeLine; decide, fun d nd => ?_⟩
    have hc : (upd H c (.lst (ns.map V.int))) c = some (.lst (ns.map V.int)) := upd_same
    have ncd : c ≠ d := ne_of_none hc nd
    have s1 := (same_upd nc (o := .lst (ns.map V.int))).trans (same_upd nd (o := .lst [.ref c, .int 0, .int 0, .int 17]))
    refine q _ d c s1 ((same_upd nc).free nd) ⟨ncd, ns, 0, 0, 17, upd_same, ?_, by decide, by decide, by decide, by decide⟩
    rw [upd_ne ncd]
    exact hc
theorem next_aux {H : Hp} {d c : Addr} {xs' : List V} {pos rest seed : Int} {ns : List Int} (hn : c ≠ d) (h2 : H c = some (.lst (ns.map V.int))) (hx : xs' = [.ref c, .int pos, .int rest, .int seed]) (h0 : 0 ≤ pos) (h1 : 0 ≤ rest) (h3 : 0 ≤ seed) (h4 : seed < 2147483647) : Dr (upd H d (.lst xs')) d c := by
  subst hx
  refine ⟨hn, ns, pos, rest, seed, upd_same, ?_, h0, h1, h3, h4⟩
  rw [upd_ne hn]
  exact h2
theorem ok_next {f : Addr} {fd : FuncData} (F : Fun K "_law_next" "_law_next" s__law_next f fd) (M : Mg mg) : FnOk P w K mg base CX0 1 f fd ["draw", "many"] sp_next := by
  refine F.ok sc__law_next (fun vs H Q E h => ?_) (fun cdv A outer s H vs Q E hr h => ?_)
  · obtain ⟨d, c, many, rfl, _⟩ := h
    rfl
  · obtain ⟨d, c, many, rfl, ⟨ncd, ns, pos, rest, seed, h1, h2, h0, h3, h4, h5⟩, hm1, hm2, q⟩ := h
    have hdv : ∀ x : Int, CDivW x many := fun x => wide_div (b := 64) (by omega) (by omega) (by decide) (by decide)
    have hcd : d ≠ c := ncd.symm
    have L0 : SqL K H d [.ref c, .int pos, .int rest, .int seed] := .of h1
    have at0 : ∀ (a b e g : V), atI [a, b, e, g] (0 : Int) = some a := fun a b e g => atI_nat (j := 0) rfl
    have at1 : ∀ (a b e g : V), atI [a, b, e, g] (1 : Int) = some b := fun a b e g => atI_nat (j := 1) rfl
    have at2 : ∀ (a b e g : V), atI [a, b, e, g] (2 : Int) = some e := fun a b e g => atI_nat (j := 2) rfl
    have at3 : ∀ (a b e g : V), atI [a, b, e, g] (3 : Int) = some g := fun a b e g => atI_nat (j := 3) rfl
    have fr : ∀ (H0 : Hp) (o : HO), (∀ p, p ≠ d → H0 p = H p) → (∀ p, p ≠ d → (upd H0 d o) p = H p) := fun H0 o e p n => by rw [upd_ne n]; exact e p n
    have fF : ∀ (H0 : Hp), (∀ p, p ≠ d → H0 p = H p) → Fd d H H0 := fun H0 e b o n h => by rw [e b n]; exact h
    -- the last row's value
    have last : ∀ (seed' : Int), 0 ≤ seed' → seed' < 2147483647 → ∀ H0 : Hp, (∀ p, p ≠ d → H0 p = H p) → (∃ pos rest, H0 d = some (.lst [.ref c, .int pos, .int rest, .int seed']) ∧ 0 ≤ pos ∧ 0 ≤ rest) → Q (.int ((seed' * 69621 % 2147483629 / 7) % many)) H0 := by
      intro seed' g0 g1 H0 e ⟨pos', rest', g2, g3, g4⟩
      exact q H0 _ (fF _ e) e ⟨ncd, ns, pos', rest', seed', g2, by rw [e c ncd]; exact h2, g3, g4, g0, g1⟩ (Int.emod_nonneg _ (by omega)) (Int.emod_lt_of_pos _ (by omega))
    refine ⟨_, (pss_cons (ps_if (pt_cmpR op_gt (pe_ix (ix_listK K) (pv 0) pe_int (fun _ _ => rfl)) pe_int (nomark _)) (pss_cons (ps_set (i := 2) sc__law_next.nd rfl (.inl rfl) (pe_op op_mod (pe_callTy call_int1 (by rfl) M.int (by decide +kernel) (pa_cons (pe_ix (ix_listK K) (pv 0) pe_int (fun _ _ => rfl)) pa_nil)) (pv 1)))
      (pss_cons (ps_asg (pe_op op_fdivW (pe_ix (ix_listK K) (pv 0) pe_int (fun _ _ => rfl)) (pv 1)) (pg_sub (pv 0) pe_int set_list))
      (pss_one (ps_ret (pv 2))))) pss_nil)
      (pss_cons (ps_if (pt_cmpR op_lt (pe_ix (ix_listK K) (pv 0) pe_int (fun _ _ => rfl)) (pe_callB (len_seqK K) (by rfl) M.len PySem.boot_len (pa_cons (pe_ix (ix_listK K) (pv 0) pe_int (fun _ _ => rfl)) pa_nil)) (nomark _)) (pss_cons (ps_set (i := 3) sc__law_next.nd rfl (.inl rfl) (pe_callB call_abs (by rfl) M.abs (by decide +kernel) (pa_cons (pe_ix (ix_listK K) (pe_ix (ix_listK K) (pv 0) pe_int (fun _ _ => rfl)) (pe_ix (ix_listK K) (pv 0) pe_int (fun _ _ => rfl)) (fun _ _ => rfl)) pa_nil)))
      (pss_cons (ps_asg (pe_op op_add (pe_ix (ix_listK K) (pv 0) pe_int (fun _ _ => rfl)) pe_int) (pg_sub (pv 0) pe_int set_list))
      (pss_cons (ps_if (pt_cmpR op_ge (pv 3) (pe_op op_pow pe_int pe_int) (nomark _)) (pss_cons (ps_asg (pe_op op_fdivW (pv 3) (pv 1)) (pg_sub (pv 0) pe_int set_list))
      (pss_one (ps_ret (pe_op op_mod (pe_callTy call_int1 (by rfl) M.int (by decide +kernel) (pa_cons (pv 3) pa_nil)) (pv 1))))) pss_nil)
      (pss_one (ps_asg (pe_op op_mod (pe_callTy call_int1 (by rfl) M.int (by decide +kernel) (pa_cons (pe_op op_add (pe_op op_add (pe_op op_mul (pe_ix (ix_listK K) (pv 0) pe_int (fun _ _ => rfl)) pe_int) (pv 3)) pe_int) pa_nil)) pe_int) (pg_sub (pv 0) pe_int set_list)))))) (pss_one (ps_asg (pe_op op_mod (pe_callTy call_int1 (by rfl) M.int (by decide +kernel) (pa_cons (pe_op op_add (pe_op op_mul (pe_ix (ix_listK K) (pv 0) pe_int (fun _ _ => rfl)) pe_int) pe_int) pa_nil)) pe_int) (pg_sub (pv 0) pe_int set_list))))
      (pss_one (ps_ret (pe_op op_mod (pe_op op_fdivW (pe_callTy call_int1 (by rfl) M.int (by decide +kernel) (pa_cons (pe_op op_mod (pe_op op_mul (pe_ix (ix_listK K) (pv 0) pe_int (fun _ _ => rfl)) pe_int) pe_int) pa_nil)) pe_int) (pv 1)))))), ?_⟩
    refine ⟨_, rfl, d, _, 2, .int rest, rfl, rfl, L0, at2 .., ?_⟩
    refine ⟨_, _, rfl, rfl, _, rfl, ite2 (fun e => ?_) (fun e => ?_)⟩
    · -- draw[2] > 0
      have hr0 : 0 < rest := of_decide_eq_true e
      refine ⟨_, rfl, d, _, 2, .int rest, rfl, rfl, L0, at2 .., .inl ⟨_, rfl, ?_⟩⟩
      refine ⟨_, rfl, _, _, rfl, rfl, by omega, ?_⟩
      refine ⟨_, rfl, d, _, 2, .int rest, rfl, rfl, L0, at2 .., ?_⟩
      refine ⟨_, rfl, _, _, rfl, rfl, hdv _, ?_⟩
      refine ⟨_, rfl, d, _, 2, 2, rfl, rfl, h1, rfl, ?_⟩
      refine ⟨_, rfl, ?_⟩
      have e1 := fr H (.lst ([.ref c, .int pos, .int rest, .int seed].set 2 (.int (rest / many)))) (fun _ _ => rfl)
      exact q _ _ (fF _ e1) e1 (next_aux ncd h2 rfl h0 (Int.ediv_nonneg h3 (by omega)) h4 h5) (Int.emod_nonneg _ (by omega)) (Int.emod_lt_of_pos _ (by omega))
    · refine ⟨_, rfl, d, _, 1, .int pos, rfl, rfl, L0, at1 .., ?_⟩
      refine ⟨_, rfl, d, _, 0, .ref c, rfl, rfl, L0, at0 .., ?_⟩
      refine ⟨c, _, rfl, .inl (.of h2), ?_⟩
      refine ⟨_, _, rfl, rfl, _, rfl, ite2 (fun e2 => ?_) (fun e2 => ?_)⟩
      · have hp : pos < ((ns.map V.int).length : Int) := of_decide_eq_true e2
        rw [List.length_map] at hp
        obtain ⟨i, rfl⟩ := Int.eq_ofNat_of_zero_le h0
        have hi : i < ns.length := by omega
        have hat : atI (ns.map V.int) ((i : Nat) : Int) = some (.int ns[i]) := atI_nat (by rw [List.getElem?_map, List.getElem?_eq_getElem hi]; rfl)
        -- cell = abs(..)
        refine ⟨_, rfl, d, _, 0, .ref c, rfl, rfl, L0, at0 .., ?_⟩
        refine ⟨_, rfl, d, _, 1, _, rfl, rfl, L0, at1 .., ?_⟩
        refine ⟨c, _, _, _, rfl, rfl, .of h2, hat, ?_⟩
        refine ⟨_, rfl, ?_⟩
        have hcell : (0 : Int) ≤ (if ns[i] < 0 then -ns[i] else ns[i]) := by split <;> omega
        generalize (if ns[i] < 0 then -ns[i] else ns[i]) = cell at hcell
        -- draw[1] = draw[1] + 1
        refine ⟨_, rfl, d, _, 1, _, rfl, rfl, L0, at1 .., ?_⟩
        refine ⟨_, _, rfl, rfl, ?_⟩
        refine ⟨_, rfl, d, _, 1, 1, rfl, rfl, h1, rfl, ?_⟩
        have hd1 : (upd H d (.lst ([.ref c, .int ((i : Nat) : Int), .int rest, .int seed].set 1 (.int ((i : Nat) + 1))))) d = some (.lst [.ref c, .int ((i : Nat) + 1), .int rest, .int seed]) := upd_same
        have e1 := fr H (.lst ([.ref c, .int ((i : Nat) : Int), .int rest, .int seed].set 1 (.int ((i : Nat) + 1)))) (fun _ _ => rfl)
        generalize upd H d (.lst ([.ref c, .int ((i : Nat) : Int), .int rest, .int seed].set 1 (.int ((i : Nat) + 1)))) = H1 at hd1 e1
        have h2' : H1 c = some (.lst (ns.map V.int)) := by rw [e1 c ncd]; exact h2
        -- cell >= 10 ** 18
        refine ⟨_, rfl, _, _, rfl, rfl, ⟨by decide, by decide, by decide⟩, ?_⟩
        refine ⟨_, _, rfl, rfl, _, rfl, ite2 (fun e3 => ?_) (fun e3 => ?_)⟩
        · refine ⟨_, rfl, _, rfl, _, _, rfl, rfl, hdv _, ?_⟩
          refine ⟨_, rfl, d, _, 2, 2, rfl, rfl, hd1, rfl, ?_⟩
          refine ⟨_, rfl, .inl ⟨_, rfl, ?_⟩⟩
          refine ⟨_, rfl, _, _, rfl, rfl, by omega, ?_⟩
          have e5 := fr H1 (.lst ([.ref c, .int ((i : Nat) + 1), .int rest, .int seed].set 2 (.int (cell / many)))) e1
          exact q _ _ (fF _ e5) e5 (next_aux ncd h2' rfl (by omega) (Int.ediv_nonneg hcell (by omega)) h4 h5) (Int.emod_nonneg _ (by omega)) (Int.emod_lt_of_pos _ (by omega))
        · -- draw[3] = ..
          refine ⟨_, rfl, d, _, 3, .int seed, rfl, rfl, .of hd1, at3 .., ?_⟩
          refine ⟨_, _, rfl, rfl, .inl ⟨by omega, by omega⟩, ?_⟩
          refine ⟨_, rfl, _, _, rfl, rfl, ?_⟩
          refine ⟨_, _, rfl, rfl, .inl ⟨_, rfl, ?_⟩⟩
          refine ⟨_, _, rfl, rfl, by show (0 : Int) < 2147483647; decide, ?_⟩
          refine ⟨_, rfl, d, _, 3, 3, rfl, rfl, hd1, rfl, ?_⟩
          have hs0 : 0 ≤ (seed * 48271 + cell + 11) % 2147483647 := Int.emod_nonneg _ (by decide)
          have hs1 : (seed * 48271 + cell + 11) % 2147483647 < 2147483647 := Int.emod_lt_of_pos _ (by decide)
          have e5 := fr H1 (.lst ([.ref c, .int ((i : Nat) + 1), .int rest, .int seed].set 3 (.int ((seed * 48271 + cell + 11) % 2147483647)))) e1
          have hd5 : (upd H1 d (.lst ([.ref c, .int ((i : Nat) + 1), .int rest, .int seed].set 3 (.int ((seed * 48271 + cell + 11) % 2147483647))))) d = some (.lst [.ref c, .int ((i : Nat) + 1), .int rest, .int ((seed * 48271 + cell + 11) % 2147483647)]) := upd_same
          dsimp only
          generalize (seed * 48271 + cell + 11) % 2147483647 = seed' at hs0 hs1 e5 hd5 ⊢
          refine ⟨_, rfl, d, _, 3, .int seed', rfl, rfl, .of hd5, at3 .., ?_⟩
          refine ⟨_, _, rfl, rfl, .inl ⟨by omega, by omega⟩, ?_⟩
          refine ⟨_, _, rfl, rfl, by show (0 : Int) < 2147483629; decide, .inl ⟨_, rfl, ?_⟩⟩
          refine ⟨_, _, rfl, rfl, ⟨by decide, by decide⟩, ?_⟩
          refine ⟨_, rfl, _, _, rfl, rfl, by omega, ?_⟩
          exact last seed' hs0 hs1 _ e5 ⟨_, _, hd5, by omega, h3⟩
      · -- draw[3] = ..
        refine ⟨_, rfl, d, _, 3, .int seed, rfl, rfl, L0, at3 .., ?_⟩
        refine ⟨_, _, rfl, rfl, .inl ⟨by omega, by omega⟩, ?_⟩
        refine ⟨_, _, rfl, rfl, .inl ⟨_, rfl, ?_⟩⟩
        refine ⟨_, _, rfl, rfl, by show (0 : Int) < 2147483647; decide, ?_⟩
        refine ⟨_, rfl, d, _, 3, 3, rfl, rfl, h1, rfl, ?_⟩
        have hs0 : 0 ≤ (seed * 48271 + 12345) % 2147483647 := Int.emod_nonneg _ (by decide)
        have hs1 : (seed * 48271 + 12345) % 2147483647 < 2147483647 := Int.emod_lt_of_pos _ (by decide)
        have e5 := fr H (.lst ([.ref c, .int pos, .int rest, .int seed].set 3 (.int ((seed * 48271 + 12345) % 2147483647)))) (fun _ _ => rfl)
        have hd5 : (upd H d (.lst ([.ref c, .int pos, .int rest, .int seed].set 3 (.int ((seed * 48271 + 12345) % 2147483647))))) d = some (.lst [.ref c, .int pos, .int rest, .int ((seed * 48271 + 12345) % 2147483647)]) := upd_same
        dsimp only
        generalize (seed * 48271 + 12345) % 2147483647 = seed' at hs0 hs1 e5 hd5 ⊢
        refine ⟨_, rfl, d, _, 3, .int seed', rfl, rfl, .of hd5, at3 .., ?_⟩
        refine ⟨_, _, rfl, rfl, .inl ⟨by omega, by omega⟩, ?_⟩
        refine ⟨_, _, rfl, rfl, by show (0 : Int) < 2147483629; decide, .inl ⟨_, rfl, ?_⟩⟩
        refine ⟨_, _, rfl, rfl, ⟨by decide, by decide⟩, ?_⟩
        refine ⟨_, rfl, _, _, rfl, rfl, by omega, ?_⟩
        exact last seed' hs0 hs1 _ e5 ⟨_, _, hd5, h0, h3⟩
end

/-! ### data in the heap -/
theorem SqT.ext {K : PySem.W.Frag} {H H' : Hp} {a : Addr} {xs : List V} (e : Same H H') (h : SqT K H a xs) : SqT K H' a xs := by
  rcases h with (h | ⟨o, h⟩) | h
  · exact .inl (.inl (e _ _ h))
  · exact .inl (.inr ⟨o, e _ _ h⟩)
  · exact .inr h
mutual
theorem Dp.ext {K : PySem.W.Frag} {H H' : Hp} (e : Same H H') : ∀ (d : PyData) (v : V), Dp K H v d → Dp K H' v d
  | .none, _, h => by cases h; exact .non
  | .bool b, _, h => by cases h; exact .bl b
  | .int i, _, h => by cases h; exact .int i
  | .str x, _, h => by cases h; exact .str x
  | .list ds, _, h => by
    cases h with
    | lst hs ha => exact .lst (e.seq hs) (DpAll.ext e ds _ ha)
  | .tuple ds, _, h => by
    cases h with
    | tup hs ha => exact .tup (SqT.ext e hs) (DpAll.ext e ds _ ha)
  | .dict _, _, h => by cases h
theorem DpAll.ext {K : PySem.W.Frag} {H H' : Hp} (e : Same H H') : ∀ (ds : List PyData) (vs : List V), DpAll K H vs ds → DpAll K H' vs ds
  | [], _, h => by cases h; exact .nil
  | d :: ds, _, h => by
    cases h with
    | cons h1 h2 => exact .cons (Dp.ext e d _ h1) (DpAll.ext e ds _ h2)
end
theorem DpAll.len {K : PySem.W.Frag} {H : Hp} : ∀ {ds : List PyData} {vs : List V}, DpAll K H vs ds → vs.length = ds.length
  | [], _, h => by cases h; rfl
  | d :: ds, _, h => by
    cases h with
    | cons h1 h2 => exact congrArg (· + 1) (DpAll.len h2)
theorem DpAll.get {K : PySem.W.Frag} {H : Hp} : ∀ {ds : List PyData} {vs : List V} {i : Nat} {d : PyData}, DpAll K H vs ds → ds[i]? = some d → ∃ v, vs[i]? = some v ∧ Dp K H v d
  | [], _, _, _, _, e => by simp at e
  | x :: ds, _, 0, d, h, e => by
    cases h with
    | cons h1 h2 =>
      have e1 : x = d := Option.some.inj e
      subst e1
      exact ⟨_, rfl, h1⟩
  | x :: ds, _, i + 1, d, h, e => by
    cases h with
    | cons h1 h2 =>
      obtain ⟨v, hv, hd⟩ := DpAll.get (i := i) h2 (by simpa using e)
      exact ⟨v, by simpa using hv, hd⟩
theorem tyL {K : PySem.W.Frag} {H : Hp} {a : Addr} {xs : List V} (h : SqL K H a xs) : TyX K H (.ref a) (.type "list") := by
  rcases h with (h | ⟨o, h⟩) | ⟨o, its, n, h, c, _⟩
  · exact .base (.lst h)
  · exact .base (.frz h)
  · exact .kList h c
theorem tyT {K : PySem.W.Frag} {H : Hp} {a : Addr} {xs : List V} (h : SqT K H a xs) : TyX K H (.ref a) (.type "tuple") := by
  rcases h with (h | ⟨o, h⟩) | ⟨o, its, n, h, c, _⟩
  · exact .base (.tup h)
  · exact .fTuple h
  · exact .kTuple h c
mutual
/-- no list within -/
def tupOnly : PyData → Bool
  | .list _ => false
  | .dict _ => false
  | .tuple ds => tupOnlys ds
  | _ => true
def tupOnlys : List PyData → Bool
  | [] => true
  | d :: ds => tupOnly d && tupOnlys ds
end
mutual
theorem Dp.away {K : PySem.W.Frag} {H : Hp} {D : Addr} {zs : List V} {o : HO} (hD : H D = some (.lst zs)) : ∀ (d : PyData) (v : V), tupOnly d = true → Dp K H v d → Dp K (upd H D o) v d
  | .none, _, _, h => by cases h; exact .non
  | .bool b, _, _, h => by cases h; exact .bl b
  | .int i, _, _, h => by cases h; exact .int i
  | .str x, _, _, h => by cases h; exact .str x
  | .list ds, _, e, _ => by unfold tupOnly at e; cases e
  | .tuple ds, _, e, h => by
    unfold tupOnly at e
    cases h with
    | @tup a _ _ hs ha =>
      refine .tup ?_ (DpAll.away hD ds _ e ha)
      rcases hs with (hs | ⟨o', hs⟩) | hs
      · exact .inl (.inl (by rw [upd_ne (ne_of hs hD (fun z => nomatch z))]; exact hs))
      · exact .inl (.inr ⟨o', by rw [upd_ne (ne_of hs hD (fun z => nomatch z))]; exact hs⟩)
      · exact .inr hs
  | .dict _, _, _, h => by cases h
theorem DpAll.away {K : PySem.W.Frag} {H : Hp} {D : Addr} {zs : List V} {o : HO} (hD : H D = some (.lst zs)) : ∀ (ds : List PyData) (vs : List V), tupOnlys ds = true → DpAll K H vs ds → DpAll K (upd H D o) vs ds
  | [], _, _, h => by cases h; exact .nil
  | d :: ds, _, e, h => by
    unfold tupOnlys at e
    rw [Bool.and_eq_true] at e
    cases h with
    | cons h1 h2 => exact .cons (Dp.away hD d _ e.1 h1) (DpAll.away hD ds _ e.2 h2)
end
theorem DpAll.snoc {K : PySem.W.Frag} {H : Hp} : ∀ {ds : List PyData} {xs : List V} {v : V} {d : PyData}, DpAll K H xs ds → Dp K H v d → DpAll K H (xs ++ [v]) (ds ++ [d])
  | [], _, _, _, h, h2 => by cases h; exact .cons h2 .nil
  | _ :: ds, _, _, _, h, h2 => by
    cases h with
    | cons a b => exact .cons a (DpAll.snoc b h2)
theorem at_0 {α : Type} {xs : List α} {i : Nat} {v : α} (h : xs[i]? = some v) : atI xs (0 + (i : Int)) = some v := by
  rw [Int.zero_add]
  exact atI_nat h
mutual
/-- what is made of tuples stands when another list is changed -/
theorem Dp.fd {K : PySem.W.Frag} {H H' : Hp} {D : Addr} (hD : ∃ zs, H D = some (.lst zs)) (e : Fd D H H') : ∀ (d : PyData) (v : V), tupOnly d = true → Dp K H v d → Dp K H' v d
  | .none, _, _, h => by cases h; exact .non
  | .bool b, _, _, h => by cases h; exact .bl b
  | .int i, _, _, h => by cases h; exact .int i
  | .str x, _, _, h => by cases h; exact .str x
  | .list ds, _, e, _ => by unfold tupOnly at e; cases e
  | .tuple ds, _, e', h => by
    unfold tupOnly at e'
    obtain ⟨zs, hz⟩ := hD
    cases h with
    | @tup a _ _ hs ha =>
      refine .tup ?_ (DpAll.fd ⟨zs, hz⟩ e ds _ e' ha)
      rcases hs with (hs | ⟨o', hs⟩) | hs
      · exact .inl (.inl (e _ _ (ne_of hs hz (fun z => nomatch z)) hs))
      · exact .inl (.inr ⟨o', e _ _ (ne_of hs hz (fun z => nomatch z)) hs⟩)
      · exact .inr hs
  | .dict _, _, _, h => by cases h
theorem DpAll.fd {K : PySem.W.Frag} {H H' : Hp} {D : Addr} (hD : ∃ zs, H D = some (.lst zs)) (e : Fd D H H') : ∀ (ds : List PyData) (vs : List V), tupOnlys ds = true → DpAll K H vs ds → DpAll K H' vs ds
  | [], _, _, h => by cases h; exact .nil
  | d :: ds, _, e', h => by
    unfold tupOnlys at e'
    rw [Bool.and_eq_true] at e'
    cases h with
    | cons h1 h2 => exact .cons (Dp.fd hD e d _ e'.1 h1) (DpAll.fd hD e ds _ e'.2 h2)
end

/-! ### x.replace('a', 'b') of two written texts: behind something that gave a token out -/
section
variable {X : Cx}
def EPG (X : Cx) (pins : List (Addr × Obj)) (σ : L2.St) (Q : VK) (u : Value) (s' : Shared) : Prop := 1 ≤ s'.toks ∧ EP X pins σ Q u s'
def PEG (X : Cx) (e : Expr) (t : TE) : Prop :=
  ∀ (pins : List (Addr × Obj)) (s : Shared) (σ : L2.St) (H : Hp) (Q : VK), Inv X pins σ H s → t σ H Q → wpAny (model X.prog X.w) X.A (eval e X.env) (EPG X pins σ Q) X.xe s
theorem peg_str {c : Str} {j : Nat} {pos : Pos} : PEG X (.Constant (.str c) j pos) (tC (.str c)) := fun pins s σ H Q I h =>
  Calls.Constant_str ⟨by show 1 ≤ s.toks + 1; omega, .str c, H, I.tok (s.toks + 1), ⟨_, rfl⟩, h⟩
theorem peg_add {a b : Expr} {ta tb : TE} {pos : Pos} (ha : PE X a ta) (hb : PE X b tb) : PEG X (.BinOp a .Add b pos) (tOp (rI0 fun i j => .int (i + j)) ta tb) := by
  intro pins s σ H Q I h
  refine wpAny_BinOp (thn (ha.run pins s σ H _ I h) fun v s1 ⟨x, H1, I1, r1, q1⟩ => thn (hb.run pins s1 σ H1 _ I1 q1) fun u s2 ⟨y, H2, I2, r2, q2⟩ => ?_)
  obtain ⟨i, j, rfl, rfl, q⟩ := q2
  obtain ⟨t1, rfl⟩ := r1
  obtain ⟨t2, rfl⟩ := r2
  exact PyProof.Rows.add_int ⟨by show 1 ≤ s2.toks + 1; omega, .int (i + j), H2, I2.tok (s2.toks + 1), ⟨_, rfl⟩, q⟩
theorem peg_slice {r : V → Option Int → Option Int → Hp → VK → Prop} {e lo hi : Expr} {te tl th : TE} {p2 pos : Pos} (hr : SlR X r) (he : PE X e te) (hl : PEG X lo tl) (hu : PE X hi th) :
    PEG X (.Subscript e (.Slice (some lo) (some hi) none p2) pos) (tSl r te (tPart tl) (tPart th)) := by
  intro pins s σ H Q I h
  refine Subscript_ (thn (he.run pins s σ H _ I h) fun v s1 ⟨x, H1, I1, r1, q1⟩ => ?_)
  refine wpAny_Slice ?_
  rw [evalPart_some]
  refine thn (hl pins s1 σ H1 _ I1 q1) fun vl s2 ⟨g2, yl, H2, I2, r2, q2⟩ => ?_
  obtain ⟨l, rfl, q2⟩ := q2
  obtain ⟨tl', rfl⟩ := r2
  rw [evalPart_some]
  refine wpAny_mono (PySem.wpAny_toks_of g2 (hu.run pins s2 σ H2 _ I2 q2)) (fun vu s3 z => ?_) fun _ _ z => z.2
  obtain ⟨g3, yu, H3, I3, r3, q3⟩ := z
  obtain ⟨u, rfl, q3⟩ := q3
  obtain ⟨tu', rfl⟩ := r3
  rw [evalPart_none]
  refine wpAny_pure ?_
  have I4 : Inv X pins σ H3 { s3 with heap := s3.heap.push { cls := .type "slice", data := .fields #[.int l tl', .int u tu', .none] } } := I3.kept (t' := s3.toks) fun b ob q => Heap.get?_push_of_some _ q
  obtain ⟨T, id, hT, ht, hg⟩ := hr pins { s3 with heap := s3.heap.push { cls := .type "slice", data := .fields #[.int l tl', .int u tu', .none] } } σ H3 x v (.int l tl') (.int u tu') (some l) (some u) s3.heap.objs.size Q I4 r1 (Heap.IsSliceOf.new ..) (.int l tl') (.int u tu') q3
  show wpAny (model X.prog X.w) X.A (subscriptTail e (.Slice (some lo) (some hi) none p2) v (.ref s3.heap.objs.size)) (EPG X pins σ Q) X.xe { s3 with heap := s3.heap.push { cls := .type "slice", data := .fields #[.int l tl', .int u tu', .none] } }
  refine tail_any (ops := [.ref s3.heap.objs.size, v]) ht hT ?_ (by with_unfolding_all rfl)
  exact wpAny_mono (PySem.wpAny_toks_of (n := 1) (show 1 ≤ s3.toks from g3) hg) (fun _ _ z => z) fun _ _ z => z.2
def tRpl (y z : Str) (to : TE) : TE := fun σ H Q => to σ H fun v H1 => ∃ x : Str, v = .str x ∧ x.length + (x.length + 1) * z.length ≤ 16777216 ∧ Q (.str (Txt.replace x y z)) H1
theorem pet_rpl {o : Expr} {to : TE} {y z : Str} {j0 j1 : Nat} {c0 c1 apos cpos : Pos} (ho : PE X o to) (hyz : (y == z) = false)
    (hbase : attributeBase o "replace" X.env (eval o X.env) = eval o X.env := by rfl)
    (hfew : ((backTo cpos (starEach [.Constant (.str y) j0 c0, .Constant (.str z) j1 c1] X.env)).all (fun x => !x.1) && (backToKw cpos (keywordEach [] X.env)).all (fun x => x.1.isSome)
      && decide ([Expr.Constant (.str y) j0 c0, .Constant (.str z) j1 c1].length + ([] : List Keyword).length + (if ([] : List Keyword).isEmpty then 0 else 1) < 30)) = true := by rfl)
    (hline : (apos.endLine == cpos.line) = true := by rfl) :
    PET X (.Call (.Attribute o "replace" apos) [.Constant (.str y) j0 c0, .Constant (.str z) j1 c1] [] cpos) (tRpl y z to) := by
  intro pins s σ H Q g I h
  refine wpAny_Call_method_late hbase hfew hline rfl (wpAny_mono (PySem.wpAny_toks_of g (ho.run pins s σ H _ I h)) (fun v s1 w => ?_) fun _ _ w => w.2)
  obtain ⟨g1, xv, H1, I1, r1, x, rfl, hb, q⟩ := w
  obtain ⟨tx, rfl⟩ := r1
  refine ⟨"str", "str.replace", F.plainAttrs_str, F.slot_str_replace, F.type_str_replace, typeIs_str _ _ _, (fun _ e => nomatch e), ?_⟩
  refine Calls.callWith_builtin rfl (Calls.evalArgs_plain ?_)
  show wpAny _ _ (spliced ((false, eval (.Constant (.str y) j0 c0) X.env) :: backTo cpos (starEach [.Constant (.str z) j1 c1] X.env))) _ _ s1
  refine Calls.spliced_cons (Calls.Constant_str ?_)
  show wpAny _ _ (spliced ((false, eval (.Constant (.str z) j1 c1) X.env) :: backTo cpos (starEach [] X.env))) _ _ _
  refine Calls.spliced_cons (Calls.Constant_str (Calls.spliced_nil ?_))
  have g1' : 1 ≤ s1.toks := g1
  exact PySem.SC.replace (show s1.toks ≠ 0 by omega) (show s1.toks + 1 ≠ 0 by omega) (show s1.toks ≠ s1.toks + 1 by omega) hyz hb fun t' k => ⟨.str (Txt.replace x y z), H1, I1.tok k, ⟨t', rfl⟩, q⟩
theorem pe_rplG {o : Expr} {to : TE} {y z : Str} {j0 j1 : Nat} {c0 c1 apos cpos : Pos} (ho : PEG X o to) (hyz : (y == z) = false)
    (hbase : attributeBase o "replace" X.env (eval o X.env) = eval o X.env := by rfl)
    (hfew : ((backTo cpos (starEach [.Constant (.str y) j0 c0, .Constant (.str z) j1 c1] X.env)).all (fun x => !x.1) && (backToKw cpos (keywordEach [] X.env)).all (fun x => x.1.isSome)
      && decide ([Expr.Constant (.str y) j0 c0, .Constant (.str z) j1 c1].length + ([] : List Keyword).length + (if ([] : List Keyword).isEmpty then 0 else 1) < 30)) = true := by rfl)
    (hline : (apos.endLine == cpos.line) = true := by rfl) :
    PE X (.Call (.Attribute o "replace" apos) [.Constant (.str y) j0 c0, .Constant (.str z) j1 c1] [] cpos) (tRpl y z to) := by
  refine ⟨fun pins s σ H Q I h => ?_⟩
  refine wpAny_Call_method_late hbase hfew hline rfl (wpAny_mono (ho pins s σ H _ I h) (fun v s1 w => ?_) fun _ _ w => w)
  obtain ⟨g1, xv, H1, I1, r1, x, rfl, hb, q⟩ := w
  obtain ⟨tx, rfl⟩ := r1
  refine ⟨"str", "str.replace", F.plainAttrs_str, F.slot_str_replace, F.type_str_replace, typeIs_str _ _ _, (fun _ e => nomatch e), ?_⟩
  refine Calls.callWith_builtin rfl (Calls.evalArgs_plain ?_)
  show wpAny _ _ (spliced ((false, eval (.Constant (.str y) j0 c0) X.env) :: backTo cpos (starEach [.Constant (.str z) j1 c1] X.env))) _ _ s1
  refine Calls.spliced_cons (Calls.Constant_str ?_)
  show wpAny _ _ (spliced ((false, eval (.Constant (.str z) j1 c1) X.env) :: backTo cpos (starEach [] X.env))) _ _ _
  refine Calls.spliced_cons (Calls.Constant_str (Calls.spliced_nil ?_))
  have g1' : 1 ≤ s1.toks := g1
  exact PySem.SC.replace (show s1.toks ≠ 0 by omega) (show s1.toks + 1 ≠ 0 by omega) (show s1.toks ≠ s1.toks + 1 by omega) hyz hb fun t' k => ⟨.str (Txt.replace x y z), H1, I1.tok k, ⟨t', rfl⟩, q⟩
theorem pe_opG {a b : Expr} {op : Operator} {r : R2} {ta tb : TE} {pos : Pos} (ho : OpR X (binaryOp op) r) (ha : PEG X a ta) (hb : PET X b tb) : PE X (.BinOp a op b pos) (tOp r ta tb) := by
  refine ⟨fun pins s σ H Q I h => ?_⟩
  refine wpAny_BinOp (thn (ha pins s σ H _ I h) fun v s1 ⟨g1, x, H1, I1, r1, q1⟩ => thn (hb pins s1 σ H1 _ g1 I1 q1) fun u s2 ⟨y, H2, I2, r2, q2⟩ => ?_)
  exact ho pins s2 σ H2 x y v u Q I2 r1 r2 q2
/-- a test that gives a token out -/
def PTG (X : Cx) (e : Expr) (t : TT) : Prop :=
  ∀ (pins : List (Addr × Obj)) (s : Shared) (σ : L2.St) (H : Hp) (Q : Bool → Hp → Prop), Inv X pins σ H s → t σ H Q → wpAny (model X.prog X.w) X.A (isTrue e X.env (eval e X.env)) (fun b s' => 1 ≤ s'.toks ∧ TP X pins σ Q b s') X.xe s
theorem ptg_cmp {a b : Expr} {op : CmpOp} {r : R2} {ta tb : TE} {pos : Pos} (ho : OpR X (compareOp op) r) (ha : PE X a ta) (hb : PEG X b tb) (hm : behindInMarks op b = false) : PTG X (.Compare a [op] [b] pos) (tTest (tOp r ta tb)) := by
  intro pins s σ H Q I h
  refine wpAny_isTrue_Compare1 (thn (ha.run pins s σ H _ I h) fun v s1 ⟨x, H1, I1, r1, q1⟩ => thn (hb pins s1 σ H1 _ I1 q1) fun u s2 ⟨g2, y, H2, I2, r2, q2⟩ => ?_) hm
  refine wpAny_mono (PySem.wpAny_toks_of g2 (ho pins s2 σ H2 x y v u _ I2 r1 r2 q2)) (fun c s3 z => ?_) fun _ _ z => z.2
  obtain ⟨g3, z, H3, I3, r3, k, e, q3⟩ := z
  subst e
  cases r3
  exact wpAny_truthy_bool ⟨g3, H3, I3, q3⟩
def PSG (X : Cx) (st : Stmt) (t : TS) : Prop :=
  ∀ (pins : List (Addr × Obj)) (s : Shared) (σ : L2.St) (H : Hp) (D : Ends), Inv X pins σ H s → t D σ H → wpAny (model X.prog X.w) X.A (exec st X.env) (fun f s' => 1 ≤ s'.toks ∧ SP X pins D f s') X.xe s
theorem psg_if {c : Expr} {a b : List Stmt} {tc : TT} {t u : TS} {pos : Pos} (hc : PTG X c tc) (ha : PSs X a t) (hb : PSs X b u) : PSG X (.If c a b pos) (tIfS tc t u) := by
  intro pins s σ H D I h
  refine wpAny_If (thn (hc pins s σ H _ I h) fun d s1 ⟨g1, H1, I1, q1⟩ => ?_)
  cases d with
  | true => exact wpAny_mono (PySem.wpAny_toks_of g1 (ha.run pins s1 σ H1 D I1 q1)) (fun _ _ z => z) fun _ _ z => z.2
  | false => exact wpAny_mono (PySem.wpAny_toks_of g1 (hb.run pins s1 σ H1 D I1 q1)) (fun _ _ z => z) fun _ _ z => z.2
theorem pss_consG {st : Stmt} {rest : List Stmt} {t u : TS} (h1 : PSG X st t) (h2 : PSsT X rest u) : PSs X (st :: rest) (tSeq t u) := by
  refine ⟨fun pins s σ H D I h => ?_⟩
  refine wpAny_execs_cons (thn (h1 pins s σ H { D with nx := u D } I h) fun f s1 z => ?_)
  obtain ⟨g1, q⟩ := z
  cases f with
  | next =>
    obtain ⟨σ', H', I', q⟩ := q
    exact h2 pins s1 σ' H' D g1 I' q
  | ret v => exact q
  | brk => exact q
  | cont => exact q
theorem pst_if {c : Expr} {a b : List Stmt} {tc : TT} {t u : TS} {pos : Pos} (hc : PT X c tc) (ha : PSsT X a t) (hb : PSsT X b u) : PST X (.If c a b pos) (tIfS tc t u) := by
  intro pins s σ H D g I h
  refine wpAny_If (wpAny_mono (PySem.wpAny_toks_of g (hc.run pins s σ H _ I h)) (fun d s1 z => ?_) fun _ _ z => z.2)
  obtain ⟨g1, H1, I1, q1⟩ := z
  cases d with
  | true => exact ha pins s1 σ H1 D g1 I1 q1
  | false => exact hb pins s1 σ H1 D g1 I1 q1
theorem pst_set {i : Nat} {x : Str} {e : Expr} {te : TE} {pos' pos : Pos} (hN : X.N.Nodup) (hi : X.N[i]? = some x) (hx : Loc X.env.scope x) (he : PET X e te) (hs : swapsWith e (some (.Name x pos')) pos.line X.env = pure false := by rfl) (hf : X.fn x = true ∨ X.env.scope.names.lookup x = some .local := by first | exact .inl rfl | exact .inr rfl | assumption) :
    PST X (.Assign [.Name x pos'] e pos) (tAsg te (gName i)) := by
  intro pins s σ H D g I h
  refine wpAny_Assign_Name (thn (he pins s σ H _ g I h) fun v s1 ⟨y, H1, I1, r1, q1⟩ => ?_) hs
  exact store_ok I1 hN hi hx r1 (fun s2 I2 => ⟨_, H1, I2, q1⟩) hf
end

/-! ### doubled quotes -/
def und (l : List Nat) : List Nat := TL.joinL [39] (TL.spl [39, 39] 0 [] l)
def dbl : List Nat → List Nat
  | [] => []
  | c :: r => if c = 39 then 39 :: 39 :: dbl r else c :: dbl r
/-! quotes -/
theorem und_dbl : ∀ (v acc : List Nat), TL.joinL [39] (TL.spl [39, 39] 0 acc (dbl v)) = acc ++ v
  | [], acc => by
    show TL.joinL [39] [acc] = _
    rw [List.append_nil]
    rfl
  | c :: v, acc => by
    unfold dbl
    by_cases h : c = 39
    · rw [if_pos h, TL.spl_hit (by rfl)]
      show TL.joinL [39] (acc :: TL.spl [39, 39] 1 [] (39 :: dbl v)) = _
      have e : TL.spl [39, 39] 1 [] (39 :: dbl v) = TL.spl [39, 39] 0 [] (dbl v) := rfl
      rw [e]
      have ih := und_dbl v []
      have ne : TL.spl [39, 39] 0 [] (dbl v) ≠ [] := spl_ne _ _ _ _
      cases es : TL.spl [39, 39] 0 [] (dbl v) with
      | nil => exact absurd es ne
      | cons q r =>
        rw [es] at ih
        show acc ++ ([39] ++ TL.joinL [39] (q :: r)) = _
        rw [ih, h]
        rfl
    · rw [if_neg h, TL.spl_miss (by
        unfold TL.pre
        cases dbl v with
        | nil => simp
        | cons d r => simp [h])]
      rw [und_dbl v (acc ++ [c]), List.append_assoc]
      rfl
where
  spl_ne : ∀ (S : List Nat) (k : Nat) (acc l : List Nat), TL.spl S k acc l ≠ []
    | S, k, acc, [] => by rw [TL.spl_nil]; simp
    | S, 0, acc, c :: r => by
      unfold TL.spl
      split
      · simp
      · exact spl_ne S 0 _ r
    | S, k + 1, acc, c :: r => spl_ne S k acc r
theorem und_dbl' (v : List Nat) : und (dbl v) = v := und_dbl v []
theorem dbl_rpl : ∀ (v acc : List Nat), TL.joinL [39, 39] (TL.spl [39] 0 acc v) = acc ++ dbl v
  | [], acc => by
    show TL.joinL [39, 39] [acc] = _
    rw [show dbl [] = [] from rfl, List.append_nil]
    rfl
  | c :: v, acc => by
    unfold dbl
    by_cases h : c = 39
    · rw [if_pos h, TL.spl_hit (by rw [h]; rfl)]
      have e : TL.spl [39] ([39].length - 1) [] v = TL.spl [39] 0 [] v := rfl
      rw [e]
      have ih := dbl_rpl v []
      cases es : TL.spl [39] 0 [] v with
      | nil => exact absurd es (und_dbl.spl_ne _ _ _ _)
      | cons q r =>
        rw [es] at ih
        show acc ++ ([39, 39] ++ TL.joinL [39, 39] (q :: r)) = _
        rw [ih]
        rfl
    · rw [if_neg h, TL.spl_miss (by
        unfold TL.pre
        simp [h])]
      rw [dbl_rpl v (acc ++ [c]), List.append_assoc]
      rfl
theorem rpl_S (x y z : List Nat) (hy : y ≠ []) (hk : y.all (· < 256) = true) : Txt.replace ⟨x.toArray⟩ ⟨y.toArray⟩ ⟨z.toArray⟩ = ⟨(TL.joinL z (TL.spl y 0 [] x)).toArray⟩ := by
  have hs : Txt.split (SX.S x) (SX.S y) = (TL.spl y 0 [] x).map SX.S := SX.split_S hy hk
  have hkd := TL.kind_ok (x := SX.S x) (SX.all256 hk)
  have hyl : (SX.S y).length = y.length := SX.S_len y
  have hyp : 0 < y.length := List.length_pos_iff.mpr hy
  have hj := SX.join_S z (TL.spl y 0 [] x)
  rw [← hs] at hj
  refine Eq.trans ?_ hj
  show Txt.replace (SX.S x) (SX.S y) (SX.S z) = Txt.join (SX.S z) (Txt.split (SX.S x) (SX.S y))
  unfold Txt.replace Txt.split
  have one : ∀ w : Str, Txt.join w [SX.S x] = SX.S x := fun w => by
    have := SX.join_S (TL.tl w) [x]
    rw [SX.S_tl] at this
    exact this
  have hz0 : ((SX.S y).length == 0 && (SX.S z).length == 0) = false := by
    rw [hyl]
    cases y with
    | nil => exact absurd rfl hy
    | cons a b => rfl
  rw [hz0, Bool.or_false]
  cases ho : (Builtin.Str.occurrences (SX.S x) (SX.S y) 0 (SX.S x).length ((SX.S x).length + 1)).isEmpty with
  | true =>
    rw [if_pos rfl, if_pos rfl, ite_self, one]
  | false =>
    rw [if_neg Bool.false_ne_true, if_neg Bool.false_ne_true]
    have hl : decide ((SX.S x).length < (SX.S y).length) = false := by
      refine decide_eq_false fun hlt => ?_
      cases hoc : Builtin.Str.occurrences (SX.S x) (SX.S y) 0 (SX.S x).length ((SX.S x).length + 1) with
      | nil =>
        rw [hoc] at ho
        cases ho
      | cons i r =>
        have := (PySem.StrLaws.occ_spec (SX.S x) (SX.S y) 0 (SX.S x).length ((SX.S x).length + 1) i (by rw [hoc]; exact List.mem_cons_self ..)).1
        omega
    rw [hl, decide_eq_false hkd]
    rfl

theorem dbl_len : ∀ l : List Nat, (dbl l).length ≤ 2 * l.length
  | [] => Nat.le_refl _
  | c :: r => by
    have := dbl_len r
    unfold dbl
    split
    · simp only [List.length_cons]; omega
    · simp only [List.length_cons]; omega

def LET : List Nat := (Str.ofString "abcdefghijklmnopqrstuvwxyz_ABCDEFGHIJKLMNOPQRSTUVWXYZ").cps.toList
def DIG : List Nat := (Str.ofString "0123456789").cps.toList
theorem DIG_S : Str.ofString "0123456789" = ⟨DIG.toArray⟩ := (SX.S_tl _).symm

/-! ### expressions and their canonical texts -/
inductive Bop where
  | or | and | lt | le | eq | ne | ge | gt | add | sub | mul | div | mod
def Bop.s : Bop → String
  | .or => "or" | .and => "and" | .lt => "<" | .le => "<=" | .eq => "=" | .ne => "!=" | .ge => ">=" | .gt => ">" | .add => "+" | .sub => "-" | .mul => "*" | .div => "div" | .mod => "mod"
def Bop.w (o : Bop) : Str := Str.ofString o.s
/-- how closely it binds; its left, its right operand -/
def Bop.lv : Bop → Nat
  | .or => 1 | .and => 2 | .add => 5 | .sub => 5 | .mul => 6 | .div => 6 | .mod => 6 | _ => 4
def Bop.lf : Bop → Nat
  | .or => 1 | .and => 2 | .add => 5 | .sub => 5 | .mul => 6 | .div => 6 | .mod => 6 | _ => 5
def Bop.rt : Bop → Nat
  | .or => 2 | .and => 3 | .add => 6 | .sub => 6 | .mul => 7 | .div => 7 | .mod => 7 | _ => 5
inductive Ex where
  | num (n : Nat) | text (l : List Nat) | truth (b : Bool) | null | name (l : List Nat) | field (l m : List Nat)
  | neg (a : Ex) | nt (a : Ex) | bin (o : Bop) (a b : Ex) | f1 (m : Bool) (a : Ex) | f2 (m : Bool) (a b : Ex) | f3 (a b c : Ex)
def f1s (m : Bool) : String := if m = true then "missing" else "length"
def f2s (m : Bool) : String := if m = true then "starts" else "coalesce"
def Ex.d : Ex → PyData
  | .num n => .tuple [.str "number", .int n]
  | .text l => .tuple [.str "text", .str ⟨l.toArray⟩]
  | .truth b => .tuple [.str "truth", .int (if b = true then 1 else 0)]
  | .null => .tuple [.str "null"]
  | .name l => .tuple [.str "name", .str ⟨l.toArray⟩]
  | .field l m => .tuple [.str "field", .str ⟨l.toArray⟩, .str ⟨m.toArray⟩]
  | .neg a => .tuple [.str "negate", a.d]
  | .nt a => .tuple [.str "not", a.d]
  | .bin o a b => .tuple [.str o.w, a.d, b.d]
  | .f1 m a => .tuple [.str (Str.ofString (f1s m)), a.d]
  | .f2 m a b => .tuple [.str (Str.ofString (f2s m)), a.d, b.d]
  | .f3 a b c => .tuple [.str "if", a.d, b.d, c.d]
def Ex.ht : Ex → Nat
  | .neg a => a.ht + 1
  | .nt a => a.ht + 1
  | .bin _ a b => max a.ht b.ht + 1
  | .f1 _ a => a.ht + 1
  | .f2 _ a b => max a.ht b.ht + 1
  | .f3 a b c => max a.ht (max b.ht c.ht) + 1
  | _ => 0
def Ex.lev : Ex → Nat
  | .bin o _ _ => o.lv
  | .nt _ => 3
  | .neg _ => 7
  | _ => 8
def codes (s : String) : List Nat := (Str.ofString s).cps.toList
theorem codes_S (s : String) : Str.ofString s = ⟨(codes s).toArray⟩ := (SX.S_tl _).symm
def par (b : Bool) (l : List Nat) : List Nat := if b = true then 40 :: (l ++ [41]) else l
def Ex.pr : Ex → List Nat
  | .num n => TL.numL n
  | .text l => 39 :: (dbl l ++ [39])
  | .truth b => codes (if b = true then "true" else "false")
  | .null => codes "null"
  | .name l => l
  | .field l m => l ++ 46 :: m
  | .neg a => 45 :: par (decide (a.lev < 7)) a.pr
  | .nt a => codes "not " ++ par (decide (a.lev < 3)) a.pr
  | .bin o a b => par (decide (a.lev < o.lf)) a.pr ++ 32 :: (codes o.s ++ 32 :: par (decide (b.lev < o.rt)) b.pr)
  | .f1 m a => codes (f1s m) ++ 40 :: (a.pr ++ [41])
  | .f2 m a b => codes (f2s m) ++ 40 :: (a.pr ++ 44 :: 32 :: (b.pr ++ [41]))
  | .f3 a b c => codes "if" ++ 40 :: (a.pr ++ 44 :: 32 :: (b.pr ++ 44 :: 32 :: (c.pr ++ [41])))
/-- numbers of up to fifteen digits, texts of up to 100 signs, names of up to 21 -/
def Ex.ok : Ex → Prop
  | .num n => n < 10 ^ 15
  | .text l => l.length ≤ 100 ∧ ∀ x ∈ l, x < 1114112
  | .name l => l.length ≤ 21
  | .field l m => l.length ≤ 21 ∧ m.length ≤ 21
  | .neg a => a.ok
  | .nt a => a.ok
  | .bin _ a b => a.ok ∧ b.ok
  | .f1 _ a => a.ok
  | .f2 _ a b => a.ok ∧ b.ok
  | .f3 a b c => a.ok ∧ b.ok ∧ c.ok
  | _ => True
theorem par_len (b : Bool) (l : List Nat) : (par b l).length ≤ l.length + 2 := by
  unfold par
  split
  · simp only [List.length_cons, List.length_append, List.length_nil]; omega
  · omega
theorem ex_only : ∀ e : Ex, tupOnly e.d = true
  | .num _ => rfl
  | .text _ => rfl
  | .truth _ => rfl
  | .null => rfl
  | .name _ => rfl
  | .field _ _ => rfl
  | .neg a => by simp [Ex.d, tupOnly, tupOnlys, ex_only a]
  | .nt a => by simp [Ex.d, tupOnly, tupOnlys, ex_only a]
  | .bin _ a b => by simp [Ex.d, tupOnly, tupOnlys, ex_only a, ex_only b]
  | .f1 _ a => by simp [Ex.d, tupOnly, tupOnlys, ex_only a]
  | .f2 _ a b => by simp [Ex.d, tupOnly, tupOnlys, ex_only a, ex_only b]
  | .f3 a b c => by simp [Ex.d, tupOnly, tupOnlys, ex_only a, ex_only b, ex_only c]
theorem Bop.sl (o : Bop) : (codes o.s).length ≤ 3 := by cases o <;> decide
theorem f1l (m : Bool) : (codes (f1s m)).length ≤ 8 := by cases m <;> decide
theorem f2l (m : Bool) : (codes (f2s m)).length ≤ 8 := by cases m <;> decide
/-- how long a text of this height can be -/
def mx : Nat → Nat
  | 0 => 210
  | n + 1 => 3 * mx n + 30
theorem mx_mono : ∀ {m n : Nat}, m ≤ n → mx m ≤ mx n
  | m, 0, h => by
    have e : m = 0 := by omega
    subst e
    exact Nat.le_refl _
  | m, n + 1, h => by
    by_cases e : m = n + 1
    · subst e
      exact Nat.le_refl _
    · have := mx_mono (m := m) (n := n) (by omega)
      show mx m ≤ 3 * mx n + 30
      omega
theorem pr_len : ∀ e : Ex, e.ok → e.pr.length ≤ mx e.ht
  | .num n, h => Nat.le_trans (TL.numL_len (by decide) h) (show (15 : Nat) ≤ 210 by decide)
  | .text l, h => by
    have := dbl_len l
    have h1 := h.1
    show (39 :: (dbl l ++ [39])).length ≤ 210
    simp only [List.length_cons, List.length_append, List.length_nil]
    omega
  | .truth b, _ => by cases b <;> (show (codes _).length ≤ 210; decide)
  | .null, _ => by show (codes "null").length ≤ 210; decide
  | .name l, h => by
    have h : l.length ≤ 21 := h
    show l.length ≤ 210
    omega
  | .field l m, h => by
    have h1 : l.length ≤ 21 := h.1
    have h2 : m.length ≤ 21 := h.2
    show (l ++ 46 :: m).length ≤ 210
    simp only [List.length_cons, List.length_append]
    omega
  | .neg a, h => by
    have := pr_len a h
    have p := par_len (decide (a.lev < 7)) a.pr
    show (45 :: par _ a.pr).length ≤ 3 * mx a.ht + 30
    simp only [List.length_cons]
    omega
  | .nt a, h => by
    have := pr_len a h
    have p := par_len (decide (a.lev < 3)) a.pr
    show (codes "not " ++ par _ a.pr).length ≤ 3 * mx a.ht + 30
    rw [List.length_append, show (codes "not ").length = 4 by decide]
    omega
  | .bin o a b, h => by
    have := Nat.le_trans (pr_len a h.1) (mx_mono (Nat.le_max_left a.ht b.ht))
    have := Nat.le_trans (pr_len b h.2) (mx_mono (Nat.le_max_right a.ht b.ht))
    have := par_len (decide (a.lev < o.lf)) a.pr
    have := par_len (decide (b.lev < o.rt)) b.pr
    have := o.sl
    show (par _ a.pr ++ 32 :: (codes o.s ++ 32 :: par _ b.pr)).length ≤ 3 * mx (max a.ht b.ht) + 30
    simp only [List.length_cons, List.length_append]
    omega
  | .f1 m a, h => by
    have := pr_len a h
    have := f1l m
    show (codes (f1s m) ++ 40 :: (a.pr ++ [41])).length ≤ 3 * mx a.ht + 30
    simp only [List.length_cons, List.length_append, List.length_nil]
    omega
  | .f2 m a b, h => by
    have := Nat.le_trans (pr_len a h.1) (mx_mono (Nat.le_max_left a.ht b.ht))
    have := Nat.le_trans (pr_len b h.2) (mx_mono (Nat.le_max_right a.ht b.ht))
    have := f2l m
    show (codes (f2s m) ++ 40 :: (a.pr ++ 44 :: 32 :: (b.pr ++ [41]))).length ≤ 3 * mx (max a.ht b.ht) + 30
    simp only [List.length_cons, List.length_append, List.length_nil]
    omega
  | .f3 a b c, h => by
    have := Nat.le_trans (pr_len a h.1) (mx_mono (Nat.le_max_left a.ht (max b.ht c.ht)))
    have := Nat.le_trans (pr_len b h.2.1) (mx_mono (Nat.le_trans (Nat.le_max_left b.ht c.ht) (Nat.le_max_right a.ht (max b.ht c.ht))))
    have := Nat.le_trans (pr_len c h.2.2) (mx_mono (Nat.le_trans (Nat.le_max_right b.ht c.ht) (Nat.le_max_right a.ht (max b.ht c.ht))))
    show (codes "if" ++ 40 :: (a.pr ++ 44 :: 32 :: (b.pr ++ 44 :: 32 :: (c.pr ++ [41])))).length ≤ 3 * mx (max a.ht (max b.ht c.ht)) + 30
    simp only [List.length_cons, List.length_append, List.length_nil, show (codes "if").length = 2 by decide]
    omega
theorem pr_le {e : Ex} (h : e.ok) (ht : e.ht ≤ 8) : e.pr.length ≤ 1500000 := Nat.le_trans (pr_len e h) (Nat.le_trans (mx_mono ht) (by decide))

/-! ### the program's printing of expressions -/
def Ex.isl : Ex → Bool
  | .num _ => true | .text _ => true | .truth _ => true | .null => true | .name _ => true | .field _ _ => true | _ => false
/-- the word of an expression -/
def Ex.wd : Ex → Str
  | .num _ => "number" | .text _ => "text" | .truth _ => "truth" | .null => "null" | .name _ => "name" | .field _ _ => "field" | .neg _ => "negate" | .nt _ => "not"
  | .bin o _ _ => o.w | .f1 m _ => Str.ofString (f1s m) | .f2 m _ _ => Str.ofString (f2s m) | .f3 _ _ _ => "if"
theorem wne (a b : String) (h : (Str.ofString a == Str.ofString b) = false) : decide (V.str (Str.ofString a) = V.str (Str.ofString b)) = false := by
  refine decide_eq_false fun e => ?_
  rw [V.str.inj e] at h
  have : (Str.ofString b == Str.ofString b) = true := beq_self_eq_true _
  rw [this] at h
  cases h
theorem weq (a : Str) : decide (V.str a = V.str a) = true := decide_eq_true rfl
def Bop.isn (o : Bop) (x : String) : (Str.ofString o.s == Str.ofString x) = false → decide (V.str o.w = V.str (Str.ofString x)) = false := wne _ _
theorem wd_not (e : Ex) : decide (V.str e.wd = V.str "not") = (match e with | .nt _ => true | _ => false) := by
  cases e with
  | bin o a b => exact o.isn "not" (by cases o <;> decide +kernel)
  | f1 m a => exact wne _ "not" (by cases m <;> decide +kernel)
  | f2 m a b => exact wne _ "not" (by cases m <;> decide +kernel)
  | nt a => exact weq _
  | num n => exact wne "number" "not" (by decide +kernel)
  | text n => exact wne "text" "not" (by decide +kernel)
  | truth n => exact wne "truth" "not" (by decide +kernel)
  | null => exact wne "null" "not" (by decide +kernel)
  | name n => exact wne "name" "not" (by decide +kernel)
  | field n m => exact wne "field" "not" (by decide +kernel)
  | neg n => exact wne "negate" "not" (by decide +kernel)
  | f3 a b c => exact wne "if" "not" (by decide +kernel)
theorem wd_neg (e : Ex) : decide (V.str e.wd = V.str "negate") = (match e with | .neg _ => true | _ => false) := by
  cases e with
  | bin o a b => exact o.isn "negate" (by cases o <;> decide +kernel)
  | f1 m a => exact wne _ "negate" (by cases m <;> decide +kernel)
  | f2 m a b => exact wne _ "negate" (by cases m <;> decide +kernel)
  | neg a => exact weq _
  | num n => exact wne "number" "negate" (by decide +kernel)
  | text n => exact wne "text" "negate" (by decide +kernel)
  | truth n => exact wne "truth" "negate" (by decide +kernel)
  | null => exact wne "null" "negate" (by decide +kernel)
  | name n => exact wne "name" "negate" (by decide +kernel)
  | field n m => exact wne "field" "negate" (by decide +kernel)
  | nt n => exact wne "not" "negate" (by decide +kernel)
  | f3 a b c => exact wne "if" "negate" (by decide +kernel)

structure Gl (K : PySem.W.Frag) (w : World) (mg : Str → Option Value) (ap af : Addr) (es : Array DictEntry) (n : Nat) : Prop where
  OPERATORS : ∃ u, mg "OPERATORS" = some u ∧ RelV (.ref ap) u
  FUNCTIONS : ∃ u, mg "FUNCTIONS" = some u ∧ RelV (.ref af) u
  NOT : ∃ u, mg "NOT" = some u ∧ RelV (.int 3) u
  CLOSEST : ∃ u, mg "CLOSEST" = some u ∧ RelV (.int 7) u
  fnT : ∀ H : Hp, SqT K H af [.str "missing", .str "length", .str "starts", .str "coalesce", .str "if"]
  OPERATORS_D : KDict K w ap es n
  hit : ∀ o : Bop, ∃ t : Addr, PySem.W.nsIn K ap o.w = some (some (.ref t)) ∧ ∀ H : Hp, SqT K H t [.int o.lv, .int o.lf, .int o.rt]
  miss : ∀ x ∈ (["not", "negate", "missing", "length", "starts", "coalesce", "if", "number", "text", "truth", "null", "name", "field"] : List String), PySem.W.nsIn K ap (Str.ofString x) = some none
def sp_close (K : PySem.W.Frag) : Sp := fun vs H Q _ => ∃ (p : V) (e : Ex), vs = [p] ∧ Dp K H p e.d ∧ Q (.int ((min e.lev 7 : Nat) : Int)) H
def sp_leaf (K : PySem.W.Frag) : Sp := fun vs H Q _ => ∃ (p : V) (e : Ex), vs = [p] ∧ Dp K H p e.d ∧ e.ok ∧ e.isl = true ∧ ∀ H', Same H H' → Q (.str ⟨e.pr.toArray⟩) H'
def sp_pr (K : PySem.W.Frag) (n : Nat) : Sp := fun vs H Q _ => ∃ (p : V) (e : Ex), vs = [p] ∧ Dp K H p e.d ∧ e.ok ∧ e.ht < n ∧ e.ht ≤ 8 ∧ ∀ H', Same H H' → Q (.str ⟨e.pr.toArray⟩) H'
def sp_in (K : PySem.W.Frag) (n : Nat) : Sp := fun vs H Q _ => ∃ (p : V) (e : Ex) (k : Nat), vs = [p, .int (k : Nat)] ∧ Dp K H p e.d ∧ e.ok ∧ e.ht < n ∧ e.ht ≤ 8 ∧ k ≤ 7 ∧ ∀ H', Same H H' → Q (.str ⟨(par (decide (e.lev < k)) e.pr).toArray⟩) H'
section
variable {P : Program} {w : World} {K : PySem.W.Frag} {mg : Str → Option Value} {base : Heap}
/-- a tuple's word and the rest -/
theorem dp_tup {H : Hp} {p : V} {ds : List PyData} (h : Dp K H p (.tuple ds)) : ∃ a xs, p = .ref a ∧ SqT K H a xs ∧ DpAll K H xs ds := by
  cases h with
  | tup hs ha => exact ⟨_, _, rfl, hs, ha⟩
theorem dp_two {H : Hp} {xs : List V} {s : Str} {d : PyData} (h : DpAll K H xs [.str s, d]) : ∃ v, xs = [.str s, v] ∧ Dp K H v d := by
  cases h with
  | cons h1 h2 =>
    cases h1
    cases h2 with
    | cons h3 h4 =>
      cases h4
      exact ⟨_, rfl, h3⟩
theorem dp_three {H : Hp} {xs : List V} {s : Str} {d e : PyData} (h : DpAll K H xs [.str s, d, e]) : ∃ v u, xs = [.str s, v, u] ∧ Dp K H v d ∧ Dp K H u e := by
  cases h with
  | cons h1 h2 =>
    cases h1
    cases h2 with
    | cons h3 h4 =>
      cases h4 with
      | cons h5 h6 =>
        cases h6
        exact ⟨_, _, rfl, h3, h5⟩
theorem dp_four {H : Hp} {xs : List V} {s : Str} {d e f : PyData} (h : DpAll K H xs [.str s, d, e, f]) : ∃ v u t, xs = [.str s, v, u, t] ∧ Dp K H v d ∧ Dp K H u e ∧ Dp K H t f := by
  cases h with
  | cons h1 h2 =>
    cases h1
    obtain ⟨v, h⟩ : ∃ v, True := ⟨V.non, trivial⟩
    cases h2 with
    | cons h3 h4 =>
      cases h4 with
      | cons h5 h6 =>
        cases h6 with
        | cons h7 h8 =>
          cases h8
          exact ⟨_, _, _, rfl, h3, h5, h7⟩
theorem dp_cons {H : Hp} {xs : List V} {s : Str} {ds : List PyData} (h : DpAll K H xs (.str s :: ds)) : ∃ vs, xs = .str s :: vs ∧ DpAll K H vs ds := by
  cases h with
  | cons h1 h2 =>
    cases h1
    exact ⟨_, rfl, h2⟩
theorem ex_word {H : Hp} {p : V} {e : Ex} (h : Dp K H p e.d) : ∃ a ys, p = .ref a ∧ SqT K H a (.str e.wd :: ys) := by
  have key : ∀ (s : Str) (ds : List PyData), Dp K H p (.tuple (.str s :: ds)) → ∃ a ys, p = .ref a ∧ SqT K H a (.str s :: ys) := fun s ds h => by
    obtain ⟨a, xs, rfl, hs, ha⟩ := dp_tup h
    cases ha with
    | cons h1 h2 =>
      cases h1
      exact ⟨_, _, rfl, hs⟩
  cases e <;> exact key _ _ h
theorem ok_close {f : Addr} {fd : FuncData} {ap af : Addr} {es : Array DictEntry} {n : Nat} (F : Fun K "closeness" "closeness" s_closeness f fd) (G : Gl K w mg ap af es n) : FnOk P w K mg base CX0 1 f fd ["expression"] (sp_close K) := by
  refine F.ok sc_closeness (fun vs H Q E h => ?_) (fun cdv A outer s H vs Q E hr h => ?_)
  · obtain ⟨p, e, rfl, _⟩ := h
    rfl
  · obtain ⟨p, e, rfl, he, q⟩ := h
    obtain ⟨a, ys, rfl, hs⟩ := ex_word he
    have at0 : atI (V.str e.wd :: ys) (0 : Int) = some (.str e.wd) := atI_nat (j := 0) rfl
    refine ⟨_, (pss_cons (ps_set (i := 1) sc_closeness.nd rfl (.inl rfl) (pe_ix (ix_tupK K) (pv 0) pe_int (fun _ _ => rfl)))
      (pss_cons (ps_if (pt_cmpR (op_in_kd G.OPERATORS_D) (pv 1) (C8.pe_gc (by rfl) G.OPERATORS) (by rfl)) (pss_one (ps_ret (pe_ix (ix_tupK K) (pe_ix ix_kdict (C8.pe_gc (by rfl) G.OPERATORS) (pv 1) (fun _ _ => rfl)) pe_int (fun _ _ => rfl)))) pss_nil)
      (pss_one (ps_ret (pe_ifExp (pt_cmpR op_eq (pv 1) pe_str (nomark _)) (C8.pe_gc (by rfl) G.NOT) (C8.pe_gc (by rfl) G.CLOSEST)))))), ?_⟩
    refine ⟨_, rfl, a, _, _, _, rfl, rfl, hs, at0, ?_⟩
    by_cases hb : ∃ o a b, e = .bin o a b
    · obtain ⟨o, x, y, rfl⟩ := hb
      obtain ⟨t, ht, hq⟩ := G.hit o
      refine ⟨_, rfl, _, _, rfl, rfl, ht, _, rfl, iteT ?_⟩
      refine ⟨_, rfl, ap, _, .ref t, rfl, rfl, ⟨es, n, .ref t, G.OPERATORS_D.at_, G.OPERATORS_D.lit, ht, rfl⟩, t, _, _, _, rfl, rfl, hq _, atI_nat (j := 0) rfl, ?_⟩
      have : min o.lv 7 = o.lv := by cases o <;> rfl
      show Q (.int o.lv) H
      have q : Q (.int ((min o.lv 7 : Nat) : Int)) H := q
      rw [this] at q
      exact q
    · have hm : PySem.W.nsIn K ap e.wd = some none := by
        cases e with
        | bin o x y => exact absurd ⟨o, x, y, rfl⟩ hb
        | num n => exact G.miss "number" (by decide)
        | text l => exact G.miss "text" (by decide)
        | truth b => exact G.miss "truth" (by decide)
        | null => exact G.miss "null" (by decide)
        | name l => exact G.miss "name" (by decide)
        | field l m => exact G.miss "field" (by decide)
        | neg a => exact G.miss "negate" (by decide)
        | nt a => exact G.miss "not" (by decide)
        | f1 m a => cases m; exact G.miss "length" (by decide); exact G.miss "missing" (by decide)
        | f2 m a b => cases m; exact G.miss "coalesce" (by decide); exact G.miss "starts" (by decide)
        | f3 a b c => exact G.miss "if" (by decide)
      refine ⟨_, rfl, _, _, rfl, rfl, hm, _, rfl, iteF ?_⟩
      refine ⟨_, rfl, rfl, _, rfl, ?_⟩
      rw [wd_not]
      cases e with
      | bin o x y => exact absurd ⟨o, x, y, rfl⟩ hb
      | nt a => exact iteT q
      | _ => exact iteF q
theorem num_log {n : Nat} (h : n < 10 ^ 15) : ((n : Nat) : Int).natAbs.log2 < 1920 := by
  show n.log2 < 1920
  by_cases h0 : n = 0
  · subst h0
    decide
  · have : n.log2 < 50 := (Nat.log2_lt h0).mpr (by omega)
    omega
theorem num_S (n : Nat) : Str.ofString (toString ((n : Nat) : Int)) = ⟨(TL.numL n).toArray⟩ := SX.num_S n
theorem ok_leaf {f : Addr} {fd : FuncData} (F : Fun K "leaf_text" "leaf_text" s_leaf_text f fd) (M : Mg mg) : FnOk P w K mg base CX0 1 f fd ["expression"] (sp_leaf K) := by
  refine F.ok sc_leaf_text (fun vs H Q E h => ?_) (fun cdv A outer s H vs Q E hr h => ?_)
  · obtain ⟨p, e, rfl, _⟩ := h
    rfl
  · obtain ⟨p, e, rfl, he, ok, hl, q⟩ := h
    refine ⟨_, (pss_cons (ps_set (i := 1) sc_leaf_text.nd rfl (.inl rfl) (pe_ix (ix_tupK K) (pv 0) pe_int (fun _ _ => rfl)))
      (pss_consG (psg_if (ptg_cmp op_eq (pv 1) peg_str (nomark _)) (pss_one (ps_ret (pe_callTy call_str_int (by rfl) M.str (by decide +kernel) (pa_cons (pe_ix (ix_tupK K) (pv 0) pe_int (fun _ _ => rfl)) pa_nil)))) pss_nil) (psst_cons (pst_if (pt_cmpR op_eq (pv 1) pe_str (nomark _)) (psst_cons (pst_set (i := 2) sc_leaf_text.nd rfl (.inl rfl) (pet_rpl (pe_ix (ix_tupK K) (pv 0) pe_int (fun _ _ => rfl)) (by decide))) (PSsT.of (pss_one (ps_ret (pe_joined (.cons pe_str (.cons (pe_fmt (pv 2)) (.cons pe_str .nil)))))))) (PSsT.of pss_nil)) (PSsT.of (pss_cons (ps_if (pt_cmpR op_eq (pv 1) pe_str (nomark _)) (pss_one (ps_ret (pe_ifExp (pt_cmpR op_eq (pe_ix (ix_tupK K) (pv 0) pe_int (fun _ _ => rfl)) pe_int (nomark _)) pe_str pe_str))) pss_nil)
      (pss_cons (ps_if (pt_cmpR op_eq (pv 1) pe_str (nomark _)) (pss_one (ps_ret pe_str)) pss_nil)
      (pss_one (ps_ret (pe_join pe_str (pe_slice sl_tup (pv 0) (po_some pe_int) po_none)))))))))), ?_⟩
    cases e with
    | num n =>
      obtain ⟨a, xs, rfl, hs, ha⟩ := dp_tup he
      obtain ⟨v, rfl, hv⟩ := dp_two ha
      cases hv
      refine ⟨_, rfl, a, _, _, _, rfl, rfl, hs, atI_nat (j := 0) rfl, ?_⟩
      refine ⟨_, rfl, rfl, _, rfl, iteT ?_⟩
      refine ⟨_, rfl, a, _, _, _, rfl, rfl, hs, atI_nat (j := 1) rfl, _, rfl, num_log ok, ?_⟩
      rw [num_S]
      exact q H (Same.refl H)
    | text l =>
      obtain ⟨a, xs, rfl, hs, ha⟩ := dp_tup he
      obtain ⟨v, rfl, hv⟩ := dp_two ha
      cases hv
      have hd := dbl_len l
      have ol : l.length ≤ 100 := ok.1
      refine ⟨_, rfl, a, _, _, _, rfl, rfl, hs, atI_nat (j := 0) rfl, ?_⟩
      refine ⟨_, rfl, rfl, _, rfl, iteF ?_⟩
      refine ⟨_, rfl, rfl, _, rfl, iteT ?_⟩
      refine ⟨_, rfl, a, _, _, _, rfl, rfl, hs, atI_nat (j := 1) rfl, ⟨l.toArray⟩, rfl, by rw [S_len']; show l.length + (l.length + 1) * 2 ≤ 16777216; omega, ?_⟩
      rw [show Txt.replace ⟨l.toArray⟩ (Str.ofString "'") (Str.ofString "''") = ⟨(dbl l).toArray⟩ by
        have := rpl_S l [39] [39, 39] (by decide) (by decide)
        rw [dbl_rpl l []] at this
        exact this]
      refine ⟨_, rfl, by decide, ?_⟩
      refine ⟨_, rfl, .inl ⟨_, rfl, by rw [S_len']; exact Nat.le_trans (m := 10000) (by omega) (by decide), _, rfl, by
        rw [show Str.empty ++ Str.ofString "'" ++ (⟨(dbl l).toArray⟩ : Str) = ⟨(39 :: dbl l).toArray⟩ from SX.S_cat [39] (dbl l), S_len', List.length_cons]
        exact Nat.le_trans (m := 10000) (by omega) (by decide), ?_⟩⟩
      rw [show Str.empty ++ Str.ofString "'" ++ (⟨(dbl l).toArray⟩ : Str) = ⟨(39 :: dbl l).toArray⟩ from SX.S_cat [39] (dbl l)]
      refine ⟨_, rfl, by
        rw [show (⟨(39 :: dbl l).toArray⟩ : Str) ++ Str.ofString "'" = ⟨(39 :: dbl l ++ [39]).toArray⟩ from SX.S_cat _ _, S_len', List.length_append, List.length_cons]
        exact Nat.le_trans (m := 10000) (by show _ + 1 ≤ 10000; omega) (by decide), ?_⟩
      rw [show (⟨(39 :: dbl l).toArray⟩ : Str) ++ Str.ofString "'" = ⟨(39 :: dbl l ++ [39]).toArray⟩ from SX.S_cat _ _]
      exact q H (Same.refl H)
    | truth b =>
      obtain ⟨a, xs, rfl, hs, ha⟩ := dp_tup he
      obtain ⟨v, rfl, hv⟩ := dp_two ha
      cases hv
      refine ⟨_, rfl, a, _, _, _, rfl, rfl, hs, atI_nat (j := 0) rfl, ?_⟩
      refine ⟨_, rfl, rfl, _, rfl, iteF ?_⟩
      refine ⟨_, rfl, rfl, _, rfl, iteF ?_⟩
      refine ⟨_, rfl, rfl, _, rfl, iteT ?_⟩
      refine ⟨_, rfl, a, _, _, _, rfl, rfl, hs, atI_nat (j := 1) rfl, rfl, _, rfl, ?_⟩
      cases b
      · exact iteF (q H (Same.refl H))
      · exact iteT (q H (Same.refl H))
    | null =>
      obtain ⟨a, xs, rfl, hs, ha⟩ := dp_tup he
      cases ha with
      | cons h1 h2 =>
        cases h1
        cases h2
        refine ⟨_, rfl, a, _, _, _, rfl, rfl, hs, atI_nat (j := 0) rfl, ?_⟩
        refine ⟨_, rfl, rfl, _, rfl, iteF ?_⟩
        refine ⟨_, rfl, rfl, _, rfl, iteF ?_⟩
        refine ⟨_, rfl, rfl, _, rfl, iteF ?_⟩
        refine ⟨_, rfl, rfl, _, rfl, iteT ?_⟩
        exact q H (Same.refl H)
    | name l =>
      obtain ⟨a, xs, rfl, hs, ha⟩ := dp_tup he
      obtain ⟨v, rfl, hv⟩ := dp_two ha
      cases hv
      have ol : l.length ≤ 21 := ok
      refine ⟨_, rfl, a, _, _, _, rfl, rfl, hs, atI_nat (j := 0) rfl, ?_⟩
      refine ⟨_, rfl, rfl, _, rfl, iteF ?_⟩
      refine ⟨_, rfl, rfl, _, rfl, iteF ?_⟩
      refine ⟨_, rfl, rfl, _, rfl, iteF ?_⟩
      refine ⟨_, rfl, rfl, _, rfl, iteF ?_⟩
      refine ⟨⟨_, rfl⟩, _, rfl, _, rfl, a, _, rfl, hs, by show ¬ (1 = 0 ∧ _); exact fun z => absurd z.1 (by decide), fun D nD => ?_⟩
      refine ⟨_, D, [⟨l.toArray⟩], rfl, rfl, .inr (.of upd_same), ?_, ?_⟩
      · show (⟨l.toArray⟩ : Str).length + 0 + 1 * 1 ≤ 16777216
        rw [S_len']
        omega
      · have := q _ (same_upd nD (o := .tup [.str ⟨l.toArray⟩]))
        have e : Txt.join (Str.ofString ".") [⟨l.toArray⟩] = ⟨l.toArray⟩ := SX.join_S [46] [l]
        rw [e]
        exact this
    | field l m =>
      obtain ⟨a, xs, rfl, hs, ha⟩ := dp_tup he
      obtain ⟨v, u, rfl, hv, hu⟩ := dp_three ha
      cases hv
      cases hu
      have ol : l.length ≤ 21 := ok.1
      have om : m.length ≤ 21 := ok.2
      refine ⟨_, rfl, a, _, _, _, rfl, rfl, hs, atI_nat (j := 0) rfl, ?_⟩
      refine ⟨_, rfl, rfl, _, rfl, iteF ?_⟩
      refine ⟨_, rfl, rfl, _, rfl, iteF ?_⟩
      refine ⟨_, rfl, rfl, _, rfl, iteF ?_⟩
      refine ⟨_, rfl, rfl, _, rfl, iteF ?_⟩
      refine ⟨⟨_, rfl⟩, _, rfl, _, rfl, a, _, rfl, hs, by show ¬ (1 = 0 ∧ _); exact fun z => absurd z.1 (by decide), fun D nD => ?_⟩
      refine ⟨_, D, [⟨l.toArray⟩, ⟨m.toArray⟩], rfl, rfl, .inr (.of upd_same), ?_, ?_⟩
      · show (⟨l.toArray⟩ : Str).length + ((⟨m.toArray⟩ : Str).length + 0) + 2 * 1 ≤ 16777216
        rw [S_len', S_len']
        omega
      · have := q _ (same_upd nD (o := .tup [.str ⟨l.toArray⟩, .str ⟨m.toArray⟩]))
        have e : Txt.join (Str.ofString ".") [⟨l.toArray⟩, ⟨m.toArray⟩] = ⟨(l ++ 46 :: m).toArray⟩ := SX.join_S [46] [l, m]
        rw [e]
        exact this
    | _ => cases hl
end
/-! f-strings, step by step -/
theorem js_f {ts : List TE} {σ : L2.St} {H : Hp} {Q : Str → Hp → Prop} {L l : List Nat} {R : Prop} (hl : (L ++ l).length ≤ 5000000) (k : tJs ts ⟨(L ++ l).toArray⟩ σ H Q) :
    (∃ y : Str, V.str ⟨l.toArray⟩ = .str y ∧ y.length ≤ sizeLine ∧ ∃ y' : Str, V.str y = .str y' ∧ ((⟨L.toArray⟩ : Str) ++ y').length ≤ sizeLine ∧ tJs ts ((⟨L.toArray⟩ : Str) ++ y') σ H Q) ∨ R := by
  have e : (⟨L.toArray⟩ : Str) ++ ⟨l.toArray⟩ = ⟨(L ++ l).toArray⟩ := SX.S_cat L l
  have hs : (5000000 : Nat) ≤ sizeLine := by decide
  refine .inl ⟨_, rfl, ?_, _, rfl, ?_, ?_⟩
  · rw [S_len']
    rw [List.length_append] at hl
    omega
  · rw [e, S_len']
    exact Nat.le_trans hl hs
  · rw [e]
    exact k
theorem js_c {ts : List TE} {σ : L2.St} {H : Hp} {Q : Str → Hp → Prop} {L : List Nat} {x : Str} (l : List Nat) (hx : x = ⟨l.toArray⟩) (hl : (L ++ l).length ≤ 5000000) (k : tJs ts ⟨(L ++ l).toArray⟩ σ H Q) : tJs (tC (.str x) :: ts) ⟨L.toArray⟩ σ H Q := by
  subst hx
  have e : (⟨L.toArray⟩ : Str) ++ ⟨l.toArray⟩ = ⟨(L ++ l).toArray⟩ := SX.S_cat L l
  have hs : (5000000 : Nat) ≤ sizeLine := by decide
  refine ⟨_, rfl, ?_, ?_⟩
  · rw [e, S_len']
    exact Nat.le_trans hl hs
  · rw [e]
    exact k
/-! calls of functions -/
def Ex.isf : Ex → Bool
  | .f1 _ _ => true | .f2 _ _ _ => true | .f3 _ _ _ => true | _ => false
def Ex.fargs : Ex → List Ex
  | .f1 _ a => [a] | .f2 _ a b => [a, b] | .f3 a b c => [a, b, c] | _ => []
theorem fn_d {e : Ex} (h : e.isf = true) : e.d = .tuple (.str e.wd :: e.fargs.map Ex.d) := by cases e <;> first | rfl | cases h
theorem fn_pr {e : Ex} (h : e.isf = true) : e.pr = e.wd.cps.toList ++ 40 :: (TL.joinL [44, 32] (e.fargs.map Ex.pr) ++ [41]) := by
  cases e with
  | f1 m a =>
    rfl
  | f2 m a b =>
    show codes (f2s m) ++ 40 :: (a.pr ++ 44 :: 32 :: (b.pr ++ [41])) = codes (f2s m) ++ 40 :: ((a.pr ++ ([44, 32] ++ b.pr)) ++ [41])
    simp
  | f3 a b c =>
    show codes "if" ++ 40 :: (a.pr ++ 44 :: 32 :: (b.pr ++ 44 :: 32 :: (c.pr ++ [41]))) = codes "if" ++ 40 :: ((a.pr ++ ([44, 32] ++ (b.pr ++ ([44, 32] ++ c.pr)))) ++ [41])
    simp
  | _ => cases h
theorem fn_all {e : Ex} (h : e.isf = true) (ok : e.ok) : ∀ x ∈ e.fargs, x.ok ∧ x.ht < e.ht := by
  cases e with
  | f1 m a =>
    intro x hx
    rw [List.mem_singleton.mp hx]
    exact ⟨ok, Nat.lt_succ_self _⟩
  | f2 m a b =>
    intro x hx
    rcases List.mem_cons.mp hx with rfl | hx
    · exact ⟨ok.1, by show x.ht < max x.ht b.ht + 1; omega⟩
    · rw [List.mem_singleton.mp hx]
      exact ⟨ok.2, by show b.ht < max a.ht b.ht + 1; omega⟩
  | f3 a b c =>
    intro x hx
    rcases List.mem_cons.mp hx with rfl | hx
    · exact ⟨ok.1, by show x.ht < max x.ht (max b.ht c.ht) + 1; omega⟩
    · rcases List.mem_cons.mp hx with rfl | hx
      · exact ⟨ok.2.1, by show x.ht < max a.ht (max x.ht c.ht) + 1; omega⟩
      · rw [List.mem_singleton.mp hx]
        exact ⟨ok.2.2, by show c.ht < max a.ht (max b.ht c.ht) + 1; omega⟩
  | _ => cases h
theorem fn_few {e : Ex} (h : e.isf = true) : 1 ≤ e.fargs.length ∧ e.fargs.length ≤ 3 := by
  cases e with
  | f1 m a => exact ⟨Nat.le_refl 1, (by decide : 1 ≤ 3)⟩
  | f2 m a b => exact ⟨(by decide : 1 ≤ 2), (by decide : 2 ≤ 3)⟩
  | f3 a b c => exact ⟨(by decide : 1 ≤ 3), (by decide : 3 ≤ 3)⟩
  | _ => cases h
theorem fn_wd {e : Ex} (h : e.isf = true) : e.wd.length ≤ 8 ∧ (e.wd = "missing" ∨ e.wd = "length" ∨ e.wd = "starts" ∨ e.wd = "coalesce" ∨ e.wd = "if") := by
  cases e with
  | f1 m a => cases m; exact ⟨(by decide : (Str.ofString "length").length ≤ 8), .inr (.inl rfl)⟩; exact ⟨(by decide : (Str.ofString "missing").length ≤ 8), .inl rfl⟩
  | f2 m a b => cases m; exact ⟨(by decide : (Str.ofString "coalesce").length ≤ 8), .inr (.inr (.inr (.inl rfl)))⟩; exact ⟨(by decide : (Str.ofString "starts").length ≤ 8), .inr (.inr (.inl rfl))⟩
  | f3 a b c => exact ⟨(by decide : (Str.ofString "if").length ≤ 8), .inr (.inr (.inr (.inr rfl)))⟩
  | _ => cases h
theorem sum_pr : ∀ es : List Ex, (∀ x ∈ es, x.ok ∧ x.ht ≤ 8) → ((es.map fun e => (⟨e.pr.toArray⟩ : Str)).map (·.length)).sum ≤ es.length * 1500000
  | [], _ => Nat.le_refl _
  | e :: es, h => by
    have h1 := h e (List.mem_cons_self ..)
    have := pr_le h1.1 h1.2
    have := sum_pr es fun x hx => h x (List.mem_cons_of_mem _ hx)
    rw [List.map_cons, List.map_cons, List.sum_cons, S_len', List.length_cons]
    omega
theorem join_pr (es : List Ex) : Txt.join (Str.ofString ", ") (es.map fun e => (⟨e.pr.toArray⟩ : Str)) = ⟨(TL.joinL [44, 32] (es.map Ex.pr)).toArray⟩ := by
  have := SX.join_S [44, 32] (es.map Ex.pr)
  rw [List.map_map] at this
  exact this
theorem no_hit {e : Ex} (hb : ∀ o a b, e ≠ .bin o a b) {K : PySem.W.Frag} {w : World} {mg : Str → Option Value} {ap af : Addr} {es : Array DictEntry} {n : Nat} (G : Gl K w mg ap af es n) : PySem.W.nsIn K ap e.wd = some none := by
  cases e with
  | bin o x y => exact absurd rfl (hb o x y)
  | num n => exact G.miss "number" (by decide)
  | text l => exact G.miss "text" (by decide)
  | truth b => exact G.miss "truth" (by decide)
  | null => exact G.miss "null" (by decide)
  | name l => exact G.miss "name" (by decide)
  | field l m => exact G.miss "field" (by decide)
  | neg a => exact G.miss "negate" (by decide)
  | nt a => exact G.miss "not" (by decide)
  | f1 m a => cases m; exact G.miss "length" (by decide); exact G.miss "missing" (by decide)
  | f2 m a b => cases m; exact G.miss "coalesce" (by decide); exact G.miss "starts" (by decide)
  | f3 a b c => exact G.miss "if" (by decide)
section
variable {P : Program} {w : World} {K : PySem.W.Frag} {mg : Str → Option Value} {base : Heap}
theorem not_f (x : String) (h : inV (.str (Str.ofString x)) [.str "missing", .str "length", .str "starts", .str "coalesce", .str "if"] = false) : inV (.str (Str.ofString x)) [.str "missing", .str "length", .str "starts", .str "coalesce", .str "if"] = false := h
theorem ok_pr {f : Addr} {fd : FuncData} {ap af : Addr} {es : Array DictEntry} {m : Nat} (n : Nat) (F : Fun K "print_expression" "print_expression" s_print_expression f fd) (M : Mg mg) (G : Gl K w mg ap af es m)
    (c_print_expression : Cl P w K mg base (2 * n + 2) "print_expression" (sp_pr K n)) (c_inner_text : Cl P w K mg base (2 * n + 3) "inner_text" (sp_in K n)) (c_leaf_text : Cl P w K mg base 1 "leaf_text" (sp_leaf K)) : FnOk P w K mg base CX0 (2 * n + 4) f fd ["expression"] (sp_pr K (n + 1)) := by
  refine F.ok sc_print_expression (fun vs H Q E h => ?_) (fun cdv A outer s H vs Q E hr h => ?_)
  · obtain ⟨p, e, rfl, _⟩ := h
    rfl
  · obtain ⟨p, e, rfl, he, ok, hn, h8, q⟩ := h
    have hlen := pr_le ok h8
    refine ⟨_, (pss_cons (ps_set (i := 1) sc_print_expression.nd rfl (.inl rfl) (pe_ix (ix_tupK K) (pv 0) pe_int (fun _ _ => rfl)))
      (pss_cons (ps_if (pt_cmpR (op_in_kd G.OPERATORS_D) (pv 1) (C8.pe_gc (by rfl) G.OPERATORS) (by rfl)) (pss_cons (ps_asg (pe_ix ix_kdict (C8.pe_gc (by rfl) G.OPERATORS) (pv 1) (fun _ _ => rfl)) (pg_tup (by rfl) (pgs_cons (pg_name (i := 2) sc_print_expression.nd rfl (.inl rfl)) (pgs_cons (pg_name (i := 3) sc_print_expression.nd rfl (.inl rfl)) (pgs_cons (pg_name (i := 4) sc_print_expression.nd rfl (.inl rfl)) pgs_nil)))))
      (pss_one (ps_ret (pe_joined (.cons (pe_fmt (pe_u c_inner_text hr (by first | decide | omega) (by rfl) (pa_cons (pe_ix (ix_tupK K) (pv 0) pe_int (fun _ _ => rfl)) (pa_cons (pv 3) pa_nil)))) (.cons pe_str (.cons (pe_fmt (pv 1)) (.cons pe_str (.cons (pe_fmt (pe_u c_inner_text hr (by first | decide | omega) (by rfl) (pa_cons (pe_ix (ix_tupK K) (pv 0) pe_int (fun _ _ => rfl)) (pa_cons (pv 4) pa_nil)))) .nil))))))))) pss_nil)
      (pss_cons (ps_if (pt_cmpR op_eq (pv 1) pe_str (nomark _)) (pss_one (ps_ret (pe_joined (.cons pe_str (.cons (pe_fmt (pe_u c_inner_text hr (by first | decide | omega) (by rfl) (pa_cons (pe_ix (ix_tupK K) (pv 0) pe_int (fun _ _ => rfl)) (pa_cons (C8.pe_gc (by rfl) G.NOT) pa_nil)))) .nil))))) pss_nil)
      (pss_cons (ps_if (pt_cmpR op_eq (pv 1) pe_str (nomark _)) (pss_one (ps_ret (pe_joined (.cons pe_str (.cons (pe_fmt (pe_u c_inner_text hr (by first | decide | omega) (by rfl) (pa_cons (pe_ix (ix_tupK K) (pv 0) pe_int (fun _ _ => rfl)) (pa_cons (C8.pe_gc (by rfl) G.CLOSEST) pa_nil)))) .nil))))) pss_nil)
      (pss_cons (ps_if (pt_cmpR (inK K) (pv 1) (C8.pe_gc (by rfl) G.FUNCTIONS) (by rfl)) (pss_cons (ps_set (i := 5) sc_print_expression.nd rfl (.inl rfl) (pe_join pe_str (pe_lc (own := [("part", 6)]) (g := gName 6) (tt := tYes) rfl sc_print_expression.nd (pi_tup (pe_slice sl_tup (pv 0) (po_some pe_int) po_none)) (blkOk_by (N := N_print_expression) (sc := defScope s_print_expression) (by decide +kernel)) (fun _ _ _ _ _ => (pg_name (i := 6) sc_print_expression.nd rfl (.inl rfl))) (fun _ _ _ _ _ => pts_nil) (fun _ _ _ _ _ => (pe_u c_print_expression hr (by first | decide | omega) (by rfl) (pa_cons (pv 6) pa_nil))))))
      (pss_one (ps_ret (pe_joined (.cons (pe_fmt (pv 1)) (.cons pe_str (.cons (pe_fmt (pv 5)) (.cons pe_str .nil)))))))) pss_nil)
      (pss_one (ps_ret (pe_u c_leaf_text hr (by first | decide | omega) (by rfl) (pa_cons (pv 0) pa_nil))))))))), ?_⟩
    by_cases hb : ∀ o a b, e ≠ .bin o a b
    · have hm := no_hit hb G
      by_cases hf : e.isf = true
      · rw [fn_d hf] at he
        obtain ⟨a, xs, rfl, hs, ha⟩ := dp_tup he
        obtain ⟨vs, rfl, h2⟩ := dp_cons ha
        obtain ⟨few1, few3⟩ := fn_few hf
        have hall := fn_all hf ok
        obtain ⟨wl, ww⟩ := fn_wd hf
        have w1 : decide (V.str e.wd = V.str "not") = false := by rw [wd_not]; cases e <;> first | rfl | cases hf
        have w2 : decide (V.str e.wd = V.str "negate") = false := by rw [wd_neg]; cases e <;> first | rfl | cases hf
        refine ⟨_, rfl, a, _, _, _, rfl, rfl, hs, atI_nat (j := 0) rfl, ?_⟩
        refine ⟨_, rfl, _, _, rfl, rfl, hm, _, rfl, iteF ?_⟩
        refine ⟨_, rfl, rfl, _, rfl, ?_⟩
        rw [w1]
        refine iteF ⟨_, rfl, rfl, _, rfl, ?_⟩
        rw [w2]
        refine iteF ?_
        have hin : inV (.str e.wd) [.str "missing", .str "length", .str "starts", .str "coalesce", .str "if"] = true := by
          rcases ww with z | z | z | z | z <;> rw [z] <;> rfl
        refine ⟨_, rfl, af, _, rfl, .inr (G.fnT H), rfl, rfl, _, rfl, ?_⟩
        rw [if_neg Bool.false_ne_true, hin]
        refine iteT ?_
        refine ⟨⟨_, rfl⟩, _, rfl, _, rfl, a, _, rfl, hs, by show ¬ (1 = 0 ∧ _); exact fun z => absurd z.1 (by decide), fun D1 nD1 => ?_⟩
        have hvs : vs.length = e.fargs.length := by rw [DpAll.len h2, List.length_map]
        have hcut : cutV (V.str e.wd :: vs) (some 1) none = vs := by
          show ((V.str e.wd :: vs).drop 1).take (vs.length + 1 - 1) = vs
          simp
        rw [hcut]
        have s1 := same_upd nD1 (o := .tup vs)
        have hT : SqT K (upd H D1 (.tup vs)) D1 vs := .inl (.inl upd_same)
        refine ⟨D1, rfl, ⟨_, hT⟩, fun D nD => ?_⟩
        refine lc_tup (K := K) (a := D1) (xs := vs) (fun i Hi => Same (upd H D1 (.tup vs)) Hi ∧ Hi D = some (.lst (((e.fargs.take i).map fun e => (⟨e.pr.toArray⟩ : Str)).map V.str))) ⟨same_upd nD, upd_same⟩ (fun i Hi _ hp => SqT.ext hp.1 hT) (fun i x Hi hx hp => ?_) (fun Hn hp => ?_)
        · obtain ⟨si, eD⟩ := hp
          have hi : i < vs.length := (List.getElem?_eq_some_iff.mp hx).1
          have hie : i < e.fargs.length := by omega
          obtain ⟨x', hx', dx⟩ := DpAll.get (i := i) (d := (e.fargs[i]).d) h2 (by rw [List.getElem?_map, List.getElem?_eq_getElem hie]; rfl)
          obtain rfl : x = x' := Option.some.inj (hx.symm.trans hx')
          obtain ⟨xok, xht⟩ := hall _ (List.getElem_mem hie)
          refine ⟨rfl, ?_⟩
          refine ⟨_, rfl, x, e.fargs[i], rfl, Dp.ext (s1.trans si) _ _ dx, xok, by omega, by omega, fun H' s' => ?_⟩
          refine ⟨_, s' _ _ eD, ?_, ?_, ?_⟩
          · rw [List.length_map, List.length_map, List.length_take]
            exact Nat.lt_of_lt_of_le (m := 1001) (by omega) (by decide)
          · intro b o z
            have nb : b ≠ D := ne_of_none z nD
            rw [upd_ne nb]
            exact s' _ _ (si _ _ z)
          · rw [upd_same, List.take_add_one, List.getElem?_eq_getElem hie, List.map_append, List.map_append]
            rfl
        · obtain ⟨sn, eD⟩ := hp
          rw [hvs, List.take_length] at eD
          have hsum := sum_pr e.fargs fun x hx => ⟨(hall x hx).1, by have := (hall x hx).2; omega⟩
          refine ⟨_, D, _, rfl, rfl, .inl (.of eD), ?_, ?_⟩
          · rw [List.length_map]
            show _ + e.fargs.length * 2 ≤ 16777216
            omega
          · rw [join_pr]
            have hp := fn_pr hf
            have hl := congrArg List.length hp
            rw [List.length_append, List.length_cons, List.length_append, List.length_singleton] at hl
            have hw : (⟨e.wd.cps.toList.toArray⟩ : Str) = e.wd := SX.S_tl e.wd
            have hwl : e.wd.cps.toList.length = e.wd.length := Array.length_toList
            refine ⟨_, rfl, ?_⟩
            rw [← hw]
            refine js_f (L := []) (by rw [List.nil_append]; omega) ?_
            refine js_c (L := [] ++ e.wd.cps.toList) [40] rfl (by rw [List.length_append, List.nil_append]; show _ + 1 ≤ _; omega) ?_
            refine ⟨_, rfl, js_f (L := [] ++ e.wd.cps.toList ++ [40]) (by rw [List.length_append, List.length_append, List.nil_append]; show _ + 1 + _ ≤ _; omega) ?_⟩
            refine js_c (L := [] ++ e.wd.cps.toList ++ [40] ++ _) [41] rfl (by rw [List.length_append, List.length_append, List.length_append, List.nil_append]; show _ + 1 + _ + 1 ≤ _; omega) ?_
            have fin := q Hn ((s1.trans sn))
            rw [hp] at fin
            have he2 : [] ++ e.wd.cps.toList ++ [40] ++ TL.joinL [44, 32] (e.fargs.map Ex.pr) ++ [41] = e.wd.cps.toList ++ 40 :: (TL.joinL [44, 32] (e.fargs.map Ex.pr) ++ [41]) := by simp
            rw [← he2] at fin
            exact fin
      · by_cases hl : e.isl = true
        · have w1 : decide (V.str e.wd = V.str "not") = false := by rw [wd_not]; cases e <;> first | rfl | cases hl
          have w2 : decide (V.str e.wd = V.str "negate") = false := by rw [wd_neg]; cases e <;> first | rfl | cases hl
          have w3 : inV (.str e.wd) [.str "missing", .str "length", .str "starts", .str "coalesce", .str "if"] = false := by
            cases e with
            | num n => exact not_f "number" (by decide +kernel)
            | text n => exact not_f "text" (by decide +kernel)
            | truth n => exact not_f "truth" (by decide +kernel)
            | null => exact not_f "null" (by decide +kernel)
            | name n => exact not_f "name" (by decide +kernel)
            | field n m => exact not_f "field" (by decide +kernel)
            | _ => cases hl
          obtain ⟨a, ys, rfl, hs⟩ := ex_word he
          refine ⟨_, rfl, a, _, _, _, rfl, rfl, hs, atI_nat (j := 0) rfl, ?_⟩
          refine ⟨_, rfl, _, _, rfl, rfl, hm, _, rfl, iteF ?_⟩
          refine ⟨_, rfl, rfl, _, rfl, ?_⟩
          rw [w1]
          refine iteF ⟨_, rfl, rfl, _, rfl, ?_⟩
          rw [w2]
          refine iteF ⟨_, rfl, af, _, rfl, .inr (G.fnT H), rfl, rfl, _, rfl, ?_⟩
          rw [if_neg Bool.false_ne_true, w3]
          refine iteF ?_
          exact ⟨_, rfl, _, e, rfl, he, ok, hl, q⟩
        cases e with
        | bin o x y => exact absurd rfl (hb o x y)
        | f1 m a => exact absurd rfl hf
        | f2 m a b => exact absurd rfl hf
        | f3 a b c => exact absurd rfl hf
        | num n => exact absurd rfl hl
        | text n => exact absurd rfl hl
        | truth n => exact absurd rfl hl
        | null => exact absurd rfl hl
        | name n => exact absurd rfl hl
        | field n m => exact absurd rfl hl
        | nt x =>
          obtain ⟨a, xs, rfl, hs, ha⟩ := dp_tup he
          obtain ⟨v, rfl, hv⟩ := dp_two ha
          have hx : x.ht + 1 < n + 1 := hn
          have hx8 : x.ht + 1 ≤ 8 := h8
          have pl := par_len (decide (x.lev < 3)) x.pr
          have xl := pr_le (e := x) ok (by omega)
          refine ⟨_, rfl, a, _, _, _, rfl, rfl, hs, atI_nat (j := 0) rfl, ?_⟩
          refine ⟨_, rfl, _, _, rfl, rfl, hm, _, rfl, iteF ?_⟩
          refine ⟨_, rfl, rfl, _, rfl, iteT ?_⟩
          refine js_c (L := []) (codes "not ") (codes_S _) (by decide) ?_
          refine ⟨_, rfl, a, _, _, _, rfl, rfl, hs, atI_nat (j := 1) rfl, v, x, 3, rfl, hv, ok, by omega, by omega, by decide, fun H' s' => ?_⟩
          refine js_f (L := [] ++ codes "not ") (by rw [List.nil_append, List.length_append, show (codes "not ").length = 4 by decide]; omega) ?_
          exact q H' s'
        | neg x =>
          obtain ⟨a, xs, rfl, hs, ha⟩ := dp_tup he
          obtain ⟨v, rfl, hv⟩ := dp_two ha
          have hx : x.ht + 1 < n + 1 := hn
          have hx8 : x.ht + 1 ≤ 8 := h8
          have pl := par_len (decide (x.lev < 7)) x.pr
          have xl := pr_le (e := x) ok (by omega)
          refine ⟨_, rfl, a, _, _, _, rfl, rfl, hs, atI_nat (j := 0) rfl, ?_⟩
          refine ⟨_, rfl, _, _, rfl, rfl, hm, _, rfl, iteF ?_⟩
          refine ⟨_, rfl, rfl, _, rfl, iteF ?_⟩
          refine ⟨_, rfl, rfl, _, rfl, iteT ?_⟩
          refine js_c (L := []) [45] rfl (by decide) ?_
          refine ⟨_, rfl, a, _, _, _, rfl, rfl, hs, atI_nat (j := 1) rfl, v, x, 7, rfl, hv, ok, by omega, by omega, by decide, fun H' s' => ?_⟩
          refine js_f (L := [] ++ [45]) (by rw [List.nil_append, List.length_append]; show 1 + _ ≤ _; omega) ?_
          exact q H' s'
    · obtain ⟨o, x, y, rfl⟩ : ∃ o x y, e = .bin o x y := by
        cases e with
        | bin o x y => exact ⟨o, x, y, rfl⟩
        | _ => exact absurd (fun _ _ _ z => by cases z) hb
      obtain ⟨a, xs, rfl, hs, ha⟩ := dp_tup he
      obtain ⟨v, u, rfl, hv, hu⟩ := dp_three ha
      obtain ⟨t, ht, hq⟩ := G.hit o
      have hx : max x.ht y.ht + 1 < n + 1 := hn
      have hx8 : max x.ht y.ht + 1 ≤ 8 := h8
      have pl1 := par_len (decide (x.lev < o.lf)) x.pr
      have pl2 := par_len (decide (y.lev < o.rt)) y.pr
      have xl := pr_le (e := x) ok.1 (by omega)
      have yl := pr_le (e := y) ok.2 (by omega)
      have ol := o.sl
      refine ⟨_, rfl, a, _, _, _, rfl, rfl, hs, atI_nat (j := 0) rfl, ?_⟩
      refine ⟨_, rfl, _, _, rfl, rfl, ht, _, rfl, iteT ?_⟩
      refine ⟨_, rfl, ap, _, .ref t, rfl, rfl, ⟨es, m, .ref t, G.OPERATORS_D.at_, G.OPERATORS_D.lit, ht, rfl⟩, t, _, rfl, hq _, rfl, _, _, rfl, _, _, rfl, _, _, rfl, rfl, ?_⟩
      refine ⟨_, rfl, a, _, _, _, rfl, rfl, hs, atI_nat (j := 1) rfl, _, rfl, v, x, o.lf, rfl, hv, ok.1, by omega, by omega, by cases o <;> decide, fun H1 s1 => ?_⟩
      refine js_f (L := []) (by rw [List.nil_append]; omega) ?_
      refine js_c (L := [] ++ _) [32] rfl (by rw [List.length_append, List.nil_append]; show _ + 1 ≤ _; omega) ?_
      have ow : o.w = ⟨(codes o.s).toArray⟩ := codes_S _
      refine ⟨_, rfl, ?_⟩
      rw [ow]
      refine js_f (L := [] ++ _ ++ [32]) (by simp only [List.length_append, List.nil_append, List.length_singleton]; omega) ?_
      refine js_c (L := [] ++ _ ++ [32] ++ _) [32] rfl (by simp only [List.length_append, List.nil_append, List.length_singleton]; omega) ?_
      refine ⟨_, rfl, a, _, _, _, rfl, rfl, SqT.ext s1 hs, atI_nat (j := 2) rfl, _, rfl, u, y, o.rt, rfl, Dp.ext s1 _ _ hu, ok.2, by omega, by omega, by cases o <;> decide, fun H2 s2 => ?_⟩
      refine js_f (L := [] ++ _ ++ [32] ++ _ ++ [32]) (by simp only [List.length_append, List.nil_append, List.length_singleton]; omega) ?_
      have fin := q H2 (s1.trans s2)
      have e2 : (Ex.bin o x y).pr = [] ++ par (decide (x.lev < o.lf)) x.pr ++ [32] ++ codes o.s ++ [32] ++ par (decide (y.lev < o.rt)) y.pr := by
        show par _ _ ++ 32 :: (codes o.s ++ 32 :: par _ _) = _
        simp
      rw [e2] at fin
      exact fin
theorem ok_in {f : Addr} {fd : FuncData} (n : Nat) (F : Fun K "inner_text" "inner_text" s_inner_text f fd) (M : Mg mg)
    (c_print_expression : Cl P w K mg base (2 * n + 2) "print_expression" (sp_pr K n)) (c_closeness : Cl P w K mg base 1 "closeness" (sp_close K)) : FnOk P w K mg base CX0 (2 * n + 3) f fd ["expression", "least"] (sp_in K n) := by
  refine F.ok sc_inner_text (fun vs H Q E h => ?_) (fun cdv A outer s H vs Q E hr h => ?_)
  · obtain ⟨p, e, k, rfl, _⟩ := h
    rfl
  · obtain ⟨p, e, k, rfl, he, ok, hn, h8, hk, q⟩ := h
    have hlen := pr_le ok h8
    refine ⟨_, (pss_cons (ps_set (i := 2) sc_inner_text.nd rfl (.inl rfl) (pe_u c_print_expression hr (by first | decide | omega) (by rfl) (pa_cons (pv 0) pa_nil)))
      (pss_cons (ps_if (pt_cmpR op_lt (pe_u c_closeness hr (by first | decide | omega) (by rfl) (pa_cons (pv 0) pa_nil)) (pv 1) (nomark _)) (pss_one (ps_ret (pe_joined (.cons pe_str (.cons (pe_fmt (pv 2)) (.cons pe_str .nil)))))) pss_nil)
      (pss_one (ps_ret (pv 2))))), ?_⟩
    refine ⟨_, rfl, p, e, rfl, he, ok, hn, h8, fun H1 s1 => ?_⟩
    refine ⟨_, rfl, p, e, rfl, Dp.ext s1 _ _ he, ?_⟩
    have fin := q H1 s1
    refine ⟨_, rfl, _, _, rfl, rfl, _, rfl, ite2 (fun z => ?_) (fun z => ?_)⟩
    · have z1 : ((min e.lev 7 : Nat) : Int) < ((k : Nat) : Int) := of_decide_eq_true z
      have z2 : decide (e.lev < k) = true := decide_eq_true (by omega)
      rw [z2] at fin
      refine js_c (L := []) [40] rfl (by decide) ?_
      refine ⟨_, rfl, js_f (L := [] ++ [40]) (by rw [List.length_append, List.nil_append]; show 1 + _ ≤ _; omega) ?_⟩
      refine js_c (L := [] ++ [40] ++ e.pr) [41] rfl (by simp only [List.length_append, List.nil_append, List.length_singleton]; omega) ?_
      exact fin
    · have z1 : ¬ ((min e.lev 7 : Nat) : Int) < ((k : Nat) : Int) := fun y => z (decide_eq_true y)
      have z2 : decide (e.lev < k) = false := decide_eq_false (by omega)
      rw [z2] at fin
      exact ⟨_, rfl, fin⟩
/-- print_expression and inner_text, by the height -/
theorem cl_pr {fp fi : Addr} {dp di : FuncData} {ap af : Addr} {es : Array DictEntry} {m : Nat} (FP : Fun K "print_expression" "print_expression" s_print_expression fp dp) (FI : Fun K "inner_text" "inner_text" s_inner_text fi di) (M : Mg mg) (G : Gl K w mg ap af es m)
    (gp : mg "print_expression" = some (.ref fp)) (bp : Binds K dp ["expression"] []) (gi : mg "inner_text" = some (.ref fi)) (bi : Binds K di ["expression", "least"] [])
    (c_leaf_text : Cl P w K mg base 1 "leaf_text" (sp_leaf K)) (c_closeness : Cl P w K mg base 1 "closeness" (sp_close K)) : ∀ n, Cl P w K mg base (2 * n + 2) "print_expression" (sp_pr K n)
  | 0 => FnOk.cl (P := P) (w := w) (base := base) (FP.ok sc_print_expression (fun vs H Q E h => by obtain ⟨p, e, rfl, _⟩ := h; rfl) (fun cdv A outer s H vs Q E hr h => by obtain ⟨p, e, rfl, he, ok, hn, _⟩ := h; omega)) FP gp bp
  | n + 1 => FnOk.cl (ok_pr n FP M G (cl_pr FP FI M G gp bp gi bi c_leaf_text c_closeness n) (FnOk.cl (ok_in n FI M (cl_pr FP FI M G gp bp gi bi c_leaf_text c_closeness n) c_closeness) FI gi bi) c_leaf_text) FP gp bp
end

/-! ### the law's names, texts and numbers -/
def LAWL : List Nat := (Str.ofString "abcdefghijklmnopqrstuvwxyzABCDEFGHIJKLMNOPQRSTUVWXYZ_").cps.toList
def RESs : List String := ["table", "step", "int", "text", "truth", "from", "as", "left", "semi", "anti", "join", "on", "where", "group", "with", "select", "union", "except", "intersect", "count", "distinct", "sum", "min", "max", "or", "and", "not", "div", "mod", "null", "true", "false", "length", "missing", "starts", "coalesce", "if"]
def RES : List Str := RESs.map Str.ofString
def NameOk (l : List Nat) : Prop := ∃ c r, l = c :: r ∧ c ∈ LET ∧ (∀ x ∈ r, x ∈ LET ++ DIG) ∧ l.length ≤ 20
def sp_res : Sp := fun vs H Q _ => vs = [] ∧ ∀ H' p, Same H H' → H p = none → H' p = some (.lst (RES.map V.str)) → Q (.ref p) H'
def sp_name : Sp := fun vs H Q _ => ∃ (d c : Addr), vs = [.ref d] ∧ Dr H d c ∧ ∀ H' l, Fd d H H' → Dr H' d c → NameOk l → Q (.str ⟨l.toArray⟩) H'
def sp_string (CHS : List Nat) : Sp := fun vs H Q _ => ∃ (d c : Addr), vs = [.ref d] ∧ Dr H d c ∧ ∀ H' (l : List Nat), Fd d H H' → Dr H' d c → l.length ≤ 100 → (∀ x ∈ l, x ∈ CHS) → Q (.str ⟨l.toArray⟩) H'
def sp_quoted : Sp := fun vs H Q _ => ∃ (l : List Nat), vs = [.str ⟨l.toArray⟩] ∧ l.length ≤ 1000 ∧ Q (.str ⟨(39 :: (dbl l ++ [39])).toArray⟩) H
def sp_number : Sp := fun vs H Q _ => ∃ (d c : Addr), vs = [.ref d] ∧ Dr H d c ∧ ∀ H' (n : Nat), Fd d H H' → Dr H' d c → n < 10 ^ 15 → Q (.int (n : Int)) H'
theorem LAWL_in : ∀ c ∈ LAWL, c ∈ LET := by decide +kernel
theorem LAWL_len : LAWL.length = 53 := by decide +kernel
theorem DIG_len : DIG.length = 10 := by decide +kernel
theorem LAWL_S : Str.ofString "abcdefghijklmnopqrstuvwxyzABCDEFGHIJKLMNOPQRSTUVWXYZ_" = ⟨LAWL.toArray⟩ := (SX.S_tl _).symm
theorem res_len : ∀ x ∈ RES, x.length ≤ 9 := by decide +kernel
theorem res_in {l : List Nat} (h : inV (.str ⟨l.toArray⟩) (RES.map V.str) = true) : l.length ≤ 9 := by
  unfold inV at h
  rw [List.any_map, List.any_eq_true] at h
  obtain ⟨x, hx, he⟩ := h
  have e : x = ⟨l.toArray⟩ := eq_of_beq (show (x == ⟨l.toArray⟩) = true from he)
  have := res_len x hx
  rw [e, S_len'] at this
  exact this
theorem res_flat : (RES.map V.str).all flatV = true := by
  rw [List.all_map]
  exact List.all_eq_true.mpr fun x _ => rfl
section
variable {P : Program} {w : World} {K : PySem.W.Frag} {mg : Str → Option Value} {base : Heap}
theorem ok_res {f : Addr} {fd : FuncData} (F : Fun K "_law_reserved" "_law_reserved" s__law_reserved f fd) : FnOk P w K mg base CX0 1 f fd [] sp_res := by
  refine F.ok sc__law_reserved (fun vs H Q E h => ?_) (fun cdv A outer s H vs Q E hr h => ?_)
  · obtain ⟨rfl, _⟩ := h
    rfl
  · obtain ⟨rfl, q⟩ := h
    refine ⟨_, (pss_cons (ps_set (i := 0) sc__law_reserved.nd rfl (.inl rfl) (pe_lst (pa_cons pe_str (pa_cons pe_str (pa_cons pe_str (pa_cons pe_str (pa_cons pe_str (pa_cons pe_str (pa_cons pe_str (pa_cons pe_str (pa_cons pe_str (pa_cons pe_str (pa_cons pe_str (pa_cons pe_str (pa_cons pe_str (pa_cons pe_str pa_nil))))))))))))))))
      (pss_cons (ps_set (i := 0) sc__law_reserved.nd rfl (.inl rfl) (pe_op op_cat (pv 0) (pe_lst (pa_cons pe_str (pa_cons pe_str (pa_cons pe_str (pa_cons pe_str (pa_cons pe_str (pa_cons pe_str (pa_cons pe_str (pa_cons pe_str (pa_cons pe_str (pa_cons pe_str (pa_cons pe_str pa_nil))))))))))))))
      (pss_one (ps_ret (pe_op op_cat (pv 0) (pe_lst (pa_cons pe_str (pa_cons pe_str (pa_cons pe_str (pa_cons pe_str (pa_cons pe_str (pa_cons pe_str (pa_cons pe_str (pa_cons pe_str (pa_cons pe_str (pa_cons pe_str (pa_cons pe_str (pa_cons pe_str pa_nil)))))))))))))))))), ?_⟩
    refine ⟨by show 14 ≤ sizeLine; decide, fun p1 n1 => ?_⟩
    have s1 := same_upd n1 (o := .lst ((RES.take 14).map V.str))
    have e1 : (upd H p1 (.lst ((RES.take 14).map V.str))) p1 = some (.lst ((RES.take 14).map V.str)) := upd_same
    refine ⟨_, rfl, by show 11 ≤ sizeLine; decide, fun p2 n2 => ?_⟩
    have s2 := same_upd n2 (o := .lst (((RES.drop 14).take 11).map V.str))
    refine ⟨p1, p2, _, _, rfl, rfl, s2 _ _ e1, upd_same, by show 14 + 11 ≤ sizeLine; decide, fun p3 n3 => ?_⟩
    have s3 := same_upd n3 (o := .lst ((RES.take 25).map V.str))
    refine ⟨_, rfl, by show 12 ≤ sizeLine; decide, fun p4 n4 => ?_⟩
    have s4 := same_upd n4 (o := .lst ((RES.drop 25).map V.str))
    refine ⟨p3, p4, _, _, rfl, rfl, s4 _ _ upd_same, upd_same, by show 25 + 12 ≤ sizeLine; decide, fun p5 n5 => ?_⟩
    have s5 := same_upd n5 (o := .lst (RES.map V.str))
    have sa := ((s1.trans s2).trans s3).trans s4
    exact q _ p5 (sa.trans s5) (sa.free n5) upd_same
theorem ok_name {f : Addr} {fd : FuncData} (F : Fun K "_law_name" "_law_name" s__law_name f fd) (M : Mg mg) (c__law_next : Cl P w K mg base 1 "_law_next" sp_next) (c__law_reserved : Cl P w K mg base 1 "_law_reserved" sp_res) : FnOk P w K mg base CX0 2 f fd ["draw"] sp_name := by
  refine F.ok sc__law_name (fun vs H Q E h => ?_) (fun cdv A outer s H vs Q E hr h => ?_)
  · obtain ⟨d, c, rfl, _⟩ := h
    rfl
  · obtain ⟨d, c, rfl, dr, q⟩ := h
    obtain ⟨t, ht, hq⟩ : ∃ t, PSs (cxOf CX0 P w K mg base N__law_name "_law_name" (defScope s__law_name) f cdv A outer s H E).nox ((defBody s__law_name).drop 3) t ∧ ∀ (H1 : Hp) (size : Int), Fd d H H1 → Dr H1 d c → 0 ≤ size → size ≤ 19 → t { nx := fun _ H' => Q .non H', rt := Q } [some (.ref d), some (.str "abcdefghijklmnopqrstuvwxyzABCDEFGHIJKLMNOPQRSTUVWXYZ_"), some (.int size), none, none] H1 := by
      refine ⟨_, (pss_cons (ps_set (i := 3) sc__law_name.nd rfl (.inl rfl) (pe_ix ix_str (pv 1) (pe_u c__law_next hr (by first | decide | omega) (by rfl) (pa_cons (pv 0) (pa_cons pe_int pa_nil))) (fun _ _ => rfl)))
      (pss_cons (ps_for PassesOwn.never rfl (pi_range1 (by rfl) M.range (pa_cons (pv 2) pa_nil)) (pg_name (i := 4) sc__law_name.nd rfl (.inl rfl)) (pss_one (ps_set (i := 3) sc__law_name.nd rfl (.inl rfl) (pe_op op_add_str (pv 3) (pe_ix ix_str (pe_op op_add_str (pv 1) pe_str) (pe_u c__law_next hr (by first | decide | omega) (by rfl) (pa_cons (pv 0) (pa_cons pe_int pa_nil))) (fun _ _ => rfl))))))
      (pss_cons (ps_if (pt_cmpR (inK K) (pv 3) (pe_u0 c__law_reserved hr (by first | decide | omega) (by rfl)) (by rfl)) (pss_one (ps_ret (pe_op op_add_str (pv 3) pe_str))) pss_nil)
      (pss_one (ps_ret (pv 3)))))), fun H1 size f1 dr1 z0 z1 => ?_⟩
      refine ⟨_, rfl, _, rfl, d, c, 53, rfl, dr1, by decide, by decide, fun H2 r f2 _ dr2 r0 r1 => ?_⟩
      obtain ⟨k, rfl⟩ := Int.eq_ofNat_of_zero_le r0
      have hk : k < LAWL.length := by rw [LAWL_len]; omega
      rw [LAWL_S]
      refine ⟨_, _, LAWL[k], rfl, rfl, by rw [S_len', LAWL_len]; decide, atI_nat (show LAWL[k]? = _ from List.getElem?_eq_getElem hk), ?_⟩
      -- one sign more, size times
      refine ⟨_, rfl, _, rfl, by omega, by omega, ?_⟩
      refine for_range (lo := 0) (n := size.toNat) (fun i σ Hi => Fd d H Hi ∧ Dr Hi d c ∧ ∃ (r : List Nat) (z : Option V), σ = [some (.ref d), some (.str ⟨LAWL.toArray⟩), some (.int size), some (.str ⟨(LAWL[k] :: r).toArray⟩), z] ∧ r.length = i ∧ ∀ x ∈ r, x ∈ LET ++ DIG) ⟨f1.trans f2, dr2, [], none, rfl, rfl, fun _ h => by cases h⟩ (fun i σ Hi hi hp => ?_) (fun σ Hn hp => ?_)
      · obtain ⟨fi, di, r, z, rfl, hr1, hr2⟩ := hp
        refine ⟨_, rfl, _, rfl, _, _, rfl, rfl, by rw [S_len', LAWL_len]; decide, ?_⟩
        rw [DIG_S, show (⟨LAWL.toArray⟩ : Str) ++ ⟨DIG.toArray⟩ = ⟨(LAWL ++ DIG).toArray⟩ from SX.S_cat LAWL DIG]
        refine ⟨_, rfl, d, c, 63, rfl, di, by decide, by decide, fun H3 r3 f3 _ dr3 r30 r31 => ?_⟩
        obtain ⟨k3, rfl⟩ := Int.eq_ofNat_of_zero_le r30
        have hk3 : k3 < (LAWL ++ DIG).length := by rw [List.length_append, LAWL_len, DIG_len]; omega
        refine ⟨_, _, (LAWL ++ DIG)[k3], rfl, rfl, by rw [S_len', List.length_append, LAWL_len, DIG_len]; decide, atI_nat (show (LAWL ++ DIG)[k3]? = _ from List.getElem?_eq_getElem hk3), ?_⟩
        refine ⟨_, _, rfl, rfl, ?_, ?_⟩
        · rw [S_len', List.length_cons, hr1]
          exact Nat.le_trans (m := 100) (by show i + 1 + 1 ≤ 100; omega) (by decide)
        · rw [show (⟨(LAWL[k] :: r).toArray⟩ : Str) ++ ⟨#[(LAWL ++ DIG)[k3]]⟩ = ⟨((LAWL[k] :: r) ++ [(LAWL ++ DIG)[k3]]).toArray⟩ from SX.S_cat _ _]
          refine ⟨fi.trans f3, dr3, r ++ [(LAWL ++ DIG)[k3]], _, rfl, by rw [List.length_append, hr1]; rfl, fun x hx => ?_⟩
          rcases List.mem_append.mp hx with hx | hx
          · exact hr2 x hx
          · rw [List.mem_singleton.mp hx]
            rcases List.mem_append.mp (List.getElem_mem hk3) with h | h
            · exact List.mem_append_left _ (LAWL_in _ h)
            · exact List.mem_append_right _ h
      · obtain ⟨fi, di, r, z, rfl, hr1, hr2⟩ := hp
        have hc : LAWL[k] ∈ LET := LAWL_in _ (List.getElem_mem hk)
        refine ⟨_, rfl, rfl, fun H3 p s3 np e3 => ?_⟩
        have di3 := di.ext s3
        have f3 : Fd d H H3 := fi.trans (Fd.of s3)
        refine ⟨p, _, rfl, .inl (.of e3), rfl, res_flat, _, rfl, ite2 (fun e => ?_) (fun e => ?_)⟩
        · have hl := res_in e
          refine ⟨_, rfl, _, _, rfl, rfl, by rw [S_len']; exact Nat.le_trans (m := 100) (by show _ + 1 ≤ 100; omega) (by decide), ?_⟩
          rw [show (⟨(LAWL[k] :: r).toArray⟩ : Str) ++ Str.ofString "_" = ⟨((LAWL[k] :: r) ++ [95]).toArray⟩ from SX.S_cat _ _]
          refine q H3 _ f3 di3 ⟨LAWL[k], r ++ [95], rfl, hc, fun x hx => ?_, ?_⟩
          · rcases List.mem_append.mp hx with hx | hx
            · exact hr2 x hx
            · rw [List.mem_singleton.mp hx]
              decide +kernel
          · rw [List.length_append, List.length_singleton]
            omega
        · exact ⟨_, rfl, q H3 _ f3 di3 ⟨LAWL[k], r, rfl, hc, hr2, by rw [List.length_cons, hr1]; omega⟩⟩
    refine ⟨_, (pss_cons (ps_set (i := 1) sc__law_name.nd rfl (.inl rfl) pe_str)
      (pss_cons (ps_set (i := 2) sc__law_name.nd rfl (.inl rfl) (pe_u c__law_next hr (by first | decide | omega) (by rfl) (pa_cons (pv 0) (pa_cons pe_int pa_nil))))
      (pss_cons (ps_if (pt_cmpR op_eq (pe_u c__law_next hr (by first | decide | omega) (by rfl) (pa_cons (pv 0) (pa_cons pe_int pa_nil))) pe_int (nomark _)) (pss_one (ps_set (i := 2) sc__law_name.nd rfl (.inl rfl) pe_int)) pss_nil)
      ht))), ?_⟩
    refine ⟨_, rfl, d, c, 4, rfl, dr, by decide, by decide, fun H2 r f2 _ dr2 r0 r1 => ?_⟩
    refine ⟨_, rfl, d, c, 9, rfl, dr2, by decide, by decide, fun H3 r5 f3 _ dr3 _ _ => ⟨rfl, _, rfl, ite2 (fun e => ?_) (fun e => ?_)⟩⟩
    · exact hq H3 19 (f2.trans f3) dr3 (by decide) (by decide)
    · exact hq H3 r (f2.trans f3) dr3 r0 (by omega)
end
def CHS : List Nat := (Str.ofString "'abcdefghijklmnopqrstuvwxyz ABCDEFGHIJKLMNOPQRSTUVWXYZ0123456789!\"#$&()*+,-./:;<=>?@\x5b\\]^_`{|}~\t").cps.toList
theorem CHS_S : Str.ofString "'abcdefghijklmnopqrstuvwxyz ABCDEFGHIJKLMNOPQRSTUVWXYZ0123456789!\"#$&()*+,-./:;<=>?@\x5b\\]^_`{|}~\t" = ⟨CHS.toArray⟩ := (SX.S_tl _).symm
theorem CHS_len : CHS.length = 95 := by decide +kernel
theorem CHS_nl : ∀ c ∈ CHS, c ≠ 10 := by decide +kernel
theorem sum_one : ∀ l : List Nat, ((l.map fun x => (⟨#[x]⟩ : Str)).map (·.length)).sum = l.length
  | [] => rfl
  | x :: l => by
    rw [List.map_cons, List.map_cons, List.sum_cons, sum_one l, List.length_cons]
    show 1 + l.length = _
    omega
theorem flat_one : ∀ l : List Nat, ((l.map fun x => (⟨#[x]⟩ : Str)).map TL.tl).flatten = l
  | [] => rfl
  | x :: l => by
    rw [List.map_cons, List.map_cons, List.flatten_cons, flat_one l]
    rfl
section
variable {P : Program} {w : World} {K : PySem.W.Frag} {mg : Str → Option Value} {base : Heap}
theorem ok_string {f : Addr} {fd : FuncData} (F : Fun K "_law_string" "_law_string" s__law_string f fd) (M : Mg mg) (c__law_next : Cl P w K mg base 1 "_law_next" sp_next) : FnOk P w K mg base CX0 2 f fd ["draw"] (sp_string CHS) := by
  refine F.ok sc__law_string (fun vs H Q E h => ?_) (fun cdv A outer s H vs Q E hr h => ?_)
  · obtain ⟨d, c, rfl, _⟩ := h
    rfl
  · obtain ⟨d, c, rfl, dr, q⟩ := h
    obtain ⟨t, ht, hq⟩ : ∃ t, PSs (cxOf CX0 P w K mg base N__law_string "_law_string" (defScope s__law_string) f cdv A outer s H E).nox ((defBody s__law_string).drop 3) t ∧ ∀ (H1 : Hp) (size : Int), Fd d H H1 → Dr H1 d c → 0 ≤ size → size ≤ 100 → t { nx := fun _ H' => Q .non H', rt := Q } [some (.ref d), some (.str ⟨CHS.toArray⟩), some (.int size), none] H1 := by
      refine ⟨_, (pss_one (ps_ret (pe_join pe_str (pe_lc (own := [("k", 3)]) (g := gName 3) (tt := tYes) rfl sc__law_string.nd (pi_range1 (by rfl) M.range (pa_cons (pv 2) pa_nil)) (blkOk_by (N := N__law_string) (sc := defScope s__law_string) (by decide +kernel)) (fun _ _ _ _ _ => (pg_name (i := 3) sc__law_string.nd rfl (.inl rfl))) (fun _ _ _ _ _ => pts_nil) (fun _ _ _ _ _ => (pe_ix ix_str (pv 1) (pe_u c__law_next hr (by first | decide | omega) (by rfl) (pa_cons (pv 0) (pa_cons (pe_callB call_len_str (by rfl) M.len PySem.boot_len (pa_cons (pv 1) pa_nil)) pa_nil))) (fun _ _ => rfl))))))), fun H1 size f1 dr1 z0 z1 => ?_⟩
      refine ⟨⟨_, rfl⟩, _, rfl, _, rfl, by omega, by omega, fun D nD => ?_⟩
      refine lc_range (lo := 0) (n := size.toNat) (fun i Hi => D ≠ d ∧ D ≠ c ∧ Fd d H1 Hi ∧ Dr Hi d c ∧ ∃ l : List Nat, l.length = i ∧ (∀ x ∈ l, x ∈ CHS) ∧ Hi D = some (.lst ((l.map fun x => (⟨#[x]⟩ : Str)).map V.str))) ⟨dr1.nd nD, dr1.nc nD, Fd.new nD, dr1.ext (same_upd nD), [], rfl, (fun _ h => by cases h), upd_same⟩ (fun i Hi hi hp => ?_) (fun Hn hp => ?_)
      · obtain ⟨nDd, nDc, fi, di, l, hl, hx, eD⟩ := hp
        refine ⟨rfl, ?_⟩
        refine ⟨_, rfl, _, rfl, _, rfl, _, rfl, by rw [S_len', CHS_len]; decide, ?_⟩
        rw [S_len']
        refine ⟨d, c, _, rfl, di, by rw [CHS_len]; decide, by rw [CHS_len]; decide, fun H' r f' _ dr' r0 r1 => ?_⟩
        obtain ⟨k, rfl⟩ := Int.eq_ofNat_of_zero_le r0
        have hk : k < CHS.length := by omega
        have eD' := f' _ _ nDd eD
        refine ⟨_, _, CHS[k], rfl, rfl, by rw [S_len', CHS_len]; decide, atI_nat (show CHS[k]? = _ from List.getElem?_eq_getElem hk), _, eD', ?_, nDd, nDc, ?_, dr'.upd nDd nDc, l ++ [CHS[k]], ?_, ?_, ?_⟩
        · rw [List.length_map, List.length_map, hl]
          exact Nat.lt_of_lt_of_le (m := 1000) (by omega) (by decide)
        · intro b o nb e
          have nbD : b ≠ D := ne_of_none e nD
          rw [upd_ne nbD]
          exact f' _ _ nb (fi _ _ nb e)
        · rw [List.length_append, hl]
          rfl
        · intro y hy
          rcases List.mem_append.mp hy with hy | hy
          · exact hx y hy
          · rw [List.mem_singleton.mp hy]
            exact List.getElem_mem hk
        · rw [upd_same, List.map_append, List.map_append]
          rfl
      · obtain ⟨nDd, nDc, fi, di, l, hl, hx, eD⟩ := hp
        have hz := sum_one l
        refine ⟨_, D, l.map fun x => (⟨#[x]⟩ : Str), rfl, rfl, .inl (.of eD), ?_, ?_⟩
        · rw [hz, List.length_map, hl]
          show size.toNat + size.toNat * 0 ≤ 16777216
          omega
        · rw [show Txt.join (Str.ofString "") (l.map fun x => (⟨#[x]⟩ : Str)) = ⟨(((l.map fun x => (⟨#[x]⟩ : Str)).map TL.tl).flatten).toArray⟩ from join0 _, flat_one]
          exact q Hn l (f1.trans fi) di (by omega) hx
    refine ⟨_, (pss_cons (ps_set (i := 1) sc__law_string.nd rfl (.inr rfl) pe_str)
      (pss_cons (ps_set (i := 2) sc__law_string.nd rfl (.inl rfl) (pe_u c__law_next hr (by first | decide | omega) (by rfl) (pa_cons (pv 0) (pa_cons pe_int pa_nil))))
      (pss_cons (ps_if (pt_cmpR op_eq (pe_u c__law_next hr (by first | decide | omega) (by rfl) (pa_cons (pv 0) (pa_cons pe_int pa_nil))) pe_int (nomark _)) (pss_one (ps_set (i := 2) sc__law_string.nd rfl (.inl rfl) (pe_op op_add pe_int (pv 2)))) pss_nil)
      ht))), ?_⟩
    rw [CHS_S]
    refine ⟨_, rfl, d, c, 5, rfl, dr, by decide, by decide, fun H2 r f2 _ dr2 r0 r1 => ?_⟩
    refine ⟨_, rfl, d, c, 11, rfl, dr2, by decide, by decide, fun H3 r5 f3 _ dr3 _ _ => ⟨rfl, _, rfl, ite2 (fun e => ?_) (fun e => ?_)⟩⟩
    · refine ⟨_, rfl, _, _, rfl, rfl, ?_⟩
      exact hq H3 (96 + r) (f2.trans f3) dr3 (by omega) (by omega)
    · exact hq H3 r (f2.trans f3) dr3 r0 (by omega)
theorem ok_quoted {f : Addr} {fd : FuncData} (F : Fun K "_law_quoted" "_law_quoted" s__law_quoted f fd) : FnOk P w K mg base CX0 1 f fd ["value"] sp_quoted := by
  refine F.ok sc__law_quoted (fun vs H Q E h => ?_) (fun cdv A outer s H vs Q E hr h => ?_)
  · obtain ⟨l, rfl, _⟩ := h
    rfl
  · obtain ⟨l, rfl, hl, q⟩ := h
    have hd := dbl_len l
    refine ⟨_, (pss_one (ps_ret (pe_op op_add_str (pe_opG op_add_str peg_str (pet_rpl (pv 0) (by decide))) pe_str))), ?_⟩
    refine ⟨_, rfl, ⟨l.toArray⟩, rfl, by rw [S_len']; show l.length + (l.length + 1) * 2 ≤ 16777216; omega, ?_⟩
    rw [show Txt.replace ⟨l.toArray⟩ (Str.ofString "'") (Str.ofString "''") = ⟨(dbl l).toArray⟩ by
      have := rpl_S l [39] [39, 39] (by decide) (by decide)
      rw [dbl_rpl l []] at this
      exact this]
    refine ⟨_, _, rfl, rfl, by show 1 + (⟨(dbl l).toArray⟩ : Str).length ≤ sizeLine; rw [S_len']; exact Nat.le_trans (m := 10000) (by omega) (by decide), ?_⟩
    rw [show Str.ofString "'" ++ (⟨(dbl l).toArray⟩ : Str) = ⟨(39 :: dbl l).toArray⟩ from SX.S_cat [39] (dbl l)]
    refine ⟨_, _, rfl, rfl, by rw [S_len', List.length_cons]; exact Nat.le_trans (m := 10000) (by show _ + 1 ≤ 10000; omega) (by decide), ?_⟩
    rw [show (⟨(39 :: dbl l).toArray⟩ : Str) ++ Str.ofString "'" = ⟨(39 :: (dbl l ++ [39])).toArray⟩ from SX.S_cat (39 :: dbl l) [39]]
    exact q
theorem ok_number {f : Addr} {fd : FuncData} (F : Fun K "_law_number" "_law_number" s__law_number f fd) (M : Mg mg) (c__law_next : Cl P w K mg base 1 "_law_next" sp_next) : FnOk P w K mg base CX0 2 f fd ["draw"] sp_number := by
  refine F.ok sc__law_number (fun vs H Q E h => ?_) (fun cdv A outer s H vs Q E hr h => ?_)
  · obtain ⟨d, c, rfl, _⟩ := h
    rfl
  · obtain ⟨d, c, rfl, dr, q⟩ := h
    have fin : ∀ (H1 : Hp) (n : Int), Fd d H H1 → Dr H1 d c → Q (.int (n % 10 ^ 15)) H1 := fun H1 n f1 d1 => by
      have h0 : 0 ≤ n % 10 ^ 15 := Int.emod_nonneg _ (by decide)
      have h1 : n % 10 ^ 15 < 10 ^ 15 := Int.emod_lt_of_pos _ (by decide)
      obtain ⟨k, hk⟩ := Int.eq_ofNat_of_zero_le h0
      rw [hk]
      exact q H1 k f1 d1 (by omega)
    refine ⟨_, (pss_cons (ps_set (i := 1) sc__law_number.nd rfl (.inl rfl) (pe_u c__law_next hr (by first | decide | omega) (by rfl) (pa_cons (pv 0) (pa_cons pe_int pa_nil))))
      (pss_cons (ps_if (pt_cmpR op_eq (pe_u c__law_next hr (by first | decide | omega) (by rfl) (pa_cons (pv 0) (pa_cons pe_int pa_nil))) pe_int (nomark _)) (pss_one (ps_for PassesOwn.never rfl (pi_range1 (by rfl) M.range (pa_cons pe_int pa_nil)) (pg_name (i := 2) sc__law_number.nd rfl (.inl rfl)) (pss_one (ps_set (i := 1) sc__law_number.nd rfl (.inl rfl) (pe_op op_add (pe_op op_mul (pv 1) pe_int) (pe_u c__law_next hr (by first | decide | omega) (by rfl) (pa_cons (pv 0) (pa_cons pe_int pa_nil)))))))) pss_nil)
      (pss_one (ps_ret (pe_op op_mod (pv 1) (pe_op op_pow pe_int pe_int)))))), ?_⟩
    refine ⟨_, rfl, d, c, 12, rfl, dr, by decide, by decide, fun H2 r f2 _ dr2 r0 r1 => ?_⟩
    refine ⟨_, rfl, d, c, 6, rfl, dr2, by decide, by decide, fun H3 r5 f3 _ dr3 _ _ => ⟨rfl, _, rfl, ite2 (fun e => ?_) (fun e => ?_)⟩⟩
    · refine ⟨_, rfl, by decide, by decide, ?_⟩
      refine for_range (lo := 0) (n := (14 : Int).toNat) (fun i σ Hi => Fd d H Hi ∧ Dr Hi d c ∧ ∃ (n : Int) (z : Option V), σ = [some (.ref d), some (.int n), z]) ⟨f2.trans f3, dr3, r, none, rfl⟩ (fun i σ Hi hi hp => ?_) (fun σ Hn hp => ?_)
      · obtain ⟨fi, di, n, z, rfl⟩ := hp
        refine ⟨_, rfl, _, _, rfl, rfl, .inr ⟨by decide, by decide⟩, ?_⟩
        refine ⟨_, rfl, d, c, 10, rfl, di, by decide, by decide, fun H4 r4 f4 _ dr4 _ _ => ?_⟩
        exact ⟨_, _, rfl, rfl, fi.trans f4, dr4, _, _, rfl⟩
      · obtain ⟨fi, di, n, z, rfl⟩ := hp
        refine ⟨_, rfl, _, _, rfl, rfl, ⟨by decide, by decide, by decide⟩, _, _, rfl, rfl, by show (0 : Int) < 10 ^ (15 : Int).toNat; decide, ?_⟩
        exact fin Hn n fi di
    · refine ⟨_, rfl, _, _, rfl, rfl, ⟨by decide, by decide, by decide⟩, _, _, rfl, rfl, by show (0 : Int) < 10 ^ (15 : Int).toNat; decide, ?_⟩
      exact fin H3 r (f2.trans f3) dr3
end

/-! ### the law's expressions -/
def SIGs : List Bop := [.or, .and, .lt, .le, .eq, .ne, .ge, .gt, .add, .sub, .mul, .div, .mod]
def sp_signs : Sp := fun vs H Q _ => vs = [] ∧ ∀ H' p, Same H H' → H p = none → H' p = some (.lst ((SIGs.map Bop.w).map V.str)) → Q (.ref p) H'
def sp_lleaf (K : PySem.W.Frag) : Sp := fun vs H Q _ => ∃ (d c : Addr), vs = [.ref d] ∧ Dr H d c ∧ ∀ H' p (e : Ex), Fd d H H' → Dr H' d c → e.ok → e.ht = 0 → Dp K H' p e.d → Q p H'
def sp_lex (K : PySem.W.Frag) (n : Nat) : Sp := fun vs H Q _ => ∃ (d c : Addr) (m : Nat), vs = [.ref d, .int (m : Nat)] ∧ m < n ∧ Dr H d c ∧ ∀ H' p (e : Ex), Fd d H H' → Dr H' d c → e.ok → e.ht ≤ m → Dp K H' p e.d → Q p H'
section
variable {P : Program} {w : World} {K : PySem.W.Frag} {mg : Str → Option Value} {base : Heap}
theorem ok_signs {f : Addr} {fd : FuncData} (F : Fun K "_law_signs" "_law_signs" s__law_signs f fd) : FnOk P w K mg base CX0 1 f fd [] sp_signs := by
  refine F.ok sc__law_signs (fun vs H Q E h => ?_) (fun cdv A outer s H vs Q E hr h => ?_)
  · obtain ⟨rfl, _⟩ := h
    rfl
  · obtain ⟨rfl, q⟩ := h
    refine ⟨_, (pss_one (ps_ret (pe_lst (pa_cons pe_str (pa_cons pe_str (pa_cons pe_str (pa_cons pe_str (pa_cons pe_str (pa_cons pe_str (pa_cons pe_str (pa_cons pe_str (pa_cons pe_str (pa_cons pe_str (pa_cons pe_str (pa_cons pe_str (pa_cons pe_str pa_nil)))))))))))))))), ?_⟩
    refine ⟨by show 13 ≤ sizeLine; decide, fun p1 n1 => ?_⟩
    exact q _ p1 (same_upd n1) n1 upd_same
theorem name_len {l : List Nat} (h : NameOk l) : l.length ≤ 21 := by
  obtain ⟨_, _, _, _, _, h⟩ := h
  omega
theorem CHS_low : ∀ c ∈ CHS, c < 1114112 := by decide +kernel
theorem ok_lleaf {f : Addr} {fd : FuncData} (F : Fun K "_law_leaf" "_law_leaf" s__law_leaf f fd) (M : Mg mg) (c__law_next : Cl P w K mg base 1 "_law_next" sp_next) (c__law_name : Cl P w K mg base 2 "_law_name" sp_name) (c__law_number : Cl P w K mg base 2 "_law_number" sp_number) (c__law_string : Cl P w K mg base 2 "_law_string" (sp_string CHS)) : FnOk P w K mg base CX0 3 f fd ["draw"] (sp_lleaf K) := by
  refine F.ok sc__law_leaf (fun vs H Q E h => ?_) (fun cdv A outer s H vs Q E hr h => ?_)
  · obtain ⟨d, c, rfl, _⟩ := h
    rfl
  · obtain ⟨d, c, rfl, dr, q⟩ := h
    refine ⟨_, (pss_cons (ps_set (i := 1) sc__law_leaf.nd rfl (.inl rfl) (pe_u c__law_next hr (by first | decide | omega) (by rfl) (pa_cons (pv 0) (pa_cons pe_int pa_nil))))
      (pss_cons (ps_if (pt_cmpR op_eq (pv 1) pe_int (nomark _)) (pss_one (ps_ret (pe_tup (pa_cons pe_str (pa_cons (pe_u c__law_number hr (by first | decide | omega) (by rfl) (pa_cons (pv 0) pa_nil)) pa_nil))))) pss_nil)
      (pss_cons (ps_if (pt_cmpR op_eq (pv 1) pe_int (nomark _)) (pss_one (ps_ret (pe_tup (pa_cons pe_str (pa_cons (pe_u c__law_string hr (by first | decide | omega) (by rfl) (pa_cons (pv 0) pa_nil)) pa_nil))))) pss_nil)
      (pss_cons (ps_if (pt_cmpR op_eq (pv 1) pe_int (nomark _)) (pss_one (ps_ret (pe_tup (pa_cons pe_str (pa_cons (pe_u c__law_next hr (by first | decide | omega) (by rfl) (pa_cons (pv 0) (pa_cons pe_int pa_nil))) pa_nil))))) pss_nil)
      (pss_cons (ps_if (pt_cmpR op_eq (pv 1) pe_int (nomark _)) (pss_one (ps_ret (pe_tup (pa_cons pe_str pa_nil)))) pss_nil)
      (pss_cons (ps_if (pt_cmpR op_eq (pv 1) pe_int (nomark _)) (pss_one (ps_ret (pe_tup (pa_cons pe_str (pa_cons (pe_u c__law_name hr (by first | decide | omega) (by rfl) (pa_cons (pv 0) pa_nil)) (pa_cons (pe_u c__law_name hr (by first | decide | omega) (by rfl) (pa_cons (pv 0) pa_nil)) pa_nil)))))) pss_nil)
      (pss_one (ps_ret (pe_tup (pa_cons pe_str (pa_cons (pe_u c__law_name hr (by first | decide | omega) (by rfl) (pa_cons (pv 0) pa_nil)) pa_nil))))))))))), ?_⟩
    refine ⟨_, rfl, d, c, 6, rfl, dr, by decide, by decide, fun H1 r f1 _ dr1 r0 r1 => ?_⟩
    refine ⟨_, rfl, rfl, _, rfl, ite2 (fun e => ?_) (fun e => ?_)⟩
    · refine ⟨_, rfl, d, c, rfl, dr1, fun H2 n f2 dr2 hn => ?_⟩
      refine ⟨Nat.le_trans (m := 3) (by first | exact (by decide : 1 ≤ 3) | exact (by decide : 2 ≤ 3) | exact (by decide : 3 ≤ 3)) (by decide), fun p np => ?_⟩
      exact q _ _ (.num n) ((f1.trans f2).trans (Fd.new np)) (dr2.ext (same_upd np)) hn rfl (.tup (.inl (.inl upd_same)) (.cons (.str _) (.cons (.int _) .nil)))
    refine ⟨_, rfl, rfl, _, rfl, ite2 (fun e => ?_) (fun e => ?_)⟩
    · refine ⟨_, rfl, d, c, rfl, dr1, fun H2 l f2 dr2 hl hx => ?_⟩
      refine ⟨Nat.le_trans (m := 3) (by first | exact (by decide : 1 ≤ 3) | exact (by decide : 2 ≤ 3) | exact (by decide : 3 ≤ 3)) (by decide), fun p np => ?_⟩
      exact q _ _ (.text l) ((f1.trans f2).trans (Fd.new np)) (dr2.ext (same_upd np)) ⟨hl, fun x h => CHS_low x (hx x h)⟩ rfl (.tup (.inl (.inl upd_same)) (.cons (.str _) (.cons (.str _) .nil)))
    refine ⟨_, rfl, rfl, _, rfl, ite2 (fun e => ?_) (fun e => ?_)⟩
    · refine ⟨_, rfl, d, c, 2, rfl, dr1, by decide, by decide, fun H2 k f2 _ dr2 k0 k1 => ?_⟩
      refine ⟨Nat.le_trans (m := 3) (by first | exact (by decide : 1 ≤ 3) | exact (by decide : 2 ≤ 3) | exact (by decide : 3 ≤ 3)) (by decide), fun p np => ?_⟩
      obtain ⟨b, rfl⟩ : ∃ b : Bool, k = if b = true then 1 else 0 := by
        by_cases h : k = 1
        · exact ⟨true, h⟩
        · exact ⟨false, by show k = 0; omega⟩
      exact q _ _ (.truth b) ((f1.trans f2).trans (Fd.new np)) (dr2.ext (same_upd np)) trivial rfl (.tup (.inl (.inl upd_same)) (.cons (.str _) (.cons (.int _) .nil)))
    refine ⟨_, rfl, rfl, _, rfl, ite2 (fun e => ?_) (fun e => ?_)⟩
    · refine ⟨Nat.le_trans (m := 3) (by first | exact (by decide : 1 ≤ 3) | exact (by decide : 2 ≤ 3) | exact (by decide : 3 ≤ 3)) (by decide), fun p np => ?_⟩
      exact q _ _ .null (f1.trans (Fd.new np)) (dr1.ext (same_upd np)) trivial rfl (.tup (.inl (.inl upd_same)) (.cons (.str _) .nil))
    refine ⟨_, rfl, rfl, _, rfl, ite2 (fun e => ?_) (fun e => ?_)⟩
    · refine ⟨_, rfl, d, c, rfl, dr1, fun H2 l f2 dr2 hl => ?_⟩
      refine ⟨_, rfl, d, c, rfl, dr2, fun H3 m f3 dr3 hm => ?_⟩
      refine ⟨Nat.le_trans (m := 3) (by first | exact (by decide : 1 ≤ 3) | exact (by decide : 2 ≤ 3) | exact (by decide : 3 ≤ 3)) (by decide), fun p np => ?_⟩
      exact q _ _ (.field l m) (((f1.trans f2).trans f3).trans (Fd.new np)) (dr3.ext (same_upd np)) ⟨name_len hl, name_len hm⟩ rfl (.tup (.inl (.inl upd_same)) (.cons (.str _) (.cons (.str _) (.cons (.str _) .nil))))
    · refine ⟨_, rfl, d, c, rfl, dr1, fun H2 l f2 dr2 hl => ?_⟩
      refine ⟨Nat.le_trans (m := 3) (by first | exact (by decide : 1 ≤ 3) | exact (by decide : 2 ≤ 3) | exact (by decide : 3 ≤ 3)) (by decide), fun p np => ?_⟩
      exact q _ _ (.name l) ((f1.trans f2).trans (Fd.new np)) (dr2.ext (same_upd np)) (name_len hl) rfl (.tup (.inl (.inl upd_same)) (.cons (.str _) (.cons (.str _) .nil)))
theorem ok_lex {f : Addr} {fd : FuncData} (n : Nat) (F : Fun K "_law_expression" "_law_expression" s__law_expression f fd) (M : Mg mg) (c__law_next : Cl P w K mg base 1 "_law_next" sp_next) (c__law_signs : Cl P w K mg base 1 "_law_signs" sp_signs) (c__law_leaf : Cl P w K mg base 3 "_law_leaf" (sp_lleaf K)) (c__law_expression : Cl P w K mg base (n + 3) "_law_expression" (sp_lex K n)) : FnOk P w K mg base CX0 (n + 4) f fd ["draw", "depth"] (sp_lex K (n + 1)) := by
  refine F.ok sc__law_expression (fun vs H Q E h => ?_) (fun cdv A outer s H vs Q E hr h => ?_)
  · obtain ⟨d, c, m, rfl, _⟩ := h
    rfl
  · obtain ⟨d, c, m, rfl, hm, dr, q⟩ := h
    refine ⟨_, (pss_cons (ps_set (i := 2) sc__law_expression.nd rfl (.inl rfl) (pe_u c__law_next hr (by first | decide | omega) (by rfl) (pa_cons (pv 0) (pa_cons pe_int pa_nil))))
      (pss_cons (ps_if (PW.pt (pw_or (pt_cmpR op_eq (pv 1) pe_int (nomark _)) (pw_or1 (pt_cmpR op_lt (pv 2) pe_int (nomark _))))) (pss_one (ps_ret (pe_u c__law_leaf hr (by first | decide | omega) (by rfl) (pa_cons (pv 0) pa_nil)))) pss_nil)
      (pss_cons (ps_if (pt_cmpR op_lt (pv 2) pe_int (nomark _)) (pss_cons (ps_set (i := 3) sc__law_expression.nd rfl (.inl rfl) (pe_u c__law_expression hr (by first | decide | omega) (by rfl) (pa_cons (pv 0) (pa_cons (pe_op op_sub (pv 1) pe_int) pa_nil))))
      (pss_one (ps_ret (pe_tup (pa_cons (pe_ix (ix_listK K) (pe_u0 c__law_signs hr (by first | decide | omega) (by rfl)) (pe_op op_sub (pv 2) pe_int) (fun _ _ => rfl)) (pa_cons (pv 3) (pa_cons (pe_u c__law_expression hr (by first | decide | omega) (by rfl) (pa_cons (pv 0) (pa_cons (pe_op op_sub (pv 1) pe_int) pa_nil))) pa_nil))))))) pss_nil)
      (pss_cons (ps_if (pt_cmpR op_lt (pv 2) pe_int (nomark _)) (pss_one (ps_ret (pe_tup (pa_cons (pe_ix (ix_listK K) (pe_lst (pa_cons pe_str (pa_cons pe_str (pa_cons pe_str (pa_cons pe_str pa_nil))))) (pe_op op_sub (pv 2) pe_int) (fun _ _ => rfl)) (pa_cons (pe_u c__law_expression hr (by first | decide | omega) (by rfl) (pa_cons (pv 0) (pa_cons (pe_op op_sub (pv 1) pe_int) pa_nil))) pa_nil))))) pss_nil)
      (pss_cons (ps_set (i := 3) sc__law_expression.nd rfl (.inl rfl) (pe_u c__law_expression hr (by first | decide | omega) (by rfl) (pa_cons (pv 0) (pa_cons (pe_op op_sub (pv 1) pe_int) pa_nil))))
      (pss_cons (ps_set (i := 4) sc__law_expression.nd rfl (.inl rfl) (pe_u c__law_expression hr (by first | decide | omega) (by rfl) (pa_cons (pv 0) (pa_cons (pe_op op_sub (pv 1) pe_int) pa_nil))))
      (pss_cons (ps_if (pt_cmpR op_eq (pv 2) pe_int (nomark _)) (pss_one (ps_ret (pe_tup (pa_cons (pe_ix (ix_listK K) (pe_lst (pa_cons pe_str (pa_cons pe_str pa_nil))) (pe_u c__law_next hr (by first | decide | omega) (by rfl) (pa_cons (pv 0) (pa_cons pe_int pa_nil))) (fun _ _ => rfl)) (pa_cons (pv 3) (pa_cons (pv 4) pa_nil)))))) pss_nil)
      (pss_one (ps_ret (pe_tup (pa_cons pe_str (pa_cons (pv 3) (pa_cons (pv 4) (pa_cons (pe_u c__law_expression hr (by first | decide | omega) (by rfl) (pa_cons (pv 0) (pa_cons (pe_op op_sub (pv 1) pe_int) pa_nil))) pa_nil)))))))))))))), ?_⟩
    refine ⟨_, rfl, d, c, 24, rfl, dr, by decide, by decide, fun H1 r f1 _ dr1 r0 r1 => ?_⟩
    by_cases hd : m = 0 ∨ r < 5
    · have leaf : tCall (sp_lleaf K) [] E0 (tCons (tVar 0) tNil) [some (.ref d), some (.int (m : Nat)), some (.int r), none, none] H1 Q := by
        exact ⟨_, rfl, d, c, rfl, dr1, fun H2 p e f2 dr2 ok h0 dp => q H2 p e (f1.trans f2) dr2 ok (by omega) dp⟩
      refine ⟨_, rfl, rfl, _, rfl, ?_⟩
      refine ite2 (fun e => iteT leaf) (fun e => ?_)
      have hr5 : r < 5 := by
        rcases hd with rfl | h
        · exact absurd rfl e
        · exact h
      refine ⟨_, rfl, _, _, rfl, rfl, _, rfl, ?_⟩
      rw [decide_eq_true hr5]
      exact iteT leaf
    · obtain ⟨k, rfl⟩ : ∃ k, m = k + 1 := ⟨m - 1, by omega⟩
      have dec : ∀ d : Addr, [V.ref d, V.int (((k + 1 : Nat) : Int) - 1)] = [V.ref d, V.int (k : Nat)] := fun d => by rw [show (((k + 1 : Nat) : Int) - 1) = (k : Nat) by omega]
      refine ⟨_, rfl, rfl, _, rfl, ?_⟩
      rw [show decide (V.int ((k + 1 : Nat) : Int) = V.int 0) = false from decide_eq_false fun z => by have := V.int.inj z; omega]
      refine iteF ⟨_, rfl, _, _, rfl, rfl, _, rfl, ?_⟩
      rw [decide_eq_false (show ¬ r < 5 by omega)]
      refine iteF ?_
      refine ⟨_, rfl, _, _, rfl, rfl, _, rfl, ite2 (fun e => ?_) (fun e => ?_)⟩
      · have hr18 : r < 18 := of_decide_eq_true e
        refine ⟨_, rfl, _, rfl, _, _, rfl, rfl, d, c, k, dec d, by omega, dr1, fun H2 p1 e1 f2 dr2 ok1 ht1 dp1 => ?_⟩
        refine ⟨rfl, fun H3 sg s3 nsg esg => ?_⟩
        obtain ⟨j, hj⟩ : ∃ j : Nat, r - 5 = (j : Nat) := ⟨(r - 5).toNat, by omega⟩
        have hj13 : j < SIGs.length := by show j < 13; omega
        have atj : atI ((SIGs.map Bop.w).map V.str) (r - 5) = some (.str (SIGs[j]).w) := by
          rw [hj]
          exact atI_nat (by rw [List.getElem?_map, List.getElem?_map, List.getElem?_eq_getElem hj13]; rfl)
        have dr3 := dr2.ext s3
        refine ⟨_, rfl, _, _, rfl, rfl, sg, _, _, _, rfl, rfl, .of esg, atj, ?_⟩
        refine ⟨_, rfl, ?_⟩
        refine ⟨_, rfl, _, rfl, _, _, rfl, rfl, d, c, k, dec d, by omega, dr3, fun H4 p2 e2 f4 dr4 ok2 ht2 dp2 => ?_⟩
        refine ⟨by show 3 ≤ sizeLine; decide, fun p np => ?_⟩
        have dp1' := Dp.ext (same_upd np (o := .tup [.str (SIGs[j]).w, p1, p2])) _ _ (Dp.fd dr3.lst f4 _ _ (ex_only e1) (Dp.ext s3 _ _ dp1))
        exact q _ _ (.bin SIGs[j] e1 e2) ((((f1.trans f2).trans (Fd.of s3)).trans f4).trans (Fd.new np)) (dr4.ext (same_upd np)) ⟨ok1, ok2⟩ (by show max e1.ht e2.ht + 1 ≤ k + 1; omega) (.tup (.inl (.inl upd_same)) (.cons (.str _) (.cons dp1' (.cons (Dp.ext (same_upd np) _ _ dp2) .nil))))
      have h18 : ¬ r < 18 := fun z => e (decide_eq_true z)
      refine ⟨_, rfl, _, _, rfl, rfl, _, rfl, ite2 (fun e => ?_) (fun e => ?_)⟩
      · have hr22 : r < 22 := of_decide_eq_true e
        have fin : ∀ (s : Str) (mk : Ex → Ex), atI [V.str "negate", V.str "not", V.str "missing", V.str "length"] (r - 18) = some (.str s) → (∀ e : Ex, (mk e).d = .tuple [.str s, e.d] ∧ ((mk e).ok ↔ e.ok) ∧ (mk e).ht = e.ht + 1) → tTup (tCons (tOp (rIxL K) (tLst (tCons (tC (V.str (Str.ofString "negate"))) (tCons (tC (V.str (Str.ofString "not"))) (tCons (tC (V.str (Str.ofString "missing"))) (tCons (tC (V.str (Str.ofString "length"))) tNil))))) (tOp (rI0 fun i j => V.int (i - j)) (tVar 2) (tC (V.int 18)))) (tCons (tCall (sp_lex K n) [] E0 (tCons (tVar 0) (tCons (tOp (rI0 fun i j => V.int (i - j)) (tVar 1) (tC (V.int 1))) tNil))) tNil)) [some (.ref d), some (.int ((k + 1 : Nat) : Int)), some (.int r), none, none] H1 Q := fun s mk ha hmk => by
          refine ⟨by show 4 ≤ sizeLine; decide, fun wp nwp => ?_⟩
          have dr2 := dr1.ext (same_upd nwp (o := .lst [.str "negate", .str "not", .str "missing", .str "length"]))
          refine ⟨_, rfl, _, _, rfl, rfl, wp, _, _, _, rfl, rfl, .of upd_same, ha, ?_⟩
          refine ⟨_, rfl, _, rfl, _, _, rfl, rfl, d, c, k, dec d, by omega, dr2, fun H4 p2 e2 f4 dr4 ok2 ht2 dp2 => ?_⟩
          refine ⟨by show 2 ≤ sizeLine; decide, fun p np => ?_⟩
          obtain ⟨m1, m2, m3⟩ := hmk e2
          refine q _ _ (mk e2) (((f1.trans (Fd.new nwp)).trans f4).trans (Fd.new np)) (dr4.ext (same_upd np)) (m2.mpr ok2) (by omega) ?_
          rw [m1]
          exact .tup (.inl (.inl upd_same)) (.cons (.str _) (.cons (Dp.ext (same_upd np) _ _ dp2) .nil))
        have four : r = 18 ∨ r = 19 ∨ r = 20 ∨ r = 21 := by omega
        clear h18 hr22 e hd r0 r1
        rcases four with rfl | rfl | rfl | rfl
        · exact fin "negate" .neg (atI_nat (j := 0) rfl) fun e => ⟨rfl, Iff.rfl, rfl⟩
        · exact fin "not" .nt (atI_nat (j := 1) rfl) fun e => ⟨rfl, Iff.rfl, rfl⟩
        · exact fin "missing" (.f1 true) (atI_nat (j := 2) rfl) fun e => ⟨rfl, Iff.rfl, rfl⟩
        · exact fin "length" (.f1 false) (atI_nat (j := 3) rfl) fun e => ⟨rfl, Iff.rfl, rfl⟩
      refine ⟨_, rfl, _, rfl, _, _, rfl, rfl, d, c, k, dec d, by omega, dr1, fun H2 p1 e1 f2 dr2 ok1 ht1 dp1 => ?_⟩
      refine ⟨_, rfl, _, rfl, _, _, rfl, rfl, d, c, k, dec d, by omega, dr2, fun H3 p2 e2 f3 dr3 ok2 ht2 dp2 => ?_⟩
      have dp13 := Dp.fd dr2.lst f3 _ _ (ex_only e1) dp1
      refine ⟨_, rfl, rfl, _, rfl, ite2 (fun e => ?_) (fun e => ?_)⟩
      · refine ⟨by show 2 ≤ sizeLine; decide, fun wp nwp => ?_⟩
        have sw := same_upd nwp (o := .lst [.str "starts", .str "coalesce"])
        have dr4 := dr3.ext sw
        refine ⟨_, rfl, d, c, 2, rfl, dr4, by decide, by decide, fun H5 b f5 _ dr5 b0 b1 => ?_⟩
        have ew := f5 _ _ (dr3.nd nwp) (show (upd H3 wp (.lst [.str "starts", .str "coalesce"])) wp = some (.lst [.str "starts", .str "coalesce"]) from upd_same)
        have dp15 := Dp.fd dr4.lst f5 _ _ (ex_only e1) (Dp.ext sw _ _ dp13)
        have dp25 := Dp.fd dr4.lst f5 _ _ (ex_only e2) (Dp.ext sw _ _ dp2)
        have ff := (((f1.trans f2).trans f3).trans (Fd.of sw)).trans f5
        have two : b = 0 ∨ b = 1 := by omega
        rcases two with rfl | rfl
        · refine ⟨wp, _, _, _, rfl, rfl, .of ew, atI_nat (j := 0) rfl, _, rfl, _, rfl, by show 3 ≤ sizeLine; decide, fun p np => ?_⟩
          exact q _ _ (.f2 true e1 e2) (ff.trans (Fd.new np)) (dr5.ext (same_upd np)) ⟨ok1, ok2⟩ (by show max e1.ht e2.ht + 1 ≤ k + 1; omega) (.tup (.inl (.inl upd_same)) (.cons (.str _) (.cons (Dp.ext (same_upd np) _ _ dp15) (.cons (Dp.ext (same_upd np) _ _ dp25) .nil))))
        · refine ⟨wp, _, _, _, rfl, rfl, .of ew, atI_nat (j := 1) rfl, _, rfl, _, rfl, by show 3 ≤ sizeLine; decide, fun p np => ?_⟩
          exact q _ _ (.f2 false e1 e2) (ff.trans (Fd.new np)) (dr5.ext (same_upd np)) ⟨ok1, ok2⟩ (by show max e1.ht e2.ht + 1 ≤ k + 1; omega) (.tup (.inl (.inl upd_same)) (.cons (.str _) (.cons (Dp.ext (same_upd np) _ _ dp15) (.cons (Dp.ext (same_upd np) _ _ dp25) .nil))))
      · refine ⟨_, rfl, _, rfl, _, rfl, _, rfl, _, _, rfl, rfl, d, c, k, dec d, by omega, dr3, fun H4 p3 e3 f4 dr4 ok3 ht3 dp3 => ?_⟩
        have dp14 := Dp.fd dr3.lst f4 _ _ (ex_only e1) dp13
        have dp24 := Dp.fd dr3.lst f4 _ _ (ex_only e2) dp2
        refine ⟨by show 4 ≤ sizeLine; decide, fun p np => ?_⟩
        exact q _ _ (.f3 e1 e2 e3) ((((f1.trans f2).trans f3).trans f4).trans (Fd.new np)) (dr4.ext (same_upd np)) ⟨ok1, ok2, ok3⟩ (by show max e1.ht (max e2.ht e3.ht) + 1 ≤ k + 1; omega) (.tup (.inl (.inl upd_same)) (.cons (.str _) (.cons (Dp.ext (same_upd np) _ _ dp14) (.cons (Dp.ext (same_upd np) _ _ dp24) (.cons (Dp.ext (same_upd np) _ _ dp3) .nil)))))
theorem cl_lex {f : Addr} {fd : FuncData} (F : Fun K "_law_expression" "_law_expression" s__law_expression f fd) (M : Mg mg) (g : mg "_law_expression" = some (.ref f)) (b : Binds K fd ["draw", "depth"] []) (c__law_next : Cl P w K mg base 1 "_law_next" sp_next) (c__law_signs : Cl P w K mg base 1 "_law_signs" sp_signs) (c__law_leaf : Cl P w K mg base 3 "_law_leaf" (sp_lleaf K)) : ∀ n, Cl P w K mg base (n + 3) "_law_expression" (sp_lex K n)
  | 0 => FnOk.cl (P := P) (w := w) (base := base) (F.ok sc__law_expression (fun vs H Q E h => by obtain ⟨d, c, m, rfl, _⟩ := h; rfl) (fun cdv A outer s H vs Q E hr h => by obtain ⟨d, c, m, rfl, hm, _⟩ := h; omega)) F g b
  | n + 1 => FnOk.cl (ok_lex n F M c__law_next c__law_signs c__law_leaf (cl_lex F M g b c__law_next c__law_signs c__law_leaf n)) F g b
end
/-! ### the law's printing -/
def LV0 : List (Key × V) := [(.inr "or", .int 1), (.inr "and", .int 2), (.inr "not", .int 3), (.inr "<", .int 4), (.inr "<=", .int 4), (.inr "=", .int 4), (.inr "!=", .int 4), (.inr ">=", .int 4), (.inr ">", .int 4), (.inr "+", .int 5), (.inr "-", .int 5), (.inr "*", .int 6)]
def LVL : List (Key × V) := putK (putK (putK (mergeK [] LV0) (.inr "div") (.int 6)) (.inr "mod") (.int 6)) (.inr "negate") (.int 7)
theorem lvl_at (x : String) (n : Nat) (h : (valV LVL (.inr (Str.ofString x))).getD (.int 8) = .int n) : (valV LVL (.inr (Str.ofString x))).getD (.int 8) = .int n := h
theorem lvl (e : Ex) : (valV LVL (.inr e.wd)).getD (.int 8) = .int (e.lev : Nat) := by
  cases e with
  | bin o a b => cases o; exact lvl_at "or" 1 (by decide +kernel); exact lvl_at "and" 2 (by decide +kernel); exact lvl_at "<" 4 (by decide +kernel); exact lvl_at "<=" 4 (by decide +kernel); exact lvl_at "=" 4 (by decide +kernel); exact lvl_at "!=" 4 (by decide +kernel); exact lvl_at ">=" 4 (by decide +kernel); exact lvl_at ">" 4 (by decide +kernel); exact lvl_at "+" 5 (by decide +kernel); exact lvl_at "-" 5 (by decide +kernel); exact lvl_at "*" 6 (by decide +kernel); exact lvl_at "div" 6 (by decide +kernel); exact lvl_at "mod" 6 (by decide +kernel)
  | num n => exact lvl_at "number" 8 (by decide +kernel)
  | text l => exact lvl_at "text" 8 (by decide +kernel)
  | truth b => exact lvl_at "truth" 8 (by decide +kernel)
  | null => exact lvl_at "null" 8 (by decide +kernel)
  | name l => exact lvl_at "name" 8 (by decide +kernel)
  | field l m => exact lvl_at "field" 8 (by decide +kernel)
  | neg a => exact lvl_at "negate" 7 (by decide +kernel)
  | nt a => exact lvl_at "not" 3 (by decide +kernel)
  | f1 m a => cases m; exact lvl_at "length" 8 (by decide +kernel); exact lvl_at "missing" 8 (by decide +kernel)
  | f2 m a b => cases m; exact lvl_at "coalesce" 8 (by decide +kernel); exact lvl_at "starts" 8 (by decide +kernel)
  | f3 a b c => exact lvl_at "if" 8 (by decide +kernel)
theorem add_len {L l : List Nat} (h : L.length + l.length ≤ 5000000) : (⟨L.toArray⟩ : Str).length + (⟨l.toArray⟩ : Str).length ≤ sizeLine := by
  rw [S_len', S_len']
  exact Nat.le_trans h (by decide)
theorem add_eq (L l : List Nat) : (⟨L.toArray⟩ : Str) ++ ⟨l.toArray⟩ = ⟨(L ++ l).toArray⟩ := SX.S_cat L l
def sp_level (K : PySem.W.Frag) : Sp := fun vs H Q _ => ∃ (p : V) (e : Ex), vs = [p] ∧ Dp K H p e.d ∧ ∀ H', Same H H' → Q (.int (e.lev : Nat)) H'
def sp_atom (K : PySem.W.Frag) (n : Nat) : Sp := fun vs H Q _ => ∃ (p : V) (e : Ex), vs = [p] ∧ Dp K H p e.d ∧ e.ok ∧ e.lev = 8 ∧ e.ht < n + 1 ∧ e.ht ≤ 8 ∧ ∀ H', Same H H' → Q (.str ⟨e.pr.toArray⟩) H'
def sp_lpr (K : PySem.W.Frag) (n : Nat) : Sp := fun vs H Q _ => ∃ (p : V) (e : Ex) (k : Nat), vs = [p, .int (k : Nat)] ∧ Dp K H p e.d ∧ e.ok ∧ e.ht < n ∧ e.ht ≤ 8 ∧ k ≤ 7 ∧ ∀ H', Same H H' → Q (.str ⟨(par (decide (e.lev < k)) e.pr).toArray⟩) H'
theorem wd_form (e : Ex) (x : String) (h : (Str.ofString x == e.wd) = false) : decide (V.str e.wd = V.str (Str.ofString x)) = false := by
  refine decide_eq_false fun z => ?_
  rw [V.str.inj z] at h
  have : (Str.ofString x == Str.ofString x) = true := beq_self_eq_true _
  rw [this] at h
  cases h
theorem Bop.lv1 (o : Bop) : 1 ≤ o.lv := by cases o <;> decide
theorem lev1 (e : Ex) : 1 ≤ e.lev := by
  cases e with
  | bin o a b => exact o.lv1
  | nt a => exact (by decide : 1 ≤ 3)
  | neg a => exact (by decide : 1 ≤ 7)
  | _ => exact (by decide : 1 ≤ 8)
theorem par1 (e : Ex) : par (decide (e.lev < 1)) e.pr = e.pr := by
  have := lev1 e
  rw [decide_eq_false (show ¬ e.lev < 1 by omega)]
  rfl
theorem par8 (e : Ex) (k : Nat) (h : e.lev = 8) (hk : k ≤ 7) : par (decide (e.lev < k)) e.pr = e.pr := by
  rw [decide_eq_false (show ¬ e.lev < k by omega)]
  rfl
section
variable {P : Program} {w : World} {K : PySem.W.Frag} {mg : Str → Option Value} {base : Heap}
theorem ok_level {f : Addr} {fd : FuncData} (F : Fun K "_law_level" "_law_level" s__law_level f fd) (M : Mg mg) : FnOk P w K mg base CX0 1 f fd ["expression"] (sp_level K) := by
  refine F.ok sc__law_level (fun vs H Q E h => ?_) (fun cdv A outer s H vs Q E hr h => ?_)
  · obtain ⟨p, e, rfl, _⟩ := h
    rfl
  · obtain ⟨p, e, rfl, he, q⟩ := h
    obtain ⟨a, ys, rfl, hs⟩ := ex_word he
    refine ⟨_, (pss_cons (ps_set (i := 1) sc__law_level.nd rfl (.inl rfl) (pe_disp (pps_cons pe_str pe_int (pps_cons pe_str pe_int (pps_cons pe_str pe_int (pps_cons pe_str pe_int (pps_cons pe_str pe_int (pps_cons pe_str pe_int (pps_cons pe_str pe_int (pps_cons pe_str pe_int (pps_cons pe_str pe_int (pps_cons pe_str pe_int (pps_cons pe_str pe_int (pps_cons pe_str pe_int pps_nil)))))))))))) (by rfl) (by rfl) (fun z => by cases z) (by decide)))
      (pss_cons (ps_dput (hu_of hr) (pv 1) pe_str pe_int rfl)
      (pss_cons (ps_dput (hu_of hr) (pv 1) pe_str pe_int rfl)
      (pss_cons (ps_dput (hu_of hr) (pv 1) pe_str pe_int rfl)
      (pss_one (ps_ret (pe_dget2 (hu_of hr) (pv 1) (pe_ix (ix_tupK K) (pv 0) pe_int (fun _ _ => rfl)) pe_int ⟨rfl, rfl, rfl, rfl⟩))))))), ?_⟩
    refine fun D nD => ?_
    refine ⟨upd_same, LV0, rfl, by decide, ?_⟩
    refine ⟨_, rfl, D, _, rfl, .inl ⟨mergeK [] LV0, .inr "div", upd_same, rfl, by decide +kernel, rfl⟩, ?_⟩
    refine ⟨_, rfl, D, _, rfl, .inl ⟨_, .inr "mod", upd_same, rfl, by decide +kernel, rfl⟩, ?_⟩
    refine ⟨_, rfl, D, _, rfl, .inl ⟨_, .inr "negate", upd_same, rfl, by decide +kernel, rfl⟩, ?_⟩
    refine ⟨_, rfl, D, rfl, .inl ⟨_, .inl upd_same⟩, ?_⟩
    have ss : Same H (upd (upd (upd (upd (upd H D (.dK [])) D (.dK (mergeK [] LV0))) D (.dK (putK (mergeK [] LV0) (.inr "div") (.int 6)))) D (.dK (putK (putK (mergeK [] LV0) (.inr "div") (.int 6)) (.inr "mod") (.int 6)))) D (.dK LVL)) := fun b o z => by
      have nb : b ≠ D := ne_of_none z nD
      rw [upd_ne nb, upd_ne nb, upd_ne nb, upd_ne nb, upd_ne nb]
      exact z
    refine ⟨_, rfl, a, _, _, _, rfl, rfl, SqT.ext ss hs, atI_nat (j := 0) rfl, _, .inl ⟨LVL, .inr e.wd, .inl upd_same, rfl, rfl⟩, ?_⟩
    rw [lvl]
    exact q _ ss
theorem ok_atom {f : Addr} {fd : FuncData} (n : Nat) (F : Fun K "_law_print_atom" "_law_print_atom" s__law_print_atom f fd) (M : Mg mg) (c__law_quoted : Cl P w K mg base 1 "_law_quoted" sp_quoted) (c__law_print : Cl P w K mg base (2 * n + 2) "_law_print" (sp_lpr K n)) : FnOk P w K mg base CX0 (2 * n + 3) f fd ["expression"] (sp_atom K n) := by
  refine F.ok sc__law_print_atom (fun vs H Q E h => ?_) (fun cdv A outer s H vs Q E hr h => ?_)
  · obtain ⟨p, e, rfl, _⟩ := h
    rfl
  · obtain ⟨p, e, rfl, he, ok, h8l, hn, h8, q⟩ := h
    have hlen := pr_le ok h8
    refine ⟨_, (pss_cons (ps_set (i := 1) sc__law_print_atom.nd rfl (.inl rfl) (pe_ix (ix_tupK K) (pv 0) pe_int (fun _ _ => rfl)))
      (pss_cons (ps_if (pt_cmpR op_eq (pv 1) pe_str (nomark _)) (pss_one (ps_ret (pe_callTy call_str_int (by rfl) M.str (by decide +kernel) (pa_cons (pe_ix (ix_tupK K) (pv 0) pe_int (fun _ _ => rfl)) pa_nil)))) pss_nil)
      (pss_cons (ps_if (pt_cmpR op_eq (pv 1) pe_str (nomark _)) (pss_one (ps_ret (pe_u c__law_quoted hr (by first | decide | omega) (by rfl) (pa_cons (pe_ix (ix_tupK K) (pv 0) pe_int (fun _ _ => rfl)) pa_nil)))) pss_nil)
      (pss_cons (ps_if (pt_cmpR op_eq (pv 1) pe_str (nomark _)) (pss_one (ps_ret (pe_ix (ix_listK K) (pe_lst (pa_cons pe_str (pa_cons pe_str pa_nil))) (pe_ix (ix_tupK K) (pv 0) pe_int (fun _ _ => rfl)) (fun _ _ => rfl)))) pss_nil)
      (pss_cons (ps_if (pt_cmpR op_eq (pv 1) pe_str (nomark _)) (pss_one (ps_ret (pe_op op_add_str (pe_op op_add_str (pe_ix (ix_tupK K) (pv 0) pe_int (fun _ _ => rfl)) pe_str) (pe_ix (ix_tupK K) (pv 0) pe_int (fun _ _ => rfl))))) pss_nil)
      (pss_cons (ps_if (pt_cmpR op_eq (pv 1) pe_str (nomark _)) (pss_one (ps_ret (pe_ix (ix_tupK K) (pv 0) pe_int (fun _ _ => rfl)))) pss_nil)
      (pss_cons (ps_if (pt_cmpR op_eq (pv 1) pe_str (nomark _)) (pss_one (ps_ret pe_str)) pss_nil)
      (pss_one (ps_ret (pe_op op_add_str (pe_op op_add_str (pe_op op_add_str (pv 1) pe_str) (pe_join pe_str (pe_lc (own := [("part", 2)]) (g := gName 2) (tt := tYes) rfl sc__law_print_atom.nd (pi_tup (pe_slice sl_tup (pv 0) (po_some pe_int) po_none)) (blkOk_by (N := N__law_print_atom) (sc := defScope s__law_print_atom) (by decide +kernel)) (fun _ _ _ _ _ => (pg_name (i := 2) sc__law_print_atom.nd rfl (.inl rfl))) (fun _ _ _ _ _ => pts_nil) (fun _ _ _ _ _ => (pe_u c__law_print hr (by first | decide | omega) (by rfl) (pa_cons (pv 2) (pa_cons pe_int pa_nil))))))) pe_str)))))))))), ?_⟩
    by_cases hf : e.isf = true
    · rw [fn_d hf] at he
      obtain ⟨a, xs, rfl, hs, ha⟩ := dp_tup he
      obtain ⟨vs, rfl, h2⟩ := dp_cons ha
      obtain ⟨few1, few3⟩ := fn_few hf
      have hall := fn_all hf ok
      obtain ⟨wl, ww⟩ := fn_wd hf
      have ne : ∀ x : String, x ∈ ["number", "text", "truth", "field", "name", "null"] → decide (V.str e.wd = V.str (Str.ofString x)) = false := by
        intro x hx
        refine wd_form e x ?_
        simp only [List.mem_cons, List.not_mem_nil, or_false] at hx
        rcases ww with z | z | z | z | z <;> rw [z] <;> rcases hx with rfl | rfl | rfl | rfl | rfl | rfl <;> decide +kernel
      refine ⟨_, rfl, a, _, _, _, rfl, rfl, hs, atI_nat (j := 0) rfl, ?_⟩
      refine ⟨_, rfl, rfl, _, rfl, ?_⟩
      rw [ne "number" (by decide)]
      refine iteF ⟨_, rfl, rfl, _, rfl, ?_⟩
      rw [ne "text" (by decide)]
      refine iteF ⟨_, rfl, rfl, _, rfl, ?_⟩
      rw [ne "truth" (by decide)]
      refine iteF ⟨_, rfl, rfl, _, rfl, ?_⟩
      rw [ne "field" (by decide)]
      refine iteF ⟨_, rfl, rfl, _, rfl, ?_⟩
      rw [ne "name" (by decide)]
      refine iteF ⟨_, rfl, rfl, _, rfl, ?_⟩
      rw [ne "null" (by decide)]
      refine iteF ?_
      have hw : (⟨e.wd.cps.toList.toArray⟩ : Str) = e.wd := SX.S_tl e.wd
      have hwl : e.wd.cps.toList.length = e.wd.length := Array.length_toList
      have hp := fn_pr hf
      have hl := congrArg List.length hp
      rw [List.length_append, List.length_cons, List.length_append, List.length_singleton] at hl
      refine ⟨_, rfl, ?_⟩
      rw [← hw]
      refine ⟨_, _, rfl, rfl, add_len (l := [40]) (by show _ + 1 ≤ _; omega), ?_⟩
      rw [show (⟨e.wd.cps.toList.toArray⟩ : Str) ++ Str.ofString "(" = (⟨(e.wd.cps.toList ++ [40] : List Nat).toArray⟩ : Str) from add_eq _ [40]]
      refine ⟨⟨_, rfl⟩, _, rfl, _, rfl, a, _, rfl, by rw [hw] at *; exact hs, by show ¬ (1 = 0 ∧ _); exact fun z => absurd z.1 (by decide), fun D1 nD1 => ?_⟩
      have hvs : vs.length = e.fargs.length := by rw [DpAll.len h2, List.length_map]
      have hcut : cutV (V.str e.wd :: vs) (some 1) none = vs := by
        show ((V.str e.wd :: vs).drop 1).take (vs.length + 1 - 1) = vs
        simp
      rw [hcut]
      have s1 := same_upd nD1 (o := .tup vs)
      have hT : SqT K (upd H D1 (.tup vs)) D1 vs := .inl (.inl upd_same)
      refine ⟨D1, rfl, ⟨_, hT⟩, fun D nD => ?_⟩
      refine lc_tup (K := K) (a := D1) (xs := vs) (fun i Hi => Same (upd H D1 (.tup vs)) Hi ∧ Hi D = some (.lst (((e.fargs.take i).map fun e => (⟨e.pr.toArray⟩ : Str)).map V.str))) ⟨same_upd nD, upd_same⟩ (fun i Hi _ hp => SqT.ext hp.1 hT) (fun i x Hi hx hp => ?_) (fun Hn hp => ?_)
      · obtain ⟨si, eD⟩ := hp
        have hi : i < vs.length := (List.getElem?_eq_some_iff.mp hx).1
        have hie : i < e.fargs.length := by omega
        obtain ⟨x', hx', dx⟩ := DpAll.get (i := i) (d := (e.fargs[i]).d) h2 (by rw [List.getElem?_map, List.getElem?_eq_getElem hie]; rfl)
        obtain rfl : x = x' := Option.some.inj (hx.symm.trans hx')
        obtain ⟨xok, xht⟩ := hall _ (List.getElem_mem hie)
        refine ⟨rfl, ?_⟩
        refine ⟨_, rfl, x, e.fargs[i], 1, rfl, Dp.ext (s1.trans si) _ _ dx, xok, by omega, by omega, by decide, fun H' s' => ?_⟩
        rw [par1]
        refine ⟨_, s' _ _ eD, ?_, ?_, ?_⟩
        · rw [List.length_map, List.length_map, List.length_take]
          exact Nat.lt_of_lt_of_le (m := 1001) (by omega) (by decide)
        · intro b o z
          have nb : b ≠ D := ne_of_none z nD
          rw [upd_ne nb]
          exact s' _ _ (si _ _ z)
        · rw [upd_same, List.take_add_one, List.getElem?_eq_getElem hie, List.map_append, List.map_append]
          rfl
      · obtain ⟨sn, eD⟩ := hp
        rw [hvs, List.take_length] at eD
        have hsum := sum_pr e.fargs fun x hx => ⟨(hall x hx).1, by have := (hall x hx).2; omega⟩
        refine ⟨_, D, _, rfl, rfl, .inl (.of eD), ?_, ?_⟩
        · rw [List.length_map]
          show _ + e.fargs.length * 2 ≤ 16777216
          omega
        · rw [join_pr]
          refine ⟨_, _, rfl, rfl, add_len (L := e.wd.cps.toList ++ [40]) (by rw [List.length_append]; show _ + 1 + _ ≤ _; omega), ?_⟩
          rw [add_eq]
          refine ⟨_, _, rfl, rfl, add_len (L := e.wd.cps.toList ++ [40] ++ _) (l := [41]) (by rw [List.length_append, List.length_append]; show _ + 1 + _ + 1 ≤ _; omega), ?_⟩
          rw [show (⟨(e.wd.cps.toList ++ [40] ++ TL.joinL [44, 32] (e.fargs.map Ex.pr) : List Nat).toArray⟩ : Str) ++ Str.ofString ")" = (⟨(e.wd.cps.toList ++ [40] ++ TL.joinL [44, 32] (e.fargs.map Ex.pr) ++ [41] : List Nat).toArray⟩ : Str) from add_eq _ [41]]
          have fin := q Hn ((s1.trans sn))
          rw [hp] at fin
          have he2 : e.wd.cps.toList ++ [40] ++ TL.joinL [44, 32] (e.fargs.map Ex.pr) ++ [41] = e.wd.cps.toList ++ 40 :: (TL.joinL [44, 32] (e.fargs.map Ex.pr) ++ [41]) := by simp
          rw [← he2] at fin
          exact fin
    cases e with
    | num n =>
      obtain ⟨a, xs, rfl, hs, ha⟩ := dp_tup he
      obtain ⟨v, rfl, hv⟩ := dp_two ha
      cases hv
      refine ⟨_, rfl, a, _, _, _, rfl, rfl, hs, atI_nat (j := 0) rfl, ?_⟩
      refine ⟨_, rfl, rfl, _, rfl, iteT ?_⟩
      refine ⟨_, rfl, a, _, _, _, rfl, rfl, hs, atI_nat (j := 1) rfl, _, rfl, num_log ok, ?_⟩
      rw [num_S]
      exact q H (Same.refl H)
    | text l =>
      obtain ⟨a, xs, rfl, hs, ha⟩ := dp_tup he
      obtain ⟨v, rfl, hv⟩ := dp_two ha
      cases hv
      have ol : l.length ≤ 100 := ok.1
      refine ⟨_, rfl, a, _, _, _, rfl, rfl, hs, atI_nat (j := 0) rfl, ?_⟩
      refine ⟨_, rfl, rfl, _, rfl, iteF ?_⟩
      refine ⟨_, rfl, rfl, _, rfl, iteT ?_⟩
      exact ⟨_, rfl, a, _, _, _, rfl, rfl, hs, atI_nat (j := 1) rfl, l, rfl, by omega, q H (Same.refl H)⟩
    | truth b =>
      obtain ⟨a, xs, rfl, hs, ha⟩ := dp_tup he
      obtain ⟨v, rfl, hv⟩ := dp_two ha
      cases hv
      refine ⟨_, rfl, a, _, _, _, rfl, rfl, hs, atI_nat (j := 0) rfl, ?_⟩
      refine ⟨_, rfl, rfl, _, rfl, iteF ?_⟩
      refine ⟨_, rfl, rfl, _, rfl, iteF ?_⟩
      refine ⟨_, rfl, rfl, _, rfl, iteT ?_⟩
      refine ⟨by show 2 ≤ sizeLine; decide, fun D nD => ?_⟩
      have s1 := same_upd nD (o := .lst [.str "false", .str "true"])
      refine ⟨_, rfl, a, _, _, _, rfl, rfl, SqT.ext s1 hs, atI_nat (j := 1) rfl, ?_⟩
      cases b
      · exact ⟨D, _, _, _, rfl, rfl, .of upd_same, atI_nat (j := 0) rfl, q _ s1⟩
      · exact ⟨D, _, _, _, rfl, rfl, .of upd_same, atI_nat (j := 1) rfl, q _ s1⟩
    | null =>
      obtain ⟨a, ys, rfl, hs⟩ := ex_word he
      refine ⟨_, rfl, a, _, _, _, rfl, rfl, hs, atI_nat (j := 0) rfl, ?_⟩
      refine ⟨_, rfl, rfl, _, rfl, iteF ?_⟩
      refine ⟨_, rfl, rfl, _, rfl, iteF ?_⟩
      refine ⟨_, rfl, rfl, _, rfl, iteF ?_⟩
      refine ⟨_, rfl, rfl, _, rfl, iteF ?_⟩
      refine ⟨_, rfl, rfl, _, rfl, iteF ?_⟩
      refine ⟨_, rfl, rfl, _, rfl, iteT ?_⟩
      exact q H (Same.refl H)
    | name l =>
      obtain ⟨a, xs, rfl, hs, ha⟩ := dp_tup he
      obtain ⟨v, rfl, hv⟩ := dp_two ha
      cases hv
      refine ⟨_, rfl, a, _, _, _, rfl, rfl, hs, atI_nat (j := 0) rfl, ?_⟩
      refine ⟨_, rfl, rfl, _, rfl, iteF ?_⟩
      refine ⟨_, rfl, rfl, _, rfl, iteF ?_⟩
      refine ⟨_, rfl, rfl, _, rfl, iteF ?_⟩
      refine ⟨_, rfl, rfl, _, rfl, iteF ?_⟩
      refine ⟨_, rfl, rfl, _, rfl, iteT ?_⟩
      exact ⟨_, rfl, a, _, _, _, rfl, rfl, hs, atI_nat (j := 1) rfl, q H (Same.refl H)⟩
    | field l m =>
      obtain ⟨a, xs, rfl, hs, ha⟩ := dp_tup he
      obtain ⟨v, u, rfl, hv, hu⟩ := dp_three ha
      cases hv
      cases hu
      have ol : l.length ≤ 21 := ok.1
      have om : m.length ≤ 21 := ok.2
      refine ⟨_, rfl, a, _, _, _, rfl, rfl, hs, atI_nat (j := 0) rfl, ?_⟩
      refine ⟨_, rfl, rfl, _, rfl, iteF ?_⟩
      refine ⟨_, rfl, rfl, _, rfl, iteF ?_⟩
      refine ⟨_, rfl, rfl, _, rfl, iteF ?_⟩
      refine ⟨_, rfl, rfl, _, rfl, iteT ?_⟩
      refine ⟨_, rfl, a, _, _, _, rfl, rfl, hs, atI_nat (j := 1) rfl, ?_⟩
      refine ⟨_, _, rfl, rfl, add_len (l := [46]) (by show l.length + 1 ≤ _; omega), ?_⟩
      rw [show (⟨l.toArray⟩ : Str) ++ Str.ofString "." = (⟨(l ++ [46] : List Nat).toArray⟩ : Str) from SX.S_cat l [46]]
      refine ⟨_, rfl, a, _, _, _, rfl, rfl, hs, atI_nat (j := 2) rfl, ?_⟩
      refine ⟨_, _, rfl, rfl, add_len (L := l ++ [46]) (l := m) (by rw [List.length_append]; show l.length + 1 + _ ≤ _; omega), ?_⟩
      rw [add_eq (l ++ [46]) m]
      have fin := q H (Same.refl H)
      rw [show (Ex.field l m).pr = l ++ [46] ++ m by show l ++ 46 :: m = _; simp] at fin
      exact fin
    | neg x => cases h8l
    | nt x => cases h8l
    | bin o x y => cases o <;> cases h8l
    | _ => exact absurd rfl hf
theorem ok_lpr {f : Addr} {fd : FuncData} (n : Nat) (F : Fun K "_law_print" "_law_print" s__law_print f fd) (M : Mg mg) (c__law_level : Cl P w K mg base 1 "_law_level" (sp_level K)) (c__law_print : Cl P w K mg base (2 * n + 2) "_law_print" (sp_lpr K n)) (c__law_print_atom : Cl P w K mg base (2 * n + 3) "_law_print_atom" (sp_atom K n)) : FnOk P w K mg base CX0 (2 * n + 4) f fd ["expression", "wanted"] (sp_lpr K (n + 1)) := by
  refine F.ok sc__law_print (fun vs H Q E h => ?_) (fun cdv A outer s H vs Q E hr h => ?_)
  · obtain ⟨p, e, k, rfl, _⟩ := h
    rfl
  · obtain ⟨p, e, k, rfl, he, ok, hn, h8, hk, q⟩ := h
    have hlen := pr_le ok h8
    obtain ⟨t, ht, hq⟩ : ∃ t, PSs (cxOf CX0 P w K mg base N__law_print "_law_print" (defScope s__law_print) f cdv A outer s H E).nox ((defBody s__law_print).drop 3) t ∧ ∀ (H' : Hp) (y : Option V), Same H H' → t { nx := fun _ H' => Q .non H', rt := Q } [some p, some (.int (k : Nat)), some (.int (e.lev : Nat)), some (.str ⟨e.pr.toArray⟩), y] H' := by
      refine ⟨_, (pss_cons (ps_if (pt_cmpR op_lt (pv 2) (pv 1) (nomark _)) (pss_one (ps_ret (pe_op op_add_str (pe_op op_add_str pe_str (pv 3)) pe_str))) pss_nil)
      (pss_one (ps_ret (pv 3)))), fun H' y s' => ?_⟩
      have fin := q H' s'
      refine ⟨_, rfl, _, rfl, _, _, rfl, rfl, _, rfl, ite2 (fun z => ?_) (fun z => ?_)⟩
      · have z1 : ((e.lev : Nat) : Int) < ((k : Nat) : Int) := of_decide_eq_true z
        have z2 : decide (e.lev < k) = true := decide_eq_true (by omega)
        rw [z2] at fin
        refine ⟨_, rfl, _, _, rfl, rfl, add_len (L := [40]) (by show 1 + _ ≤ _; omega), ?_⟩
        rw [show Str.ofString "(" ++ (⟨e.pr.toArray⟩ : Str) = (⟨([40] ++ e.pr : List Nat).toArray⟩ : Str) from add_eq [40] _]
        refine ⟨_, _, rfl, rfl, add_len (L := [40] ++ e.pr) (l := [41]) (by rw [List.length_append]; show 1 + _ + 1 ≤ _; omega), ?_⟩
        rw [show (⟨([40] ++ e.pr : List Nat).toArray⟩ : Str) ++ Str.ofString ")" = (⟨([40] ++ e.pr ++ [41] : List Nat).toArray⟩ : Str) from add_eq _ [41]]
        exact fin
      · have z1 : ¬ ((e.lev : Nat) : Int) < ((k : Nat) : Int) := fun y => z (decide_eq_true y)
        have z2 : decide (e.lev < k) = false := decide_eq_false (by omega)
        rw [z2] at fin
        exact ⟨_, rfl, fin⟩
    refine ⟨_, (pss_cons (ps_set (i := 2) sc__law_print.nd rfl (.inl rfl) (pe_u c__law_level hr (by first | decide | omega) (by rfl) (pa_cons (pv 0) pa_nil)))
      (pss_cons (ps_if (pt_cmpR op_eq (pv 2) pe_int (nomark _)) (pss_one (ps_ret (pe_u c__law_print_atom hr (by first | decide | omega) (by rfl) (pa_cons (pv 0) pa_nil)))) pss_nil)
      (pss_cons (ps_if (pt_cmpR op_eq (pv 2) pe_int (nomark _)) (pss_one (ps_set (i := 3) sc__law_print.nd rfl (.inl rfl) (pe_op op_add_str pe_str (pe_u c__law_print hr (by first | decide | omega) (by rfl) (pa_cons (pe_ix (ix_tupK K) (pv 0) pe_int (fun _ _ => rfl)) (pa_cons pe_int pa_nil)))))) (pss_one (ps_if (pt_cmpR op_eq (pv 2) pe_int (nomark _)) (pss_one (ps_set (i := 3) sc__law_print.nd rfl (.inl rfl) (pe_op op_add_str pe_str (pe_u c__law_print hr (by first | decide | omega) (by rfl) (pa_cons (pe_ix (ix_tupK K) (pv 0) pe_int (fun _ _ => rfl)) (pa_cons pe_int pa_nil)))))) (pss_cons (ps_set (i := 4) sc__law_print.nd rfl (.inl rfl) (pe_u c__law_print hr (by first | decide | omega) (by rfl) (pa_cons (pe_ix (ix_tupK K) (pv 0) pe_int (fun _ _ => rfl)) (pa_cons (pe_op op_add (pv 2) (pe_callTy call_int1 (by rfl) M.int (by decide +kernel) (pa_cons (pe_cmpR op_eq (pv 2) pe_int (nomark _)) pa_nil))) pa_nil))))
      (pss_one (ps_set (i := 3) sc__law_print.nd rfl (.inl rfl) (pe_op op_add_str (pe_op op_add_str (pe_op op_add_str (pe_op op_add_str (pv 4) pe_str) (pe_ix (ix_tupK K) (pv 0) pe_int (fun _ _ => rfl))) pe_str) (pe_u c__law_print hr (by first | decide | omega) (by rfl) (pa_cons (pe_ix (ix_tupK K) (pv 0) pe_int (fun _ _ => rfl)) (pa_cons (pe_op op_add (pv 2) pe_int) pa_nil))))))))))
      ht))), ?_⟩
    refine ⟨_, rfl, p, e, rfl, he, fun H1 s1 => ?_⟩
    have he1 := Dp.ext s1 _ _ he
    by_cases h8l : e.lev = 8
    · refine ⟨_, rfl, rfl, _, rfl, ?_⟩
      rw [h8l]
      refine iteT ⟨_, rfl, p, e, rfl, he1, ok, h8l, hn, h8, fun H2 s2 => ?_⟩
      have fin := q H2 (s1.trans s2)
      rw [par8 e k h8l hk] at fin
      exact fin
    refine ⟨_, rfl, rfl, _, rfl, ?_⟩
    rw [show decide (V.int (e.lev : Nat) = V.int 8) = false from decide_eq_false fun z => h8l (by have := V.int.inj z; omega)]
    refine iteF ?_
    cases e with
    | num n => exact absurd rfl h8l
    | text n => exact absurd rfl h8l
    | truth n => exact absurd rfl h8l
    | null => exact absurd rfl h8l
    | name n => exact absurd rfl h8l
    | field n m => exact absurd rfl h8l
    | f1 m a => exact absurd rfl h8l
    | f2 m a b => exact absurd rfl h8l
    | f3 a b c => exact absurd rfl h8l
    | neg x =>
      obtain ⟨a, xs, rfl, hs, ha⟩ := dp_tup he1
      obtain ⟨v, rfl, hv⟩ := dp_two ha
      have hx : x.ht + 1 < n + 1 := hn
      have hx8 : x.ht + 1 ≤ 8 := h8
      have pl := par_len (decide (x.lev < 7)) x.pr
      have xl := pr_le (e := x) ok (by omega)
      refine ⟨_, rfl, rfl, _, rfl, iteT ?_⟩
      refine ⟨_, rfl, a, _, _, _, rfl, rfl, hs, atI_nat (j := 1) rfl, v, x, 7, rfl, hv, ok, by omega, by omega, by decide, fun H' s' => ?_⟩
      refine ⟨_, _, rfl, rfl, add_len (L := [45]) (by show 1 + _ ≤ _; omega), ?_⟩
      rw [show Str.ofString "-" ++ (⟨(par (decide (x.lev < 7)) x.pr).toArray⟩ : Str) = (⟨([45] ++ par (decide (x.lev < 7)) x.pr : List Nat).toArray⟩ : Str) from add_eq [45] _]
      exact hq H' _ (s1.trans s')
    | nt x =>
      obtain ⟨a, xs, rfl, hs, ha⟩ := dp_tup he1
      obtain ⟨v, rfl, hv⟩ := dp_two ha
      have hx : x.ht + 1 < n + 1 := hn
      have hx8 : x.ht + 1 ≤ 8 := h8
      have pl := par_len (decide (x.lev < 3)) x.pr
      have xl := pr_le (e := x) ok (by omega)
      refine ⟨_, rfl, rfl, _, rfl, iteF ?_⟩
      refine ⟨_, rfl, rfl, _, rfl, iteT ?_⟩
      refine ⟨_, rfl, a, _, _, _, rfl, rfl, hs, atI_nat (j := 1) rfl, v, x, 3, rfl, hv, ok, by omega, by omega, by decide, fun H' s' => ?_⟩
      refine ⟨_, _, rfl, rfl, add_len (L := codes "not ") (by rw [show (codes "not ").length = 4 by decide]; omega), ?_⟩
      rw [show Str.ofString "not " ++ (⟨(par (decide (x.lev < 3)) x.pr).toArray⟩ : Str) = (⟨(codes "not " ++ par (decide (x.lev < 3)) x.pr : List Nat).toArray⟩ : Str) from add_eq (codes "not ") _]
      exact hq H' _ (s1.trans s')
    | bin o x y =>
      obtain ⟨a, xs, rfl, hs, ha⟩ := dp_tup he1
      obtain ⟨v, u, rfl, hv, hu⟩ := dp_three ha
      have hx : max x.ht y.ht + 1 < n + 1 := hn
      have hx8 : max x.ht y.ht + 1 ≤ 8 := h8
      have pl1 := par_len (decide (x.lev < o.lf)) x.pr
      have pl2 := par_len (decide (y.lev < o.rt)) y.pr
      have xl := pr_le (e := x) ok.1 (by omega)
      have yl := pr_le (e := y) ok.2 (by omega)
      have ol := o.sl
      have o7 : o.lv ≠ 7 ∧ o.lv ≠ 3 ∧ o.lf ≤ 7 ∧ o.rt = o.lv + 1 ∧ o.rt ≤ 7 ∧ o.lf = (if o.lv = 4 then o.lv + 1 else o.lv) := by cases o <;> decide
      obtain ⟨o7, o3, lf7, rtv, rt7, lfv⟩ := o7
      refine ⟨_, rfl, rfl, _, rfl, ?_⟩
      rw [show decide (V.int ((Ex.bin o x y).lev : Nat) = V.int 7) = false from decide_eq_false fun z => o7 (by have := V.int.inj z; show (Ex.bin o x y).lev = 7; omega)]
      refine iteF ⟨_, rfl, rfl, _, rfl, ?_⟩
      rw [show decide (V.int ((Ex.bin o x y).lev : Nat) = V.int 3) = false from decide_eq_false fun z => o3 (by have := V.int.inj z; show (Ex.bin o x y).lev = 3; omega)]
      refine iteF ?_
      have e4 : ∀ v : V, [v, V.int (((Ex.bin o x y).lev : Nat) + (if decide (V.int ((Ex.bin o x y).lev : Nat) = V.int 4) = true then 1 else 0))] = [v, V.int (o.lf : Nat)] := fun v => by cases o <;> rfl
      have e1 : ∀ v : V, [v, V.int (((Ex.bin o x y).lev : Nat) + 1)] = [v, V.int (o.rt : Nat)] := fun v => by cases o <;> rfl
      refine ⟨_, rfl, a, _, _, _, rfl, rfl, hs, atI_nat (j := 1) rfl, _, rfl, _, rfl, rfl, .inr ⟨_, rfl, _, _, rfl, rfl, v, x, o.lf, e4 v, hv, ok.1, by omega, by omega, lf7, fun H2 s2 => ?_⟩⟩
      have hs2 := SqT.ext s2 hs
      refine ⟨_, rfl, _, _, rfl, rfl, add_len (l := [32]) (by show _ + 1 ≤ _; omega), ?_⟩
      rw [show (⟨(par (decide (x.lev < o.lf)) x.pr).toArray⟩ : Str) ++ Str.ofString " " = (⟨(par (decide (x.lev < o.lf)) x.pr ++ [32] : List Nat).toArray⟩ : Str) from add_eq _ [32]]
      have ow : o.w = ⟨(codes o.s).toArray⟩ := codes_S _
      rw [ow] at hs2
      refine ⟨_, rfl, a, _, _, _, rfl, rfl, hs2, atI_nat (j := 0) rfl, _, _, rfl, rfl, add_len (by rw [List.length_append]; show _ + 1 + _ ≤ _; omega), ?_⟩
      rw [add_eq]
      refine ⟨_, _, rfl, rfl, add_len (l := [32]) (by rw [List.length_append, List.length_append]; show _ + 1 + _ + 1 ≤ _; omega), ?_⟩
      rw [show (⟨(par (decide (x.lev < o.lf)) x.pr ++ [32] ++ codes o.s : List Nat).toArray⟩ : Str) ++ Str.ofString " " = (⟨(par (decide (x.lev < o.lf)) x.pr ++ [32] ++ codes o.s ++ [32] : List Nat).toArray⟩ : Str) from add_eq _ [32]]
      refine ⟨_, rfl, a, _, _, _, rfl, rfl, hs2, atI_nat (j := 2) rfl, _, rfl, _, _, rfl, rfl, u, y, o.rt, e1 u, Dp.ext s2 _ _ hu, ok.2, by omega, by omega, rt7, fun H3 s3 => ?_⟩
      refine ⟨_, _, rfl, rfl, add_len (by simp only [List.length_append]; show _ + 1 + _ + 1 + _ ≤ _; omega), ?_⟩
      rw [add_eq]
      have fin := hq H3 (some (.str ⟨(par (decide (x.lev < o.lf)) x.pr).toArray⟩)) ((s1.trans s2).trans s3)
      have e2 : (Ex.bin o x y).pr = par (decide (x.lev < o.lf)) x.pr ++ [32] ++ codes o.s ++ [32] ++ par (decide (y.lev < o.rt)) y.pr := by
        show par _ _ ++ 32 :: (codes o.s ++ 32 :: par _ _) = _
        simp
      rw [e2] at fin
      exact fin
theorem cl_lpr {f fa : Addr} {fd da : FuncData} (F : Fun K "_law_print" "_law_print" s__law_print f fd) (FA : Fun K "_law_print_atom" "_law_print_atom" s__law_print_atom fa da) (M : Mg mg) (g : mg "_law_print" = some (.ref f)) (b : Binds K fd ["expression", "wanted"] []) (ga : mg "_law_print_atom" = some (.ref fa)) (ba : Binds K da ["expression"] []) (c__law_level : Cl P w K mg base 1 "_law_level" (sp_level K)) (c__law_quoted : Cl P w K mg base 1 "_law_quoted" sp_quoted) : ∀ n, Cl P w K mg base (2 * n + 2) "_law_print" (sp_lpr K n)
  | 0 => FnOk.cl (P := P) (w := w) (base := base) (F.ok sc__law_print (fun vs H Q E h => by obtain ⟨p, e, k, rfl, _⟩ := h; rfl) (fun cdv A outer s H vs Q E hr h => by obtain ⟨p, e, k, rfl, _, _, hm, _⟩ := h; omega)) F g b
  | n + 1 => FnOk.cl (ok_lpr n F M c__law_level (cl_lpr F FA M g b ga ba c__law_level c__law_quoted n) (FnOk.cl (ok_atom n FA M c__law_quoted (cl_lpr F FA M g b ga ba c__law_level c__law_quoted n)) FA ga ba)) F g b
end

/-! ### queries in the heap, and their texts -/
/-- what stands stands, but for lists that L doesn't hold -/
def Ch (L : Addr → Prop) (H H' : Hp) : Prop := ∀ b o, H b = some o → (∃ xs, o = .lst xs ∧ ¬ L b) ∨ H' b = some o
theorem Ch.of {L : Addr → Prop} {H H' : Hp} (h : Same H H') : Ch L H H' := fun b o e => .inr (h b o e)
theorem Ch.trans {L : Addr → Prop} {H H1 H2 : Hp} (a : Ch L H H1) (b : Ch L H1 H2) : Ch L H H2 := fun c o e => by
  rcases a c o e with h | h
  · exact .inl h
  · exact b c o h
theorem Ch.fd {L : Addr → Prop} {H H' : Hp} {d : Addr} (hD : ∃ zs, H d = some (.lst zs)) (hL : ¬ L d) (h : Fd d H H') : Ch L H H' := fun b o e => by
  by_cases n : b = d
  · subst n
    obtain ⟨zs, hz⟩ := hD
    rw [hz] at e
    cases e
    exact .inl ⟨zs, rfl, hL⟩
  · exact .inr (h b o n e)
theorem Ch.lst {L : Addr → Prop} {H H' : Hp} {a : Addr} {xs : List V} (h : Ch L H H') (e : H a = some (.lst xs)) (hL : L a) : H' a = some (.lst xs) := by
  rcases h a _ e with ⟨_, _, n⟩ | h
  · exact absurd hL n
  · exact h
theorem Ch.tup {L : Addr → Prop} {K : PySem.W.Frag} {H H' : Hp} {a : Addr} {xs : List V} (e : Ch L H H') (h : SqT K H a xs) : SqT K H' a xs := by
  rcases h with (h | ⟨o, h⟩) | h
  · rcases e _ _ h with ⟨_, z, _⟩ | h
    · cases z
    · exact .inl (.inl h)
  · rcases e _ _ h with ⟨_, z, _⟩ | h
    · cases z
    · exact .inl (.inr ⟨o, h⟩)
  · exact .inr h
mutual
theorem Dp.ch {L : Addr → Prop} {K : PySem.W.Frag} {H H' : Hp} (e : Ch L H H') : ∀ (d : PyData) (v : V), tupOnly d = true → Dp K H v d → Dp K H' v d
  | .none, _, _, h => by cases h; exact .non
  | .bool b, _, _, h => by cases h; exact .bl b
  | .int i, _, _, h => by cases h; exact .int i
  | .str x, _, _, h => by cases h; exact .str x
  | .list ds, _, e, _ => by unfold tupOnly at e; cases e
  | .tuple ds, _, e', h => by
    unfold tupOnly at e'
    cases h with
    | tup hs ha => exact .tup (e.tup hs) (DpAll.ch e ds _ e' ha)
  | .dict _, _, _, h => by cases h
theorem DpAll.ch {L : Addr → Prop} {K : PySem.W.Frag} {H H' : Hp} (e : Ch L H H') : ∀ (ds : List PyData) (vs : List V), tupOnlys ds = true → DpAll K H vs ds → DpAll K H' vs ds
  | [], _, _, h => by cases h; exact .nil
  | d :: ds, _, e', h => by
    unfold tupOnlys at e'
    rw [Bool.and_eq_true] at e'
    cases h with
    | cons h1 h2 => exact .cons (Dp.ch e d _ e'.1 h1) (DpAll.ch e ds _ e'.2 h2)
end
inductive F2 {β : Type} (R : V → β → Prop) : List V → List β → Prop where
  | nil : F2 R [] []
  | cons {v : V} {t : β} {vs : List V} {ts : List β} (h : R v t) (r : F2 R vs ts) : F2 R (v :: vs) (t :: ts)
theorem F2.imp {β : Type} {R R' : V → β → Prop} (i : ∀ v t, R v t → R' v t) {vs : List V} {ts : List β} (h : F2 R vs ts) : F2 R' vs ts := by
  induction h with
  | nil => exact .nil
  | cons h _ ih => exact .cons (i _ _ h) ih
theorem F2.len {β : Type} {R : V → β → Prop} {vs : List V} {ts : List β} (h : F2 R vs ts) : vs.length = ts.length := by
  induction h with
  | nil => rfl
  | cons _ _ ih => rw [List.length_cons, List.length_cons, ih]
theorem F2.snoc {β : Type} {R : V → β → Prop} {vs : List V} {ts : List β} {v : V} {t : β} (h : F2 R vs ts) (k : R v t) : F2 R (vs ++ [v]) (ts ++ [t]) := by
  induction h with
  | nil => exact .cons k .nil
  | cons h _ ih => exact .cons h ih
theorem F2.get {β : Type} {R : V → β → Prop} {vs : List V} {ts : List β} (h : F2 R vs ts) : ∀ {i : Nat} {v : V}, vs[i]? = some v → ∃ t, ts[i]? = some t ∧ R v t := by
  induction h with
  | nil => intro i v e; simp at e
  | @cons v t vs ts h _ ih =>
    intro i u e
    cases i with
    | zero =>
      have : v = u := Option.some.inj e
      subst this
      exact ⟨t, rfl, h⟩
    | succ i => exact ih (i := i) (by simpa using e)
def tx (l : List Nat) : V := .str ⟨l.toArray⟩
def jl (s : List Nat) (ls : List (List Nat)) : List Nat := TL.joinL s ls
def suml (ls : List (List Nat)) : Nat := (ls.map List.length).sum
theorem jl_len (s : List Nat) : ∀ ls : List (List Nat), (jl s ls).length ≤ suml ls + ls.length * s.length
  | [] => Nat.zero_le _
  | [p] => by
    show p.length ≤ p.length + 0 + 1 * s.length
    omega
  | p :: q :: r => by
    have := jl_len s (q :: r)
    show (p ++ (s ++ jl s (q :: r))).length ≤ p.length + suml (q :: r) + ((q :: r).length + 1) * s.length
    rw [List.length_append, List.length_append, Nat.add_mul]
    omega
theorem suml_le {b : Nat} : ∀ {ls : List (List Nat)}, (∀ l ∈ ls, l.length ≤ b) → suml ls ≤ ls.length * b
  | [], _ => Nat.zero_le _
  | l :: ls, h => by
    have h1 := h l (List.mem_cons_self ..)
    have := suml_le (b := b) (ls := ls) fun x hx => h x (List.mem_cons_of_mem _ hx)
    show l.length + suml ls ≤ (ls.length + 1) * b
    rw [Nat.add_mul]
    omega
theorem suml_app (a b : List (List Nat)) : suml (a ++ b) = suml a + suml b := by
  unfold suml
  rw [List.map_append, List.sum_append]
/-- texts on the heap, joined -/
theorem jl_S (s : List Nat) (ls : List (List Nat)) : Txt.join ⟨s.toArray⟩ (ls.map fun l => (⟨l.toArray⟩ : Str)) = ⟨(jl s ls).toArray⟩ := SX.join_S s ls
theorem lens_S (ls : List (List Nat)) : ((ls.map fun l => (⟨l.toArray⟩ : Str)).map (·.length)).sum = suml ls := by
  unfold suml
  rw [List.map_map]
  exact congrArg List.sum (List.map_congr_left fun l _ => S_len' l)
def Ex.last : Ex → Option (List Nat)
  | .name l => some l | .field _ m => some m | _ => none
def outT (e : Ex) (l : List Nat) : List Nat := if e.last = some l then e.pr else e.pr ++ (codes " as " ++ l)
def RO (K : PySem.W.Frag) (H : Hp) (v : V) (t : List Nat) : Prop := ∃ a x e l, v = .ref a ∧ SqT K H a [x, tx l] ∧ Dp K H x (Ex.d e) ∧ e.ok ∧ e.ht ≤ 2 ∧ l.length ≤ 21 ∧ t = outT e l
def AGG : List String := ["distinct", "sum", "min", "max"]
def RTo (K : PySem.W.Frag) (H : Hp) (v : V) (t : List Nat) : Prop := ∃ a f l, v = .ref a ∧ SqT K H a [.ref f, tx l] ∧ l.length ≤ 21 ∧
  ((SqT K H f [.str "count"] ∧ t = codes "count" ++ (codes " as " ++ l)) ∨ ∃ w x e, w ∈ AGG ∧ SqT K H f [.str (Str.ofString w), x] ∧ Dp K H x (Ex.d e) ∧ e.ok ∧ e.ht ≤ 2 ∧ t = codes w ++ 40 :: (e.pr ++ 41 :: (codes " as " ++ l)))
def Rl {β : Type} (L : Addr → Prop) (R : V → β → Prop) (H : Hp) (v : V) (ts : List β) : Prop := ∃ a xs, v = .ref a ∧ L a ∧ H a = some (.lst xs) ∧ F2 R xs ts
def ROp (RQ : V → List (List Nat) → Prop) (K : PySem.W.Frag) (H : Hp) (v : V) (t : List Nat) : Prop := ∃ a, v = .ref a ∧
  ((∃ l m, SqT K H a [.str "named", tx l, tx m] ∧ l.length ≤ 21 ∧ m.length ≤ 21 ∧ t = if l = m then l else l ++ (codes " as " ++ m)) ∨
    ∃ q ls m, SqT K H a [.str "inside", q, tx m] ∧ m.length ≤ 21 ∧ RQ q ls ∧ t = 40 :: (jl [32] ls ++ 41 :: (codes " as " ++ m)))
def JOI : List String := ["inner", "left", "semi", "anti"]
def joiT (s : String) : String := if s = "inner" then "join" else s ++ " join"
def grT (ts us : List (List Nat)) : List Nat := jl [32] ((codes "group" :: (if ts = [] then [] else [jl [44, 32] ts])) ++ (if us = [] then [] else [codes "with", jl [44, 32] us]))
def RSt (RP : V → List Nat → Prop) (L : Addr → Prop) (K : PySem.W.Frag) (H : Hp) (v : V) (t : List Nat) : Prop := ∃ a, v = .ref a ∧
  ((∃ s o x e u, s ∈ JOI ∧ SqT K H a [.str "join", .str (Str.ofString s), o, x] ∧ RP o u ∧ Dp K H x (Ex.d e) ∧ e.ok ∧ e.ht ≤ 2 ∧ t = codes (joiT s) ++ 32 :: (u ++ (codes " on " ++ e.pr))) ∨
    (∃ x e, SqT K H a [.str "where", x] ∧ Dp K H x (Ex.d e) ∧ e.ok ∧ e.ht ≤ 2 ∧ t = codes "where " ++ e.pr) ∨
    (∃ o ts, SqT K H a [.str "select", o] ∧ Rl L (RO K H) H o ts ∧ ts.length ≤ 3 ∧ t = codes "select " ++ jl [44, 32] ts) ∨
    ∃ o p ts us, SqT K H a [.str "group", o, p] ∧ Rl L (RO K H) H o ts ∧ Rl L (RTo K H) H p us ∧ ts.length ≤ 3 ∧ us.length ≤ 3 ∧ t = grT ts us)
def SETS : List String := ["union", "except", "intersect"]
def RHow (v : V) (l : List Nat) : Prop := (v = .non ∧ l = []) ∨ ∃ s ∈ SETS, v = .str (Str.ofString s) ∧ l = codes s ++ [32]
def RC (RP RS : V → List Nat → Prop) (L : Addr → Prop) (K : PySem.W.Frag) (H : Hp) (v : V) (ls : List (List Nat)) : Prop := ∃ a b how l o p u ts, v = .ref a ∧ SqT K H a [how, .ref b] ∧ SqT K H b [o, p] ∧ RHow how l ∧ RP o u ∧ Rl L RS H p ts ∧ ts.length ≤ 3 ∧ ls = (l ++ (codes "from " ++ u)) :: ts
def RQ (L : Addr → Prop) (K : PySem.W.Frag) (H : Hp) : Nat → V → List (List Nat) → Prop
  | 0, _, _ => False
  | n + 1, v, ls => ∃ css, Rl L (RC (ROp (RQ L K H n) K H) (RSt (ROp (RQ L K H n) K H) L K H) L K H) H v css ∧ css.length ≤ 2 ∧ ls = css.flatten
/-! they stand when other lists are changed -/
section
variable {L : Addr → Prop} {K : PySem.W.Frag} {H H' : Hp}
theorem RO.ch (c : Ch L H H') {v : V} {t : List Nat} (h : RO K H v t) : RO K H' v t := by
  obtain ⟨a, x, e, l, h1, h2, h3, r⟩ := h
  exact ⟨a, x, e, l, h1, c.tup h2, Dp.ch c _ _ (ex_only e) h3, r⟩
theorem RTo.ch (c : Ch L H H') {v : V} {t : List Nat} (h : RTo K H v t) : RTo K H' v t := by
  obtain ⟨a, f, l, h1, h2, h3, h | ⟨w, x, e, h4, h5, h6, r⟩⟩ := h
  · exact ⟨a, f, l, h1, c.tup h2, h3, .inl ⟨c.tup h.1, h.2⟩⟩
  · exact ⟨a, f, l, h1, c.tup h2, h3, .inr ⟨w, x, e, h4, c.tup h5, Dp.ch c _ _ (ex_only e) h6, r⟩⟩
theorem Rl.ch {β : Type} {R R' : V → β → Prop} (c : Ch L H H') (i : ∀ v t, R v t → R' v t) {v : V} {ts : List β} (h : Rl L R H v ts) : Rl L R' H' v ts := by
  obtain ⟨a, xs, h1, h2, h3, h4⟩ := h
  exact ⟨a, xs, h1, h2, c.lst h3 h2, h4.imp i⟩
theorem ROp.ch {Rq Rq' : V → List (List Nat) → Prop} (c : Ch L H H') (i : ∀ v t, Rq v t → Rq' v t) {v : V} {t : List Nat} (h : ROp Rq K H v t) : ROp Rq' K H' v t := by
  obtain ⟨a, h1, ⟨l, m, h2, r⟩ | ⟨q, ls, m, h2, h3, h4, r⟩⟩ := h
  · exact ⟨a, h1, .inl ⟨l, m, c.tup h2, r⟩⟩
  · exact ⟨a, h1, .inr ⟨q, ls, m, c.tup h2, h3, i _ _ h4, r⟩⟩
theorem RSt.ch {Rp Rp' : V → List Nat → Prop} (c : Ch L H H') (i : ∀ v t, Rp v t → Rp' v t) {v : V} {t : List Nat} (h : RSt Rp L K H v t) : RSt Rp' L K H' v t := by
  obtain ⟨a, h1, ⟨s, o, x, e, u, hs, h2, h3, h4, r⟩ | ⟨x, e, h2, h3, r⟩ | ⟨o, ts, h2, h3, r⟩ | ⟨o, p, ts, us, h2, h3, h4, r⟩⟩ := h
  · exact ⟨a, h1, .inl ⟨s, o, x, e, u, hs, c.tup h2, i _ _ h3, Dp.ch c _ _ (ex_only e) h4, r⟩⟩
  · exact ⟨a, h1, .inr (.inl ⟨x, e, c.tup h2, Dp.ch c _ _ (ex_only e) h3, r⟩)⟩
  · exact ⟨a, h1, .inr (.inr (.inl ⟨o, ts, c.tup h2, h3.ch c fun _ _ z => z.ch c, r⟩))⟩
  · exact ⟨a, h1, .inr (.inr (.inr ⟨o, p, ts, us, c.tup h2, h3.ch c fun _ _ z => z.ch c, h4.ch c fun _ _ z => z.ch c, r⟩))⟩
theorem RC.ch {Rp Rp' Rs Rs' : V → List Nat → Prop} (c : Ch L H H') (i : ∀ v t, Rp v t → Rp' v t) (j : ∀ v t, Rs v t → Rs' v t) {v : V} {ls : List (List Nat)} (h : RC Rp Rs L K H v ls) : RC Rp' Rs' L K H' v ls := by
  obtain ⟨a, b, how, l, o, p, u, ts, h1, h2, h3, h4, h5, h6, r⟩ := h
  exact ⟨a, b, how, l, o, p, u, ts, h1, c.tup h2, c.tup h3, h4, i _ _ h5, h6.ch c j, r⟩
theorem RQ.ch (c : Ch L H H') : ∀ (n : Nat) (v : V) (ls : List (List Nat)), RQ L K H n v ls → RQ L K H' n v ls
  | 0, _, _, h => h.elim
  | n + 1, _, _, ⟨css, h1, r⟩ => ⟨css, h1.ch c fun _ _ z => z.ch c (fun _ _ y => y.ch c (RQ.ch c n)) fun _ _ y => y.ch c fun _ _ x => x.ch c (RQ.ch c n), r⟩
/-! and are the same under a wider L -/
variable {L' : Addr → Prop}
theorem Rl.wide {β : Type} {R R' : V → β → Prop} (w : ∀ a, L a → L' a) (i : ∀ v t, R v t → R' v t) {v : V} {ts : List β} (h : Rl L R H v ts) : Rl L' R' H v ts := by
  obtain ⟨a, xs, h1, h2, h3, h4⟩ := h
  exact ⟨a, xs, h1, w _ h2, h3, h4.imp i⟩
theorem ROp.wide {Rq Rq' : V → List (List Nat) → Prop} (i : ∀ v t, Rq v t → Rq' v t) {v : V} {t : List Nat} (h : ROp Rq K H v t) : ROp Rq' K H v t := by
  obtain ⟨a, h1, ⟨l, m, h2, r⟩ | ⟨q, ls, m, h2, h3, h4, r⟩⟩ := h
  · exact ⟨a, h1, .inl ⟨l, m, h2, r⟩⟩
  · exact ⟨a, h1, .inr ⟨q, ls, m, h2, h3, i _ _ h4, r⟩⟩
theorem RSt.wide (w : ∀ a, L a → L' a) {Rp Rp' : V → List Nat → Prop} (i : ∀ v t, Rp v t → Rp' v t) {v : V} {t : List Nat} (h : RSt Rp L K H v t) : RSt Rp' L' K H v t := by
  obtain ⟨a, h1, ⟨s, o, x, e, u, hs, h2, h3, h4, r⟩ | ⟨x, e, h2, h3, r⟩ | ⟨o, ts, h2, h3, r⟩ | ⟨o, p, ts, us, h2, h3, h4, r⟩⟩ := h
  · exact ⟨a, h1, .inl ⟨s, o, x, e, u, hs, h2, i _ _ h3, h4, r⟩⟩
  · exact ⟨a, h1, .inr (.inl ⟨x, e, h2, h3, r⟩)⟩
  · exact ⟨a, h1, .inr (.inr (.inl ⟨o, ts, h2, h3.wide w fun _ _ z => z, r⟩))⟩
  · exact ⟨a, h1, .inr (.inr (.inr ⟨o, p, ts, us, h2, h3.wide w fun _ _ z => z, h4.wide w fun _ _ z => z, r⟩))⟩
theorem RC.wide (w : ∀ a, L a → L' a) {Rp Rp' Rs Rs' : V → List Nat → Prop} (i : ∀ v t, Rp v t → Rp' v t) (j : ∀ v t, Rs v t → Rs' v t) {v : V} {ls : List (List Nat)} (h : RC Rp Rs L K H v ls) : RC Rp' Rs' L' K H v ls := by
  obtain ⟨a, b, how, l, o, p, u, ts, h1, h2, h3, h4, h5, h6, r⟩ := h
  exact ⟨a, b, how, l, o, p, u, ts, h1, h2, h3, h4, i _ _ h5, h6.wide w j, r⟩
theorem RQ.wide (w : ∀ a, L a → L' a) : ∀ (n : Nat) (v : V) (ls : List (List Nat)), RQ L K H n v ls → RQ L' K H n v ls
  | 0, _, _, h => h.elim
  | n + 1, _, _, ⟨css, h1, r⟩ => ⟨css, h1.wide w fun _ _ z => z.wide w (fun _ _ y => y.wide (RQ.wide w n)) fun _ _ y => y.wide w fun _ _ x => x.wide (RQ.wide w n), r⟩
/-! how long they are -/
theorem pr2 {e : Ex} (h : e.ok) (ht : e.ht ≤ 2) : e.pr.length ≤ 2010 := Nat.le_trans (pr_len e h) (mx_mono ht)
theorem as4 : (codes " as ").length = 4 := by decide
theorem RO.len {v : V} {t : List Nat} (h : RO K H v t) : t.length ≤ 2050 := by
  obtain ⟨a, x, e, l, _, _, _, ok, ht, hl, rfl⟩ := h
  have := pr2 ok ht
  unfold outT
  split
  · omega
  · rw [List.length_append, List.length_append, as4]
    omega
theorem RTo.len {v : V} {t : List Nat} (h : RTo K H v t) : t.length ≤ 2050 := by
  obtain ⟨a, f, l, _, _, hl, ⟨_, rfl⟩ | ⟨w, x, e, hw, _, _, ok, ht, rfl⟩⟩ := h
  · rw [List.length_append, List.length_append, as4, show (codes "count").length = 5 by decide]
    omega
  · have := pr2 ok ht
    have hw8 : (codes w).length ≤ 8 := by
      simp only [AGG, List.mem_cons, List.not_mem_nil, or_false] at hw
      rcases hw with rfl | rfl | rfl | rfl <;> decide
    simp only [List.length_append, List.length_cons, as4]
    omega
theorem F2.all {β : Type} {R : V → β → Prop} {p : β → Prop} (i : ∀ v t, R v t → p t) {vs : List V} {ts : List β} (h : F2 R vs ts) : ∀ t ∈ ts, p t := by
  induction h with
  | nil => intro t h; cases h
  | cons h _ ih =>
    intro t ht
    rcases List.mem_cons.mp ht with rfl | ht
    · exact i _ _ h
    · exact ih t ht
theorem F2.le {R : V → List Nat → Prop} {b : Nat} (i : ∀ v t, R v t → t.length ≤ b) {vs : List V} {ts : List (List Nat)} (h : F2 R vs ts) : ∀ t ∈ ts, t.length ≤ b := by
  induction h with
  | nil => intro t h; cases h
  | cons h _ ih =>
    intro t ht
    rcases List.mem_cons.mp ht with rfl | ht
    · exact i _ _ h
    · exact ih t ht
theorem Rl.le {R : V → List Nat → Prop} {b k : Nat} (i : ∀ v t, R v t → t.length ≤ b) {v : V} {ts : List (List Nat)} (h : Rl L R H v ts) (hk : ts.length ≤ k) : suml ts ≤ k * b := by
  obtain ⟨a, xs, _, _, _, h⟩ := h
  exact Nat.le_trans (suml_le (h.le i)) (Nat.mul_le_mul_right b hk)
/-- how long a query's lines are, together -/
def bl : Nat → Nat
  | 0 => 0
  | 1 => 76000
  | n + 2 => 8 * bl (n + 1) + 14000
theorem bl_ge : ∀ n, 76000 ≤ bl (n + 1)
  | 0 => Nat.le_refl _
  | n + 1 => by
    have := bl_ge n
    show 76000 ≤ 8 * bl (n + 1) + 14000
    omega
theorem ROp.len {Rq : V → List (List Nat) → Prop} {b : Nat} (i : ∀ v t, Rq v t → suml t + t.length ≤ b) {v : V} {t : List Nat} (h : ROp Rq K H v t) : t.length ≤ b + 50 := by
  obtain ⟨a, _, ⟨l, m, _, hl, hm, rfl⟩ | ⟨q, ls, m, _, hm, hq, rfl⟩⟩ := h
  · split
    · omega
    · rw [List.length_append, List.length_append, as4]
      omega
  · have := i _ _ hq
    have := jl_len [32] ls
    simp only [List.length_append, List.length_cons, List.length_nil, as4] at *
    omega
theorem grT_len {ts us : List (List Nat)} (h1 : suml ts ≤ 3 * 2050) (h2 : suml us ≤ 3 * 2050) (k1 : ts.length ≤ 3) (k2 : us.length ≤ 3) : (grT ts us).length ≤ 12400 := by
  have j1 := jl_len [44, 32] ts
  have j2 := jl_len [44, 32] us
  have e2 : ([44, 32] : List Nat).length = 2 := rfl
  rw [e2] at j1 j2
  unfold grT
  refine Nat.le_trans (jl_len _ _) ?_
  rw [suml_app, List.length_append]
  have a1 : suml (codes "group" :: (if ts = [] then [] else [jl [44, 32] ts])) ≤ 5 + (jl [44, 32] ts).length ∧ (codes "group" :: (if ts = [] then [] else [jl [44, 32] ts])).length ≤ 2 := by
    split
    · exact ⟨by show (codes "group").length + 0 ≤ _; rw [show (codes "group").length = 5 by decide]; omega, by decide⟩
    · exact ⟨by show (codes "group").length + ((jl [44, 32] ts).length + 0) ≤ _; rw [show (codes "group").length = 5 by decide]; omega, Nat.le_refl 2⟩
  have a2 : suml (if us = [] then [] else [codes "with", jl [44, 32] us]) ≤ 4 + (jl [44, 32] us).length ∧ (if us = [] then [] else [codes "with", jl [44, 32] us]).length ≤ 2 := by
    split
    · exact ⟨Nat.zero_le _, by decide⟩
    · exact ⟨by show (codes "with").length + ((jl [44, 32] us).length + 0) ≤ _; rw [show (codes "with").length = 4 by decide]; omega, Nat.le_refl 2⟩
  have e1 : ([32] : List Nat).length = 1 := rfl
  rw [e1]
  omega
theorem RSt.len {Rp : V → List Nat → Prop} {b : Nat} (i : ∀ v t, Rp v t → t.length ≤ b + 50) {v : V} {t : List Nat} (h : RSt Rp L K H v t) : t.length ≤ b + 2200 ∨ t.length ≤ 12500 := by
  obtain ⟨a, _, ⟨s, o, x, e, u, hs, _, h3, _, ok, ht, rfl⟩ | ⟨x, e, _, _, ok, ht, rfl⟩ | ⟨o, ts, _, h3, k, rfl⟩ | ⟨o, p, ts, us, _, h3, h4, k1, k2, rfl⟩⟩ := h
  · have := pr2 ok ht
    have := i _ _ h3
    have hj : (codes (joiT s)).length ≤ 9 := by
      simp only [JOI, List.mem_cons, List.not_mem_nil, or_false] at hs
      rcases hs with rfl | rfl | rfl | rfl <;> decide
    simp only [List.length_append, List.length_cons, show (codes " on ").length = 4 by decide]
    omega
  · have := pr2 ok ht
    rw [List.length_append, show (codes "where ").length = 6 by decide]
    omega
  · have j1 := jl_len [44, 32] ts
    have := h3.le (fun _ _ z => z.len) k
    rw [List.length_append, show (codes "select ").length = 7 by decide]
    have e2 : ([44, 32] : List Nat).length = 2 := rfl
    rw [e2] at j1
    omega
  · have := grT_len (h3.le (fun _ _ z => z.len) k1) (h4.le (fun _ _ z => z.len) k2) k1 k2
    omega
theorem how_len {v : V} {l : List Nat} (h : RHow v l) : l.length ≤ 10 := by
  rcases h with ⟨_, rfl⟩ | ⟨s, hs, _, rfl⟩
  · exact Nat.zero_le _
  · simp only [SETS, List.mem_cons, List.not_mem_nil, or_false] at hs
    rcases hs with rfl | rfl | rfl <;> decide
theorem RC.len {Rp Rs : V → List Nat → Prop} {b m : Nat} (i : ∀ v t, Rp v t → t.length ≤ b + 50) (j : ∀ v t, Rs v t → t.length ≤ m) {v : V} {ls : List (List Nat)} (h : RC Rp Rs L K H v ls) : suml ls + ls.length ≤ b + 3 * m + 80 ∧ 1 ≤ ls.length ∧ ls.length ≤ 4 := by
  obtain ⟨a, b', how, l, o, p, u, ts, _, _, _, h4, h5, h6, k, rfl⟩ := h
  have := how_len h4
  have := i _ _ h5
  have := h6.le j k
  refine ⟨?_, Nat.succ_le_succ (Nat.zero_le _), by rw [List.length_cons]; omega⟩
  show (l ++ (codes "from " ++ u)).length + suml ts + (ts.length + 1) ≤ _
  rw [List.length_append, List.length_append, show (codes "from ").length = 5 by decide]
  omega
theorem suml_flat : ∀ css : List (List (List Nat)), ∀ b : Nat, (∀ c ∈ css, suml c + c.length ≤ b) → suml css.flatten + css.flatten.length ≤ css.length * b
  | [], _, _ => Nat.zero_le _
  | c :: css, b, h => by
    have h1 := h c (List.mem_cons_self ..)
    have := suml_flat css b fun x hx => h x (List.mem_cons_of_mem _ hx)
    rw [List.flatten_cons, suml_app, List.length_append, List.length_cons, Nat.add_mul]
    omega
theorem RQ.len : ∀ (n : Nat) (v : V) (ls : List (List Nat)), RQ L K H n v ls → suml ls + ls.length ≤ bl n
  | 0, _, _, h => h.elim
  | n + 1, _, _, ⟨css, ⟨a, xs, _, _, _, h⟩, k, e⟩ => by
    subst e
    have io := fun v t (z : ROp (RQ L K H n) K H v t) => z.len (RQ.len n)
    obtain ⟨m, hm, hb⟩ : ∃ m, (∀ x, x ≤ bl n + 2200 ∨ x ≤ 12500 → x ≤ m) ∧ 2 * (bl n + 3 * m + 80) ≤ bl (n + 1) := by
      cases n with
      | zero =>
        have : bl 0 = 0 := rfl
        exact ⟨12500, fun x hx => by omega, by decide⟩
      | succ n =>
        have := bl_ge n
        exact ⟨bl (n + 1) + 2200, fun x hx => by omega, by show _ ≤ 8 * bl (n + 1) + 14000; omega⟩
    have hc : ∀ c ∈ css, suml c + c.length ≤ bl n + 3 * m + 80 := h.all fun _ _ z => (z.len (b := bl n) io fun _ _ y => hm _ (y.len io)).1
    have := suml_flat css _ hc
    have : css.length * (bl n + 3 * m + 80) ≤ 2 * (bl n + 3 * m + 80) := Nat.mul_le_mul_right _ k
    omega
theorem RC.ne {Rp Rs : V → List Nat → Prop} {v : V} {ls : List (List Nat)} (h : RC Rp Rs L K H v ls) : ls ≠ [] := by
  obtain ⟨_, _, _, _, _, _, _, _, _, _, _, _, _, _, _, rfl⟩ := h
  exact fun z => nomatch z
theorem flat_ne {css : List (List (List Nat))} (h : css ≠ []) (a : ∀ c ∈ css, c ≠ []) : css.flatten ≠ [] := by
  cases css with
  | nil => exact absurd rfl h
  | cons c css =>
    have := a c (List.mem_cons_self ..)
    cases c with
    | nil => exact absurd rfl this
    | cons x c => exact fun z => nomatch z
end

/-! ### the program's printing of queries -/
theorem txe (l m : List Nat) : decide (tx l = tx m) = decide (l = m) := by
  by_cases h : l = m
  · subst h
    rw [decide_eq_true rfl, decide_eq_true rfl]
  · rw [decide_eq_false h, decide_eq_false]
    intro e
    have e1 := V.str.inj e
    have e2 := congrArg Array.toList (Str.mk.inj e1)
    exact h (by simpa using e2)
theorem tx_map (ls : List (List Nat)) : ls.map tx = (ls.map fun l => (⟨l.toArray⟩ : Str)).map V.str := by
  rw [List.map_map]
  rfl
/-- [f(x) for x in l], f giving texts out -/
theorem lc_txt {K : PySem.W.Frag} {a : Addr} {xs : List V} {ts : List (List Nat)} {R : V → List Nat → Prop} {g : TG} {tt : TT} {te : TE} {vs : List Nat} {σ : L2.St} {H1 : Hp} {D : Addr} {Qd : Hp → Prop} (hf : F2 R xs ts) (few : ts.length ≤ 1000) (ha : SqL K H1 a xs) (nD : H1 D = none)
    (hs : ∀ v t Hi, R v t → Same H1 Hi → ∀ (Qc : VK) (Nc : Hp → Prop), (∀ H4, Same Hi H4 → Qc (tx t) H4) → g v (wipe σ vs) Hi fun σ2 H2 => wipe σ2 vs = wipe σ vs ∧ tt σ2 H2 fun b H3 => if b = true then te σ2 H3 Qc else Nc H3)
    (hd : ∀ H, Same H1 H → H D = some (.lst (ts.map tx)) → Qd H) :
    ∃ W : Nat → Nat → Hp → Prop, (∃ m, W 0 m (upd H1 D (.lst []))) ∧ ∀ i m H, W i m H →
      ((Itl K a).stop i H ∧ Qd H) ∨ ((Itl K a).go i H ∧ ∃ Nx : Hp → Prop, (∀ H', Nx H' → ∃ m', m' < m ∧ W (i + 1) m' H') ∧ ∀ x H', (Itl K a).yld i H x H' → g x (wipe σ vs) H' fun σ2 H2 => wipe σ2 vs = wipe σ vs ∧ tt σ2 H2 fun b H3 =>
        if b = true then te σ2 H3 fun y H4 => ∃ acc, H4 D = some (.lst acc) ∧ acc.length < sizeLine ∧ Nx (upd H4 D (.lst (acc ++ [y]))) else Nx H3) := by
  have hl := hf.len
  refine lc_list (K := K) (a := a) (xs := xs) (fun i Hi => Same H1 Hi ∧ Hi D = some (.lst ((ts.take i).map tx))) ⟨same_upd nD, upd_same⟩ (fun i Hi _ hp => hp.1.seq ha) (fun i x Hi hx hp => ?_) (fun Hn hp => hd Hn hp.1 (by have := hp.2; rwa [hl, List.take_length] at this))
  obtain ⟨si, eD⟩ := hp
  obtain ⟨t, ht, r⟩ := hf.get hx
  refine hs x t Hi r si _ _ fun H4 s4 => ?_
  refine ⟨_, s4 _ _ eD, ?_, ?_, ?_⟩
  · rw [List.length_map, List.length_take]
    exact Nat.lt_of_lt_of_le (m := 1001) (by omega) (by decide)
  · intro b o z
    have nb : b ≠ D := ne_of_none z nD
    rw [upd_ne nb]
    exact s4 _ _ (si _ _ z)
  · rw [upd_same, List.take_add_one, ht, List.map_append]
    rfl
theorem last_at {K : PySem.W.Frag} {H : Hp} {p : V} {e : Ex} {m : List Nat} (h : Dp K H p e.d) (hl : e.last = some m) : ∃ a xs, p = .ref a ∧ SqT K H a xs ∧ atI xs (0 : Int) = some (.str e.wd) ∧ atI xs (-1 : Int) = some (tx m) := by
  cases e with
  | name l =>
    have : l = m := Option.some.inj hl
    subst this
    obtain ⟨a, xs, rfl, hs, ha⟩ := dp_tup h
    obtain ⟨v, rfl, hv⟩ := dp_two ha
    cases hv
    exact ⟨a, _, rfl, hs, rfl, rfl⟩
  | field l k =>
    have : k = m := Option.some.inj hl
    subst this
    obtain ⟨a, xs, rfl, hs, ha⟩ := dp_tup h
    obtain ⟨v, u, rfl, hv, hu⟩ := dp_three ha
    cases hv
    cases hu
    exact ⟨a, _, rfl, hs, rfl, rfl⟩
  | _ => cases hl
theorem nf_in (x : String) (b : Bool) (h : inV (.str (Str.ofString x)) [.str "name", .str "field"] = b) : inV (.str (Str.ofString x)) [.str "name", .str "field"] = b := h
theorem nf (e : Ex) : inV (.str e.wd) [.str "name", .str "field"] = e.last.isSome := by
  cases e with
  | bin o a b => cases o <;> exact nf_in _ false (by decide +kernel)
  | num n => exact nf_in "number" false (by decide +kernel)
  | text l => exact nf_in "text" false (by decide +kernel)
  | truth b => exact nf_in "truth" false (by decide +kernel)
  | null => exact nf_in "null" false (by decide +kernel)
  | name l => exact nf_in "name" true (by decide +kernel)
  | field l m => exact nf_in "field" true (by decide +kernel)
  | neg a => exact nf_in "negate" false (by decide +kernel)
  | nt a => exact nf_in "not" false (by decide +kernel)
  | f1 m a => cases m; exact nf_in "length" false (by decide +kernel); exact nf_in "missing" false (by decide +kernel)
  | f2 m a b => cases m; exact nf_in "coalesce" false (by decide +kernel); exact nf_in "starts" false (by decide +kernel)
  | f3 a b c => exact nf_in "if" false (by decide +kernel)
def sp_out (K : PySem.W.Frag) : Sp := fun vs H Q _ => ∃ (p : V) (t : List Nat), vs = [p] ∧ RO K H p t ∧ ∀ H', Same H H' → Q (tx t) H'
def sp_outs (K : PySem.W.Frag) : Sp := fun vs H Q _ => ∃ (p : V) (L : Addr → Prop) (ts : List (List Nat)), vs = [p] ∧ Rl L (RO K H) H p ts ∧ ts.length ≤ 3 ∧ ∀ H', Same H H' → Q (tx (jl [44, 32] ts)) H'
def RFm (K : PySem.W.Frag) (H : Hp) (f : Addr) (t : List Nat) : Prop := (SqT K H f [.str "count"] ∧ t = codes "count") ∨ ∃ w x e, w ∈ AGG ∧ SqT K H f [.str (Str.ofString w), x] ∧ Dp K H x (Ex.d e) ∧ e.ok ∧ e.ht ≤ 2 ∧ t = codes w ++ 40 :: (e.pr ++ [41])
theorem RTo.fm {K : PySem.W.Frag} {H : Hp} {v : V} {t : List Nat} (h : RTo K H v t) : ∃ a f l u, v = .ref a ∧ SqT K H a [.ref f, tx l] ∧ l.length ≤ 21 ∧ RFm K H f u ∧ u.length ≤ 2025 ∧ t = u ++ (codes " as " ++ l) := by
  obtain ⟨a, f, l, h1, h2, hl, ⟨h3, rfl⟩ | ⟨w, x, e, hw, h3, h4, ok, ht, rfl⟩⟩ := h
  · exact ⟨a, f, l, _, h1, h2, hl, .inl ⟨h3, rfl⟩, by decide, rfl⟩
  · refine ⟨a, f, l, _, h1, h2, hl, .inr ⟨w, x, e, hw, h3, h4, ok, ht, rfl⟩, ?_, by simp⟩
    have := pr2 ok ht
    have hw8 : (codes w).length ≤ 8 := by
      simp only [AGG, List.mem_cons, List.not_mem_nil, or_false] at hw
      rcases hw with rfl | rfl | rfl | rfl <;> decide
    simp only [List.length_append, List.length_cons, List.length_nil]
    omega
def sp_form (K : PySem.W.Frag) : Sp := fun vs H Q _ => ∃ (f : Addr) (t : List Nat), vs = [.ref f] ∧ RFm K H f t ∧ ∀ H', Same H H' → Q (tx t) H'
def sp_group (K : PySem.W.Frag) : Sp := fun vs H Q _ => ∃ (a : Addr) (o p : V) (L : Addr → Prop) (ts us : List (List Nat)), vs = [.ref a] ∧ SqT K H a [.str "group", o, p] ∧ Rl L (RO K H) H o ts ∧ Rl L (RTo K H) H p us ∧ ts.length ≤ 3 ∧ us.length ≤ 3 ∧ ∀ H', Same H H' → Q (tx (grT ts us)) H'
theorem same_at {H H' : Hp} {D : Addr} {o : HO} (s : Same H H') (n : H D = none) : Same H (upd H' D o) := fun b x e => by
  rw [upd_ne (ne_of_none e n)]
  exact s b x e
theorem RFm.ext {K : PySem.W.Frag} {H H' : Hp} {f : Addr} {t : List Nat} (s : Same H H') (h : RFm K H f t) : RFm K H' f t := by
  rcases h with ⟨h, r⟩ | ⟨w, x, e, h1, h2, h3, r⟩
  · exact .inl ⟨SqT.ext s h, r⟩
  · exact .inr ⟨w, x, e, h1, SqT.ext s h2, Dp.ext s _ _ h3, r⟩
theorem F2.nil_iff {β : Type} {R : V → β → Prop} {xs : List V} {ts : List β} (h : F2 R xs ts) : xs.isEmpty = decide (ts = []) ∨ xs.isEmpty = ts.isEmpty := by
  cases h <;> exact .inr rfl
theorem F2.emp {β : Type} {R : V → β → Prop} {xs : List V} {ts : List β} (h : F2 R xs ts) : xs.isEmpty = ts.isEmpty := by cases h <;> rfl
section
variable {P : Program} {w : World} {K : PySem.W.Frag} {mg : Str → Option Value} {base : Heap}
theorem ok_out {f : Addr} {fd : FuncData} (F : Fun K "output_text" "output_text" s_output_text f fd) (M : Mg mg) (c_print_expression : Cl P w K mg base 8 "print_expression" (sp_pr K 3)) : FnOk P w K mg base CX0 9 f fd ["output"] (sp_out K) := by
  refine F.ok sc_output_text (fun vs H Q E h => ?_) (fun cdv A outer s H vs Q E hr h => ?_)
  · obtain ⟨p, t, rfl, _⟩ := h
    rfl
  · obtain ⟨p, t, rfl, ⟨a, x, e, l, rfl, hs, dp, ok, ht, hl, rfl⟩, q⟩ := h
    have hp := pr2 ok ht
    obtain ⟨t, ht', hq⟩ : ∃ t, PSs (cxOf CX0 P w K mg base N_output_text "output_text" (defScope s_output_text) f cdv A outer s H E).nox ((defBody s_output_text).drop 3) t ∧ ∀ H', Same H H' → e.last ≠ some l → t { nx := fun _ H' => Q .non H', rt := Q } [some (.ref a), some x, some (tx l), some (tx e.pr)] H' := by
      refine ⟨_, (pss_one (ps_ret (pe_joined (.cons (pe_fmt (pv 3)) (.cons pe_str (.cons (pe_fmt (pv 2)) .nil)))))), fun H' s' hne => ?_⟩
      refine ⟨_, rfl, ?_⟩
      refine js_f (L := []) (by rw [List.nil_append]; omega) ?_
      refine js_c (L := [] ++ e.pr) (codes " as ") (codes_S _) (by rw [List.length_append, List.nil_append, as4]; omega) ?_
      refine ⟨_, rfl, js_f (L := [] ++ e.pr ++ codes " as ") (by rw [List.length_append, List.length_append, List.nil_append, as4]; omega) ?_⟩
      have fin := q H' s'
      unfold outT at fin
      rw [if_neg hne, ← List.append_assoc] at fin
      exact fin
    refine ⟨_, (pss_cons (ps_asg (pv 0) (pg_tup (by rfl) (pgs_cons (pg_name (i := 1) sc_output_text.nd rfl (.inl rfl)) (pgs_cons (pg_name (i := 2) sc_output_text.nd rfl (.inl rfl)) pgs_nil))))
      (pss_cons (ps_set (i := 3) sc_output_text.nd rfl (.inl rfl) (pe_u c_print_expression hr (by first | decide | omega) (by rfl) (pa_cons (pv 1) pa_nil)))
      (pss_cons (ps_if (PW.pt (pw_and (pt_cmpR (inK K) (pe_ix (ix_tupK K) (pv 1) pe_int (fun _ _ => rfl)) (pe_tup (pa_cons pe_str (pa_cons pe_str pa_nil))) (by rfl)) (pw_and1 (pt_cmpR op_eq (pe_ix (ix_tupK K) (pv 1) (pe_un un_neg pe_int) (fun _ _ => rfl)) (pv 2) (nomark _))))) (pss_one (ps_ret (pv 3))) pss_nil)
      ht'))), ?_⟩
    refine ⟨_, rfl, a, _, rfl, hs, rfl, _, _, rfl, _, _, rfl, rfl, ?_⟩
    refine ⟨_, rfl, x, e, rfl, dp, ok, by omega, by omega, fun H1 s1 => ?_⟩
    have dp1 := Dp.ext s1 _ _ dp
    cases hla : e.last with
    | none =>
      obtain ⟨b, ys, rfl, hs1⟩ := ex_word dp1
      refine ⟨_, rfl, b, _, _, _, rfl, rfl, hs1, atI_nat (j := 0) rfl, ?_⟩
      refine ⟨by show 2 ≤ sizeLine; decide, fun tp ntp => ?_⟩
      refine ⟨tp, _, rfl, .inr (.inl (.inl upd_same)), rfl, rfl, _, rfl, ?_⟩
      rw [if_neg Bool.false_ne_true, nf, hla]
      refine iteF ?_
      exact hq _ (s1.trans (same_upd ntp)) (by rw [hla]; exact fun z => nomatch z)
    | some m =>
      obtain ⟨b, ys, rfl, hs1, at0, atl⟩ := last_at dp1 hla
      refine ⟨_, rfl, b, _, _, _, rfl, rfl, hs1, at0, ?_⟩
      refine ⟨by show 2 ≤ sizeLine; decide, fun tp ntp => ?_⟩
      refine ⟨tp, _, rfl, .inr (.inl (.inl upd_same)), rfl, rfl, _, rfl, ?_⟩
      rw [if_neg Bool.false_ne_true, nf, hla]
      refine iteT ?_
      have s2 := s1.trans (same_upd ntp (o := .tup [.str "name", .str "field"]))
      refine ⟨_, rfl, _, rfl, b, _, _, _, rfl, rfl, SqT.ext (same_upd ntp) hs1, atl, _, rfl, rfl, _, rfl, ?_⟩
      rw [txe]
      by_cases hm : m = l
      · subst hm
        rw [decide_eq_true rfl]
        refine iteT ⟨_, rfl, ?_⟩
        have fin := q _ s2
        unfold outT at fin
        rw [if_pos hla] at fin
        exact fin
      · rw [decide_eq_false hm]
        exact iteF (hq _ s2 (by rw [hla]; exact fun z => hm (Option.some.inj z)))
theorem ok_outs {f : Addr} {fd : FuncData} (F : Fun K "outputs_text" "outputs_text" s_outputs_text f fd) (M : Mg mg) (c_output_text : Cl P w K mg base 9 "output_text" (sp_out K)) : FnOk P w K mg base CX0 10 f fd ["outputs"] (sp_outs K) := by
  refine F.ok sc_outputs_text (fun vs H Q E h => ?_) (fun cdv A outer s H vs Q E hr h => ?_)
  · obtain ⟨p, L, ts, rfl, _⟩ := h
    rfl
  · obtain ⟨p, L, ts, rfl, ⟨a, xs, rfl, hL, hs, hf⟩, k, q⟩ := h
    refine ⟨_, (pss_one (ps_ret (pe_join pe_str (pe_lc (own := [("output", 1)]) (g := gName 1) (tt := tYes) rfl sc_outputs_text.nd (pi_list (pv 0)) (blkOk_by (N := N_outputs_text) (sc := defScope s_outputs_text) (by decide +kernel)) (fun _ _ _ _ _ => (pg_name (i := 1) sc_outputs_text.nd rfl (.inl rfl))) (fun _ _ _ _ _ => pts_nil) (fun _ _ _ _ _ => (pe_u c_output_text hr (by first | decide | omega) (by rfl) (pa_cons (pv 1) pa_nil))))))), ?_⟩
    refine ⟨⟨_, rfl⟩, _, rfl, a, rfl, ⟨_, .of hs⟩, fun D nD => ?_⟩
    refine lc_txt (K := K) (a := a) hf (by omega) (.of hs) nD (fun v t Hi r si Qc Nc qc => ⟨rfl, ?_⟩) (fun Hn sn eD => ?_)
    · exact ⟨_, rfl, v, t, rfl, r.ch (L := fun _ => True) (Ch.of si), qc⟩
    · rw [tx_map] at eD
      have hsum := Rl.le (L := L) (H := H) (b := 2050) (fun _ _ z => RO.len z) ⟨a, xs, rfl, hL, hs, hf⟩ k
      refine ⟨_, D, _, rfl, rfl, .inl (.of eD), ?_, ?_⟩
      · rw [lens_S, List.length_map]
        show _ + ts.length * 2 ≤ 16777216
        omega
      · rw [show Txt.join (Str.ofString ", ") (ts.map fun l => (⟨l.toArray⟩ : Str)) = ⟨(jl [44, 32] ts).toArray⟩ from jl_S [44, 32] ts]
        exact q Hn sn
theorem ok_form {f : Addr} {fd : FuncData} (F : Fun K "form_text" "form_text" s_form_text f fd) (M : Mg mg) (c_print_expression : Cl P w K mg base 8 "print_expression" (sp_pr K 3)) : FnOk P w K mg base CX0 9 f fd ["form"] (sp_form K) := by
  refine F.ok sc_form_text (fun vs H Q E h => ?_) (fun cdv A outer s H vs Q E hr h => ?_)
  · obtain ⟨p, t, rfl, _⟩ := h
    rfl
  · obtain ⟨a, t, rfl, h, q⟩ := h
    refine ⟨_, (pss_cons (ps_if (pt_cmpR op_eq (pe_ix (ix_tupK K) (pv 0) pe_int (fun _ _ => rfl)) pe_str (nomark _)) (pss_one (ps_ret pe_str)) pss_nil)
      (pss_one (ps_ret (pe_joined (.cons (pe_fmt (pe_ix (ix_tupK K) (pv 0) pe_int (fun _ _ => rfl))) (.cons pe_str (.cons (pe_fmt (pe_u c_print_expression hr (by first | decide | omega) (by rfl) (pa_cons (pe_ix (ix_tupK K) (pv 0) pe_int (fun _ _ => rfl)) pa_nil))) (.cons pe_str .nil)))))))), ?_⟩
    rcases h with ⟨hs, rfl⟩ | ⟨w', x, e, hw, hs, dp, ok, ht, rfl⟩
    · refine ⟨_, rfl, a, _, _, _, rfl, rfl, hs, atI_nat (j := 0) rfl, rfl, _, rfl, iteT ?_⟩
      exact q H (Same.refl H)
    · have hp := pr2 ok ht
      have hw8 : (codes w').length ≤ 8 ∧ decide (V.str (Str.ofString w') = V.str "count") = false := by
        simp only [AGG, List.mem_cons, List.not_mem_nil, or_false] at hw
        rcases hw with rfl | rfl | rfl | rfl
        · exact ⟨by decide, wne "distinct" "count" (by decide +kernel)⟩
        · exact ⟨by decide, wne "sum" "count" (by decide +kernel)⟩
        · exact ⟨by decide, wne "min" "count" (by decide +kernel)⟩
        · exact ⟨by decide, wne "max" "count" (by decide +kernel)⟩
      refine ⟨_, rfl, a, _, _, _, rfl, rfl, hs, atI_nat (j := 0) rfl, rfl, _, rfl, ?_⟩
      rw [hw8.2]
      refine iteF ?_
      refine ⟨_, rfl, a, _, _, _, rfl, rfl, hs, atI_nat (j := 0) rfl, ?_⟩
      rw [codes_S w']
      refine js_f (L := []) (by rw [List.nil_append]; omega) ?_
      refine js_c (L := [] ++ codes w') [40] rfl (by rw [List.length_append, List.nil_append]; show _ + 1 ≤ _; omega) ?_
      refine ⟨_, rfl, a, _, _, _, rfl, rfl, hs, atI_nat (j := 1) rfl, x, e, rfl, dp, ok, by omega, by omega, fun H1 s1 => ?_⟩
      refine js_f (L := [] ++ codes w' ++ [40]) (by simp only [List.length_append, List.nil_append, List.length_singleton]; omega) ?_
      refine js_c (L := [] ++ codes w' ++ [40] ++ e.pr) [41] rfl (by simp only [List.length_append, List.nil_append, List.length_singleton]; omega) ?_
      have fin := q H1 s1
      rw [show codes w' ++ 40 :: (e.pr ++ [41]) = [] ++ codes w' ++ [40] ++ e.pr ++ [41] by simp] at fin
      exact fin
theorem ok_group {f : Addr} {fd : FuncData} (F : Fun K "group_text" "group_text" s_group_text f fd) (M : Mg mg) (c_outputs_text : Cl P w K mg base 10 "outputs_text" (sp_outs K)) (c_form_text : Cl P w K mg base 9 "form_text" (sp_form K)) : FnOk P w K mg base CX0 11 f fd ["stage"] (sp_group K) := by
  refine F.ok sc_group_text (fun vs H Q E h => ?_) (fun cdv A outer s H vs Q E hr h => ?_)
  · obtain ⟨a, o, p, L, ts, us, rfl, _⟩ := h
    rfl
  · obtain ⟨a, o, p, L, ts, us, rfl, hs, ho, hp, k1, k2, q⟩ := h
    have lo := ho.le (fun _ _ z => RO.len z) k1
    have lp := hp.le (fun _ _ z => RTo.len z) k2
    have glen := grT_len lo lp k1 k2
    obtain ⟨ao, xo, rfl, Lo, eo, fo⟩ := ho
    obtain ⟨ap, xp, rfl, Lp, ep, fp⟩ := hp
    have j1 := jl_len [44, 32] ts
    have j2 := jl_len [44, 32] us
    have e2 : ([44, 32] : List Nat).length = 2 := rfl
    rw [e2] at j1 j2
    -- the totals, and what is given back
    obtain ⟨t, ht', hq⟩ : ∃ t, PSs (cxOf CX0 P w K mg base N_group_text "group_text" (defScope s_group_text) f cdv A outer s H E).nox ((defBody s_group_text).drop 3) t ∧ ∀ H' D xs, Same H H' → H D = none → H' D = some (.lst (xs.map tx)) → xs.length ≤ 2 → suml xs ≤ 7000 → jl [32] (xs ++ (if us = [] then [] else [codes "with", jl [44, 32] us])) = grT ts us → t { nx := fun _ H' => Q .non H', rt := Q } [some (.ref a), some (.str "group"), some (.ref ao), some (.ref ap), some (.ref D), none, none] H' := by
      refine ⟨_, (pss_cons (ps_if (pt_truthK K (pv 3) (by intro _; rfl)) (pss_cons (ps_expr (pe_bmK K PySem.F.plainAttrs_list PySem.F.slot_list_append PySem.F.type_list_append mt_append (pv 4) (pa_cons pe_str pa_nil)))
      (pss_one (ps_expr (pe_bmK K PySem.F.plainAttrs_list PySem.F.slot_list_append PySem.F.type_list_append mt_append (pv 4) (pa_cons (pe_join pe_str (pe_lc (own := [("form", 5), ("name", 6)]) (g := gTup K 2 (gCons (gName 5) (gCons (gName 6) (gNil)))) (tt := tYes) rfl sc_group_text.nd (pi_list (pv 3)) (blkOk_by (N := N_group_text) (sc := defScope s_group_text) (by decide +kernel)) (fun _ _ _ _ _ => (pg_tup (by rfl) (pgs_cons (pg_name (i := 5) sc_group_text.nd rfl (.inl rfl)) (pgs_cons (pg_name (i := 6) sc_group_text.nd rfl (.inl rfl)) pgs_nil)))) (fun _ _ _ _ _ => pts_nil) (fun _ _ _ _ _ => (pe_joined (.cons (pe_fmt (pe_u c_form_text hr (by first | decide | omega) (by rfl) (pa_cons (pv 5) pa_nil))) (.cons pe_str (.cons (pe_fmt (pv 6)) .nil))))))) pa_nil))))) pss_nil)
      (pss_one (ps_ret (pe_join pe_str (pv 4))))), fun H' D xs s' nD eD kx sx hg => ?_⟩
      have fin : ∀ Hn zs, Same H Hn → Hn D = some (.lst (zs.map tx)) → suml zs + zs.length ≤ 16777216 → jl [32] zs = grT ts us → ∀ y5 y6, tRet (tM1 (fun x xs H_1 Q => ∃ a p ys, x = V.str a ∧ xs = [V.ref p] ∧ (SqL K H_1 p (List.map V.str ys) ∨ SqT K H_1 p (List.map V.str ys)) ∧ (List.map (fun x => x.length) ys).sum + ys.length * a.length ≤ 16777216 ∧ Q (V.str (Txt.join a ys)) H_1) (tC (V.str (Str.ofString " "))) (tVar 4)) { nx := fun _ H' => Q .non H', rt := Q } [some (.ref a), some (.str "group"), some (.ref ao), some (.ref ap), some (.ref D), y5, y6] Hn := fun Hn zs sn en hz hj y5 y6 => by
        rw [tx_map] at en
        refine ⟨⟨_, rfl⟩, _, rfl, _, D, _, rfl, rfl, .inl (.of en), ?_, ?_⟩
        · rw [lens_S, List.length_map]
          show _ + zs.length * 1 ≤ _
          omega
        · rw [show Txt.join (Str.ofString " ") (zs.map fun l => (⟨l.toArray⟩ : Str)) = ⟨(jl [32] zs).toArray⟩ from jl_S [32] zs, hj]
          exact q Hn sn
      refine ⟨_, rfl, !xp.isEmpty, .inl ⟨xp, .of (s' _ _ ep), rfl⟩, ?_⟩
      rw [fp.emp]
      cases us with
      | nil =>
        refine iteF ?_
        refine fin H' xs s' eD (by omega) ?_ _ _
        rw [if_pos rfl, List.append_nil] at hg
        exact hg
      | cons u us =>
        refine iteT ?_
        refine ⟨_, rfl, .inl ⟨rfl, _, .of eD⟩, D, _, _, rfl, rfl, eD, by rw [List.length_map]; exact Nat.lt_of_lt_of_le (m := 1000) (by omega) (by decide), ?_⟩
        have s1 : Same H (upd H' D (.lst (xs.map tx ++ [.str "with"]))) := same_at s' nD
        have e1 : (upd H' D (.lst (xs.map tx ++ [.str "with"]))) D = some (.lst (xs.map tx ++ [.str "with"])) := upd_same
        generalize upd H' D (.lst (xs.map tx ++ [.str "with"])) = H1 at s1 e1
        refine ⟨_, rfl, .inl ⟨rfl, _, .of e1⟩, ⟨_, rfl⟩, _, rfl, ap, rfl, ⟨_, .of (s1 _ _ ep)⟩, fun D2 nD2 => ?_⟩
        refine lc_txt (K := K) (a := ap) (te := fun σ H Q => tJs [tFmt (tCall (sp_form K) [] E0 (tCons (tVar 5) tNil)), tC (V.str (Str.ofString " as ")), tFmt (tVar 6)] Str.empty σ H fun out H1 => Q (V.str out) H1) fp (by omega) (.of (s1 _ _ ep)) nD2 (fun v t Hi r si Qc Nc qc => ?_) (fun Hn sn eD2 => ?_)
        · obtain ⟨a', f', l, u', rfl, hs', hl, fm, ul, rfl⟩ := r.fm
          have s2 := s1.trans si
          refine ⟨a', _, rfl, SqT.ext s2 hs', rfl, _, _, rfl, _, _, rfl, rfl, rfl, ?_⟩
          refine ⟨_, rfl, f', u', rfl, fm.ext s2, fun H5 s5 => ?_⟩
          refine js_f (L := []) (by rw [List.nil_append]; omega) ?_
          refine js_c (L := [] ++ u') (codes " as ") (codes_S _) (by rw [List.length_append, List.nil_append, as4]; omega) ?_
          refine ⟨_, rfl, js_f (L := [] ++ u' ++ codes " as ") (by rw [List.length_append, List.length_append, List.nil_append, as4]; omega) ?_⟩
          have := qc H5 s5
          rw [← List.append_assoc] at this
          exact this
        · rw [tx_map] at eD2
          refine ⟨_, D2, _, rfl, rfl, .inl (.of eD2), ?_, ?_⟩
          · rw [lens_S, List.length_map]
            show _ + (u :: us).length * 2 ≤ 16777216
            omega
          · rw [show Txt.join (Str.ofString ", ") ((u :: us).map fun l => (⟨l.toArray⟩ : Str)) = ⟨(jl [44, 32] (u :: us)).toArray⟩ from jl_S [44, 32] _]
            refine ⟨D, _, _, rfl, rfl, sn _ _ e1, by rw [List.length_append, List.length_map]; exact Nat.lt_of_lt_of_le (m := 1000) (by show _ + 1 < 1000; omega) (by decide), ?_⟩
            refine fin _ (xs ++ [codes "with", jl [44, 32] (u :: us)]) (same_at (s1.trans sn) nD) ?_ ?_ ?_ _ _
            · rw [upd_same, List.map_append, List.append_assoc]
              rfl
            · rw [suml_app, List.length_append]
              show _ + ((codes "with").length + ((jl [44, 32] (u :: us)).length + 0)) + (_ + 2) ≤ _
              rw [show (codes "with").length = 4 by decide]
              omega
            · rw [if_neg (fun z => nomatch z)] at hg
              exact hg
    refine ⟨_, (pss_cons (ps_asg (pv 0) (pg_tup (by rfl) (pgs_cons (pg_name (i := 1) sc_group_text.nd rfl (.inl rfl)) (pgs_cons (pg_name (i := 2) sc_group_text.nd rfl (.inl rfl)) (pgs_cons (pg_name (i := 3) sc_group_text.nd rfl (.inl rfl)) pgs_nil)))))
      (pss_cons (ps_set (i := 4) sc_group_text.nd rfl (.inl rfl) (pe_lst (pa_cons pe_str pa_nil)))
      (pss_cons (ps_if (pt_truthK K (pv 2) (by intro _; rfl)) (pss_one (ps_expr (pe_bmK K PySem.F.plainAttrs_list PySem.F.slot_list_append PySem.F.type_list_append mt_append (pv 4) (pa_cons (pe_u c_outputs_text hr (by first | decide | omega) (by rfl) (pa_cons (pv 2) pa_nil)) pa_nil)))) pss_nil)
      ht'))), ?_⟩
    refine ⟨_, rfl, a, _, rfl, hs, rfl, _, _, rfl, _, _, rfl, _, _, rfl, rfl, ?_⟩
    refine ⟨by show 1 ≤ sizeLine; decide, fun D nD => ?_⟩
    have s1 := same_upd nD (o := .lst [.str "group"])
    have e1 : (upd H D (.lst [.str "group"])) D = some (.lst [.str "group"]) := upd_same
    generalize upd H D (.lst [.str "group"]) = H1 at s1 e1
    refine ⟨_, rfl, !xo.isEmpty, .inl ⟨xo, .of (s1 _ _ eo), rfl⟩, ?_⟩
    rw [fo.emp]
    by_cases ht : ts = []
    · rw [ht]
      refine iteF ?_
      refine hq H1 D [codes "group"] s1 nD e1 (by decide) (by decide) ?_
      rw [ht]
      rfl
    · rw [show (!ts.isEmpty) = true by cases ts <;> first | rfl | exact absurd rfl ht]
      refine iteT ?_
      refine ⟨_, rfl, .inl ⟨rfl, _, .of e1⟩, _, rfl, _, L, ts, rfl, ⟨ao, xo, rfl, Lo, s1 _ _ eo, fo.imp fun _ _ z => z.ch (Ch.of (L := L) s1)⟩, k1, fun H2 s2 => ?_⟩
      refine ⟨D, _, _, rfl, rfl, s2 _ _ e1, by show 1 < sizeLine; decide, ?_⟩
      refine hq _ D [codes "group", jl [44, 32] ts] (same_at (s1.trans s2) nD) nD upd_same (Nat.le_refl 2) ?_ ?_
      · show (codes "group").length + ((jl [44, 32] ts).length + 0) ≤ _
        rw [show (codes "group").length = 5 by decide]
        omega
      · unfold grT
        rw [if_neg ht]
end
def sp_pq (K : PySem.W.Frag) (n : Nat) : Sp := fun vs H Q _ => ∃ (p : V) (L : Addr → Prop) (ls : List (List Nat)), vs = [p] ∧ RQ L K H n p ls ∧ n ≤ 3 ∧ ∀ H', Same H H' → Q (tx (jl [32] ls)) H'
def sp_op (K : PySem.W.Frag) (n : Nat) : Sp := fun vs H Q _ => ∃ (p : V) (L : Addr → Prop) (t : List Nat), vs = [p] ∧ ROp (RQ L K H n) K H p t ∧ n ≤ 2 ∧ ∀ H', Same H H' → Q (tx t) H'
def sp_jt (K : PySem.W.Frag) (n : Nat) : Sp := fun vs H Q _ => ∃ (a : Addr) (L : Addr → Prop) (s : String) (o x : V) (e : Ex) (u : List Nat), vs = [.ref a] ∧ s ∈ JOI ∧ SqT K H a [.str "join", .str (Str.ofString s), o, x] ∧ ROp (RQ L K H n) K H o u ∧ Dp K H x e.d ∧ e.ok ∧ e.ht ≤ 2 ∧ n ≤ 2 ∧ ∀ H', Same H H' → Q (tx (codes (joiT s) ++ 32 :: (u ++ (codes " on " ++ e.pr)))) H'
def sp_st (K : PySem.W.Frag) (n : Nat) : Sp := fun vs H Q _ => ∃ (p : V) (L : Addr → Prop) (t : List Nat), vs = [p] ∧ RSt (ROp (RQ L K H n) K H) L K H p t ∧ n ≤ 2 ∧ ∀ H', Same H H' → Q (tx t) H'
def sp_ql (K : PySem.W.Frag) (n : Nat) : Sp := fun vs H Q _ => ∃ (p : V) (L : Addr → Prop) (ls : List (List Nat)), vs = [p] ∧ RQ L K H n p ls ∧ n ≤ 3 ∧ ∀ H' D, Same H H' → H D = none → H' D = some (.lst (ls.map tx)) → Q (.ref D) H'
theorem bl2 {n : Nat} (h : n ≤ 2) : bl n ≤ 622000 := by
  have : n = 0 ∨ n = 1 ∨ n = 2 := by omega
  rcases this with rfl | rfl | rfl <;> decide
theorem bl3 {n : Nat} (h : n ≤ 3) : bl n ≤ 4990000 := by
  have : n = 0 ∨ n = 1 ∨ n = 2 ∨ n = 3 := by omega
  rcases this with rfl | rfl | rfl | rfl <;> decide
theorem ROp.le {L : Addr → Prop} {K : PySem.W.Frag} {H : Hp} {n : Nat} {v : V} {t : List Nat} (h : ROp (RQ L K H n) K H v t) (k : n ≤ 2) : t.length ≤ 990050 := by
  have := h.len (RQ.len n)
  have := bl2 k
  omega
theorem RSt.le {L : Addr → Prop} {K : PySem.W.Frag} {H : Hp} {n : Nat} {v : V} {t : List Nat} (h : RSt (ROp (RQ L K H n) K H) L K H v t) (k : n ≤ 2) : t.length ≤ 1002600 := by
  have := h.len (b := bl n) fun _ _ z => z.len (RQ.len n)
  have := bl2 k
  omega
section
variable {P : Program} {w : World} {K : PySem.W.Frag} {mg : Str → Option Value} {base : Heap}
theorem ok_op {f : Addr} {fd : FuncData} {j : Nat} (n : Nat) (F : Fun K "operand_text" "operand_text" s_operand_text f fd) (M : Mg mg) (c_print_query : Cl P w K mg base j "print_query" (sp_pq K n)) : FnOk P w K mg base CX0 (j + 1) f fd ["operand"] (sp_op K n) := by
  refine F.ok sc_operand_text (fun vs H Q E h => ?_) (fun cdv A outer s H vs Q E hr h => ?_)
  · obtain ⟨p, L, t, rfl, _⟩ := h
    rfl
  · obtain ⟨p, L, t, rfl, h, hn, q⟩ := h
    have tl := h.le hn
    refine ⟨_, (pss_cons (ps_asg (pv 0) (pg_tup (by rfl) (pgs_cons (pg_name (i := 1) sc_operand_text.nd rfl (.inl rfl)) (pgs_cons (pg_name (i := 2) sc_operand_text.nd rfl (.inl rfl)) (pgs_cons (pg_name (i := 3) sc_operand_text.nd rfl (.inl rfl)) pgs_nil)))))
      (pss_cons (ps_if (pt_cmpR op_eq (pv 1) pe_str (nomark _)) (pss_one (ps_ret (pe_joined (.cons pe_str (.cons (pe_fmt (pe_u c_print_query hr (by first | decide | omega) (by rfl) (pa_cons (pv 2) pa_nil))) (.cons pe_str (.cons (pe_fmt (pv 3)) .nil))))))) pss_nil)
      (pss_one (ps_ret (pe_ifExp (pt_cmpR op_eq (pv 2) (pv 3) (nomark _)) (pv 2) (pe_joined (.cons (pe_fmt (pv 2)) (.cons pe_str (.cons (pe_fmt (pv 3)) .nil))))))))), ?_⟩
    obtain ⟨a, rfl, ⟨l, m, hs, ll, lm, rfl⟩ | ⟨qv, ls, m, hs, lm, rq, rfl⟩⟩ := h
    · refine ⟨_, rfl, a, _, rfl, hs, rfl, _, _, rfl, _, _, rfl, _, _, rfl, rfl, ?_⟩
      refine ⟨_, rfl, rfl, _, rfl, iteF ?_⟩
      refine ⟨_, rfl, _, rfl, rfl, _, rfl, ?_⟩
      rw [txe]
      have fin := q H (Same.refl H)
      by_cases hm : l = m
      · rw [if_pos hm] at fin
        rw [decide_eq_true hm]
        exact iteT ⟨_, rfl, fin⟩
      · rw [if_neg hm] at fin
        rw [decide_eq_false hm]
        refine iteF ⟨_, rfl, ?_⟩
        refine js_f (L := []) (by rw [List.nil_append]; omega) ?_
        refine js_c (L := [] ++ l) (codes " as ") (codes_S _) (by rw [List.length_append, List.nil_append, as4]; omega) ?_
        refine ⟨_, rfl, js_f (L := [] ++ l ++ codes " as ") (by rw [List.length_append, List.length_append, List.nil_append, as4]; omega) ?_⟩
        rw [← List.append_assoc] at fin
        exact fin
    · have ql := RQ.len n _ _ rq
      have := bl2 hn
      have jlen := jl_len [32] ls
      have e1 : ([32] : List Nat).length = 1 := rfl
      rw [e1] at jlen
      refine ⟨_, rfl, a, _, rfl, hs, rfl, _, _, rfl, _, _, rfl, _, _, rfl, rfl, ?_⟩
      refine ⟨_, rfl, rfl, _, rfl, iteT ?_⟩
      refine js_c (L := []) [40] rfl (by decide) ?_
      refine ⟨_, rfl, qv, L, ls, rfl, rq, by omega, fun H1 s1 => ?_⟩
      refine js_f (L := [] ++ [40]) (by rw [List.length_append, List.nil_append]; show 1 + _ ≤ _; omega) ?_
      refine js_c (L := [] ++ [40] ++ jl [32] ls) (codes ") as ") (codes_S _) (by rw [List.length_append, List.length_append, List.nil_append, show (codes ") as ").length = 5 by decide]; show 1 + _ + _ ≤ _; omega) ?_
      refine ⟨_, rfl, js_f (L := [] ++ [40] ++ jl [32] ls ++ codes ") as ") (by rw [List.length_append, List.length_append, List.length_append, List.nil_append, show (codes ") as ").length = 5 by decide]; show 1 + _ + _ + _ ≤ _; omega) ?_⟩
      have fin := q H1 s1
      rw [show (40 :: (jl [32] ls ++ 41 :: (codes " as " ++ m))) = [] ++ [40] ++ jl [32] ls ++ codes ") as " ++ m by rw [show codes ") as " = 41 :: codes " as " by decide]; simp] at fin
      exact fin
theorem ok_jt {f : Addr} {fd : FuncData} {j : Nat} (h8j : 8 ≤ j) (n : Nat) (F : Fun K "join_text" "join_text" s_join_text f fd) (M : Mg mg) (c_operand_text : Cl P w K mg base j "operand_text" (sp_op K n)) (c_print_expression : Cl P w K mg base 8 "print_expression" (sp_pr K 3)) : FnOk P w K mg base CX0 (j + 1) f fd ["stage"] (sp_jt K n) := by
  refine F.ok sc_join_text (fun vs H Q E h => ?_) (fun cdv A outer s H vs Q E hr h => ?_)
  · obtain ⟨a, L, s, o, x, e, u, rfl, _⟩ := h
    rfl
  · obtain ⟨a, L, s', o, x, e, u, rfl, hj, hs, ho, dp, ok, ht, hn, q⟩ := h
    have ul := ho.le hn
    have el := pr2 ok ht
    have jl9 : (codes (joiT s')).length ≤ 10 := by
      simp only [JOI, List.mem_cons, List.not_mem_nil, or_false] at hj
      rcases hj with rfl | rfl | rfl | rfl <;> decide
    obtain ⟨t, ht', hq⟩ : ∃ t, PSs (cxOf CX0 P w K mg base N_join_text "join_text" (defScope s_join_text) f cdv A outer s H E).nox ((defBody s_join_text).drop 2) t ∧ t { nx := fun _ H' => Q .non H', rt := Q } [some (.ref a), some (.str "join"), some (.str (Str.ofString s')), some o, some x, some (tx (codes (joiT s')))] H := by
      refine ⟨_, (pss_one (ps_ret (pe_joined (.cons (pe_fmt (pv 5)) (.cons pe_str (.cons (pe_fmt (pe_u c_operand_text hr (by first | decide | omega) (by rfl) (pa_cons (pv 3) pa_nil))) (.cons pe_str (.cons (pe_fmt (pe_u c_print_expression hr (by first | decide | omega) (by rfl) (pa_cons (pv 4) pa_nil))) .nil)))))))), ?_⟩
      refine ⟨_, rfl, js_f (L := []) (by rw [List.nil_append]; omega) ?_⟩
      refine js_c (L := [] ++ codes (joiT s')) [32] rfl (by rw [List.length_append, List.nil_append]; show _ + 1 ≤ _; omega) ?_
      refine ⟨_, rfl, o, L, u, rfl, ho, hn, fun H1 s1 => ?_⟩
      refine js_f (L := [] ++ codes (joiT s') ++ [32]) (by simp only [List.length_append, List.nil_append, List.length_singleton]; omega) ?_
      refine js_c (L := [] ++ codes (joiT s') ++ [32] ++ u) (codes " on ") (codes_S _) (by simp only [List.length_append, List.nil_append, List.length_singleton, show (codes " on ").length = 4 by decide]; omega) ?_
      refine ⟨_, rfl, x, e, rfl, Dp.ext s1 _ _ dp, ok, by omega, by omega, fun H2 s2 => ?_⟩
      refine js_f (L := [] ++ codes (joiT s') ++ [32] ++ u ++ codes " on ") (by simp only [List.length_append, List.nil_append, List.length_singleton, show (codes " on ").length = 4 by decide]; omega) ?_
      have fin := q H2 (s1.trans s2)
      rw [show codes (joiT s') ++ 32 :: (u ++ (codes " on " ++ e.pr)) = [] ++ codes (joiT s') ++ [32] ++ u ++ codes " on " ++ e.pr by simp] at fin
      exact fin
    refine ⟨_, (pss_cons (ps_asg (pv 0) (pg_tup (by rfl) (pgs_cons (pg_name (i := 1) sc_join_text.nd rfl (.inl rfl)) (pgs_cons (pg_name (i := 2) sc_join_text.nd rfl (.inl rfl)) (pgs_cons (pg_name (i := 3) sc_join_text.nd rfl (.inl rfl)) (pgs_cons (pg_name (i := 4) sc_join_text.nd rfl (.inl rfl)) pgs_nil))))))
      (pss_cons (ps_set (i := 5) sc_join_text.nd rfl (.inl rfl) (pe_ifExp (pt_cmpR op_eq (pv 2) pe_str (nomark _)) pe_str (pe_joined (.cons (pe_fmt (pv 2)) (.cons pe_str .nil)))))
      ht')), ?_⟩
    refine ⟨_, rfl, a, _, rfl, hs, rfl, _, _, rfl, _, _, rfl, _, _, rfl, _, _, rfl, rfl, ?_⟩
    refine ⟨_, rfl, rfl, _, rfl, ?_⟩
    by_cases hi : s' = "inner"
    · subst hi
      exact iteT hq
    · have facts : decide (V.str (Str.ofString s') = V.str "inner") = false ∧ (codes s').length ≤ 6 ∧ codes (joiT s') = codes s' ++ codes " join" := by
        simp only [JOI, List.mem_cons, List.not_mem_nil, or_false] at hj
        rcases hj with rfl | rfl | rfl | rfl
        · exact absurd rfl hi
        · exact ⟨wne _ _ (by decide +kernel), by decide, by decide⟩
        · exact ⟨wne _ _ (by decide +kernel), by decide, by decide⟩
        · exact ⟨wne _ _ (by decide +kernel), by decide, by decide⟩
      obtain ⟨h1, h2, h3⟩ := facts
      rw [h1]
      refine iteF ⟨_, rfl, ?_⟩
      rw [codes_S s']
      refine js_f (L := []) (by rw [List.nil_append]; omega) ?_
      refine js_c (L := [] ++ codes s') (codes " join") (codes_S _) (by rw [List.length_append, List.nil_append, show (codes " join").length = 5 by decide]; omega) ?_
      rw [codes_S s', h3] at hq
      exact hq
theorem ok_st {f : Addr} {fd : FuncData} {j : Nat} (h11 : 11 ≤ j) (n : Nat) (F : Fun K "stage_text" "stage_text" s_stage_text f fd) (M : Mg mg) (c_join_text : Cl P w K mg base j "join_text" (sp_jt K n)) (c_group_text : Cl P w K mg base 11 "group_text" (sp_group K)) (c_outputs_text : Cl P w K mg base 10 "outputs_text" (sp_outs K)) (c_print_expression : Cl P w K mg base 8 "print_expression" (sp_pr K 3)) : FnOk P w K mg base CX0 (j + 1) f fd ["stage"] (sp_st K n) := by
  refine F.ok sc_stage_text (fun vs H Q E h => ?_) (fun cdv A outer s H vs Q E hr h => ?_)
  · obtain ⟨p, L, t, rfl, _⟩ := h
    rfl
  · obtain ⟨p, L, t, rfl, h, hn, q⟩ := h
    refine ⟨_, (pss_cons (ps_set (i := 1) sc_stage_text.nd rfl (.inl rfl) (pe_ix (ix_tupK K) (pv 0) pe_int (fun _ _ => rfl)))
      (pss_cons (ps_if (pt_cmpR op_eq (pv 1) pe_str (nomark _)) (pss_one (ps_ret (pe_u c_join_text hr (by first | decide | omega) (by rfl) (pa_cons (pv 0) pa_nil)))) pss_nil)
      (pss_cons (ps_if (pt_cmpR op_eq (pv 1) pe_str (nomark _)) (pss_one (ps_ret (pe_joined (.cons pe_str (.cons (pe_fmt (pe_u c_print_expression hr (by first | decide | omega) (by rfl) (pa_cons (pe_ix (ix_tupK K) (pv 0) pe_int (fun _ _ => rfl)) pa_nil))) .nil))))) pss_nil)
      (pss_cons (ps_if (pt_cmpR op_eq (pv 1) pe_str (nomark _)) (pss_one (ps_ret (pe_joined (.cons pe_str (.cons (pe_fmt (pe_u c_outputs_text hr (by first | decide | omega) (by rfl) (pa_cons (pe_ix (ix_tupK K) (pv 0) pe_int (fun _ _ => rfl)) pa_nil))) .nil))))) pss_nil)
      (pss_one (ps_ret (pe_u c_group_text hr (by first | decide | omega) (by rfl) (pa_cons (pv 0) pa_nil)))))))), ?_⟩
    obtain ⟨a, rfl, ⟨s', o, x, e, u, hj, hs, ho, dp, ok, ht, rfl⟩ | ⟨x, e, hs, dp, ok, ht, rfl⟩ | ⟨o, ts, hs, ho, k, rfl⟩ | ⟨o, p, ts, us, hs, ho, hp, k1, k2, rfl⟩⟩ := h
    · refine ⟨_, rfl, a, _, _, _, rfl, rfl, hs, atI_nat (j := 0) rfl, ?_⟩
      refine ⟨_, rfl, rfl, _, rfl, iteT ?_⟩
      exact ⟨_, rfl, a, L, s', o, x, e, u, rfl, hj, hs, ho, dp, ok, ht, hn, q⟩
    · have el := pr2 ok ht
      refine ⟨_, rfl, a, _, _, _, rfl, rfl, hs, atI_nat (j := 0) rfl, ?_⟩
      refine ⟨_, rfl, rfl, _, rfl, iteF ?_⟩
      refine ⟨_, rfl, rfl, _, rfl, iteT ?_⟩
      refine js_c (L := []) (codes "where ") (codes_S _) (by decide) ?_
      refine ⟨_, rfl, a, _, _, _, rfl, rfl, hs, atI_nat (j := 1) rfl, x, e, rfl, dp, ok, by omega, by omega, fun H1 s1 => ?_⟩
      refine js_f (L := [] ++ codes "where ") (by rw [List.nil_append, List.length_append, show (codes "where ").length = 6 by decide]; omega) ?_
      exact q H1 s1
    · have lo := ho.le (fun _ _ z => RO.len z) k
      have j1 := jl_len [44, 32] ts
      have e2 : ([44, 32] : List Nat).length = 2 := rfl
      rw [e2] at j1
      refine ⟨_, rfl, a, _, _, _, rfl, rfl, hs, atI_nat (j := 0) rfl, ?_⟩
      refine ⟨_, rfl, rfl, _, rfl, iteF ?_⟩
      refine ⟨_, rfl, rfl, _, rfl, iteF ?_⟩
      refine ⟨_, rfl, rfl, _, rfl, iteT ?_⟩
      refine js_c (L := []) (codes "select ") (codes_S _) (by decide) ?_
      refine ⟨_, rfl, a, _, _, _, rfl, rfl, hs, atI_nat (j := 1) rfl, o, L, ts, rfl, ho, k, fun H1 s1 => ?_⟩
      refine js_f (L := [] ++ codes "select ") (by rw [List.nil_append, List.length_append, show (codes "select ").length = 7 by decide]; omega) ?_
      exact q H1 s1
    · refine ⟨_, rfl, a, _, _, _, rfl, rfl, hs, atI_nat (j := 0) rfl, ?_⟩
      refine ⟨_, rfl, rfl, _, rfl, iteF ?_⟩
      refine ⟨_, rfl, rfl, _, rfl, iteF ?_⟩
      refine ⟨_, rfl, rfl, _, rfl, iteF ?_⟩
      exact ⟨_, rfl, a, o, p, L, ts, us, rfl, hs, ho, hp, k1, k2, q⟩
theorem flat_take {β : Type} (css : List (List β)) (i : Nat) (c : List β) (h : css[i]? = some c) : (css.take (i + 1)).flatten = (css.take i).flatten ++ c := by
  rw [List.take_add_one, h, List.flatten_append]
  simp
theorem flat_le : ∀ (css : List (List (List Nat))) (i : Nat), (css.take i).flatten.length ≤ css.flatten.length
  | [], i => by simp
  | c :: css, 0 => Nat.zero_le _
  | c :: css, i + 1 => by
    have := flat_le css i
    rw [List.take_succ_cons, List.flatten_cons, List.flatten_cons, List.length_append, List.length_append]
    omega
theorem ok_ql {f : Addr} {fd : FuncData} {j : Nat} (n : Nat) (F : Fun K "query_lines" "query_lines" s_query_lines f fd) (M : Mg mg) (c_operand_text : Cl P w K mg base j "operand_text" (sp_op K n)) (c_stage_text : Cl P w K mg base (j + 2) "stage_text" (sp_st K n)) : FnOk P w K mg base CX0 (j + 3) f fd ["query"] (sp_ql K (n + 1)) := by
  refine F.ok sc_query_lines (fun vs H Q E h => ?_) (fun cdv A outer s H vs Q E hr h => ?_)
  · obtain ⟨p, L, ls, rfl, _⟩ := h
    rfl
  · obtain ⟨p, L, ls, rfl, ⟨css, ⟨a, xs, rfl, hL, eL, hf⟩, k, rfl⟩, hn, q⟩ := h
    have hfl := hf.len
    refine ⟨_, (pss_cons (ps_set (i := 1) sc_query_lines.nd rfl (.inl rfl) (pe_lst pa_nil))
      (pss_cons (ps_for PassesOwn.never rfl (pi_list (pv 0)) (pg_tup (by rfl) (pgs_cons (pg_name (i := 2) sc_query_lines.nd rfl (.inl rfl)) (pgs_cons (pg_tup (by rfl) (pgs_cons (pg_name (i := 3) sc_query_lines.nd rfl (.inl rfl)) (pgs_cons (pg_name (i := 4) sc_query_lines.nd rfl (.inl rfl)) pgs_nil))) pgs_nil))) (pss_cons (ps_set (i := 5) sc_query_lines.nd rfl (.inl rfl) (pe_joined (.cons pe_str (.cons (pe_fmt (pe_u c_operand_text hr (by first | decide | omega) (by rfl) (pa_cons (pv 3) pa_nil))) .nil))))
      (pss_cons (ps_expr (pe_bmK K PySem.F.plainAttrs_list PySem.F.slot_list_append PySem.F.type_list_append mt_append (pv 1) (pa_cons (pe_ifExp (pt_cmpR op_isN (pv 2) pe_non (nomark _)) (pv 5) (pe_joined (.cons (pe_fmt (pv 2)) (.cons pe_str (.cons (pe_fmt (pv 5)) .nil))))) pa_nil)))
      (pss_one (ps_expr (pe_bmK K PySem.F.plainAttrs_list PySem.F.slot_list_extend PySem.F.type_list_extend mt_extend (pv 1) (pa_cons (pe_lc (own := [("stage", 6)]) (g := gName 6) (tt := tYes) rfl sc_query_lines.nd (pi_list (pv 4)) (blkOk_by (N := N_query_lines) (sc := defScope s_query_lines) (by decide +kernel)) (fun _ _ _ _ _ => (pg_name (i := 6) sc_query_lines.nd rfl (.inl rfl))) (fun _ _ _ _ _ => pts_nil) (fun _ _ _ _ _ => (pe_u c_stage_text hr (by first | decide | omega) (by rfl) (pa_cons (pv 6) pa_nil)))) pa_nil)))))))
      (pss_one (ps_ret (pv 1))))), ?_⟩
    refine ⟨Nat.zero_le _, fun D nD => ?_⟩
    refine ⟨_, rfl, a, rfl, ⟨_, .of ((same_upd nD) _ _ eL)⟩, ?_⟩
    refine for_list (K := K) (a := a) (xs := xs) (fun i σ Hi => Same H Hi ∧ Hi D = some (.lst ((css.take i).flatten.map tx)) ∧ (css.take i).flatten.length ≤ 4 * i ∧ ∃ y2 y3 y4 y5 y6, σ = [some (.ref a), some (.ref D), y2, y3, y4, y5, y6]) ⟨same_upd nD, upd_same, Nat.le_refl _, _, _, _, _, _, rfl⟩ (fun i σ Hi _ hp => .of (hp.1 _ _ eL)) (fun i x σ Hi hx hp => ?_) (fun σ Hn hp => ?_)
    · obtain ⟨si, eD, li, y2, y3, y4, y5, y6, rfl⟩ := hp
      obtain ⟨c, hc, rc⟩ := hf.get hx
      have hi : i < 2 := by have := (List.getElem?_eq_some_iff.mp hc).1; omega
      obtain ⟨a', b, how, l, o, sp, u, ts, rfl, hs1, hs2, hh, ho, hst, kt, rfl⟩ := rc
      have ul := ho.le (by omega)
      have lh := how_len hh
      refine ⟨a', _, rfl, SqT.ext si hs1, rfl, _, _, rfl, _, _, rfl, ⟨b, _, rfl, SqT.ext si hs2, rfl, _, _, rfl, _, _, rfl, rfl, rfl, ?_⟩⟩
      refine js_c (L := []) (codes "from ") (codes_S _) (by decide) ?_
      refine ⟨_, rfl, o, L, u, rfl, ho.ch (Ch.of (L := L) si) (fun v t z => RQ.ch (Ch.of si) n v t z), by omega, fun H1 s1 => ?_⟩
      refine js_f (L := [] ++ codes "from ") (by rw [List.nil_append, List.length_append, show (codes "from ").length = 5 by decide]; omega) ?_
      -- the rest: stages
      have s01 := si.trans s1
      have eD1 := s1 _ _ eD
      have val : ∀ Qc : VK, Qc (tx (l ++ (codes "from " ++ u))) H1 → tIf (tTest (tOp (fun x y H Q => y = V.non ∧ Q (V.bl (decide (x = V.non))) H) (tVar 2) (tC V.non))) (tVar 5) (fun σ H Q => tJs [tFmt (tVar 2), tC (V.str (Str.ofString " ")), tFmt (tVar 5)] Str.empty σ H fun out H1 => Q (V.str out) H1) [some (.ref a), some (.ref D), some how, some o, some sp, some (tx ([] ++ codes "from " ++ u)), y6] H1 Qc := fun Qc qc => by
        rcases hh with ⟨rfl, rfl⟩ | ⟨s', hs', rfl, rfl⟩
        · exact ⟨_, rfl, rfl, _, rfl, iteT ⟨_, rfl, qc⟩⟩
        · have ls : (codes s').length ≤ 10 := by rw [List.length_append] at lh; omega
          refine ⟨_, rfl, rfl, _, rfl, iteF ⟨_, rfl, ?_⟩⟩
          rw [codes_S s']
          refine js_f (L := []) (by rw [List.nil_append]; omega) ?_
          refine js_c (L := [] ++ codes s') [32] rfl (by rw [List.length_append, List.nil_append]; show _ + 1 ≤ _; omega) ?_
          refine ⟨_, rfl, js_f (L := [] ++ codes s' ++ [32]) (by simp only [List.length_append, List.nil_append, List.length_singleton, show (codes "from ").length = 5 by decide]; omega) ?_⟩
          exact qc
      have lt1000 : (1000 : Nat) < sizeLine := by decide
      refine ⟨_, rfl, .inl ⟨rfl, _, .of eD1⟩, val _ ?_⟩
      refine ⟨D, _, _, rfl, rfl, eD1, by rw [List.length_map]; omega, ?_⟩
      have s2 : Same H (upd H1 D (.lst ((css.take i).flatten.map tx ++ [tx (l ++ (codes "from " ++ u))]))) := same_at s01 nD
      have e2 : (upd H1 D (.lst ((css.take i).flatten.map tx ++ [tx (l ++ (codes "from " ++ u))]))) D = some (.lst ((css.take i).flatten.map tx ++ [tx (l ++ (codes "from " ++ u))])) := upd_same
      generalize upd H1 D (.lst ((css.take i).flatten.map tx ++ [tx (l ++ (codes "from " ++ u))])) = H2 at s2 e2
      have st2 := hst.ch (R' := RSt (ROp (RQ L K H2 n) K H2) L K H2) (Ch.of (L := L) s2) fun v t z => z.ch (Ch.of (L := L) s2) fun v t y => y.ch (Ch.of (L := L) s2) fun v t x => RQ.ch (Ch.of s2) n v t x
      obtain ⟨as, xst, rfl, hLs, es, fs⟩ := st2
      refine ⟨_, rfl, .inl ⟨rfl, _, .of e2⟩, _, rfl, as, rfl, ⟨_, .of es⟩, fun D2 nD2 => ?_⟩
      refine lc_txt (K := K) (a := as) fs (by omega) (.of es) nD2 (fun v t H3 r s3 Qc Nc qc => ⟨rfl, ?_⟩) (fun Hn sn eD2 => ?_)
      · exact ⟨_, rfl, v, L, t, rfl, r.ch (Ch.of (L := L) s3) (fun v t y => y.ch (Ch.of (L := L) s3) fun v t x => RQ.ch (Ch.of s3) n v t x), by omega, qc⟩
      · have eDn := sn _ _ e2
        refine ⟨D, D2, _, _, rfl, rfl, eDn, eD2, by rw [List.length_append, List.length_map, List.length_map]; show _ + 1 + _ ≤ _; omega, ?_⟩
        refine ⟨same_at (s2.trans sn) nD, ?_, ?_, _, _, _, _, _, rfl⟩
        · rw [upd_same, flat_take css i _ hc, List.map_append, List.map_cons, List.append_assoc]
          rfl
        · rw [flat_take css i _ hc, List.length_append, List.length_cons]
          omega
    · obtain ⟨sn, eD, _, y2, y3, y4, y5, y6, rfl⟩ := hp
      rw [hfl, List.take_length] at eD
      exact ⟨_, rfl, q Hn D sn nD eD⟩
theorem ok_pq {f : Addr} {fd : FuncData} {j : Nat} (n : Nat) (F : Fun K "print_query" "print_query" s_print_query f fd) (M : Mg mg) (c_query_lines : Cl P w K mg base j "query_lines" (sp_ql K n)) : FnOk P w K mg base CX0 (j + 1) f fd ["query"] (sp_pq K n) := by
  refine F.ok sc_print_query (fun vs H Q E h => ?_) (fun cdv A outer s H vs Q E hr h => ?_)
  · obtain ⟨p, L, ls, rfl, _⟩ := h
    rfl
  · obtain ⟨p, L, ls, rfl, h, hn, q⟩ := h
    have hl := RQ.len n _ _ h
    have := bl3 hn
    refine ⟨_, (pss_one (ps_ret (pe_join pe_str (pe_u c_query_lines hr (by first | decide | omega) (by rfl) (pa_cons (pv 0) pa_nil))))), ?_⟩
    refine ⟨⟨_, rfl⟩, _, rfl, p, L, ls, rfl, h, hn, fun H1 D s1 nD eD => ?_⟩
    rw [tx_map] at eD
    refine ⟨_, D, _, rfl, rfl, .inl (.of eD), ?_, ?_⟩
    · rw [lens_S, List.length_map]
      show _ + ls.length * 1 ≤ 16777216
      omega
    · rw [show Txt.join (Str.ofString " ") (ls.map fun l => (⟨l.toArray⟩ : Str)) = ⟨(jl [32] ls).toArray⟩ from jl_S [32] ls]
      exact q H1 s1
/-- queries, by how deep they stand within one another -/
theorem cl_pq {fq fo fj fs fl : Addr} {dq d_o dj ds dl : FuncData} (FQ : Fun K "print_query" "print_query" s_print_query fq dq) (FO : Fun K "operand_text" "operand_text" s_operand_text fo d_o) (FJ : Fun K "join_text" "join_text" s_join_text fj dj) (FS : Fun K "stage_text" "stage_text" s_stage_text fs ds) (FL : Fun K "query_lines" "query_lines" s_query_lines fl dl) (M : Mg mg)
    (gq : mg "print_query" = some (.ref fq)) (bq : Binds K dq ["query"] []) (go : mg "operand_text" = some (.ref fo)) (bo : Binds K d_o ["operand"] []) (gj : mg "join_text" = some (.ref fj)) (bj : Binds K dj ["stage"] []) (gs : mg "stage_text" = some (.ref fs)) (bs : Binds K ds ["stage"] []) (gl : mg "query_lines" = some (.ref fl)) (bl : Binds K dl ["query"] [])
    (c_group_text : Cl P w K mg base 11 "group_text" (sp_group K)) (c_outputs_text : Cl P w K mg base 10 "outputs_text" (sp_outs K)) (c_print_expression : Cl P w K mg base 8 "print_expression" (sp_pr K 3)) : ∀ n, Cl P w K mg base (5 * n + 11) "print_query" (sp_pq K n)
  | 0 => FnOk.cl (P := P) (w := w) (base := base) (FQ.ok sc_print_query (fun vs H Q E h => by obtain ⟨p, L, ls, rfl, _⟩ := h; rfl) (fun cdv A outer s H vs Q E hr h => by obtain ⟨p, L, ls, rfl, h, _⟩ := h; exact h.elim)) FQ gq bq
  | n + 1 => by
    have Q0 := cl_pq FQ FO FJ FS FL M gq bq go bo gj bj gs bs gl bl c_group_text c_outputs_text c_print_expression n
    have O := FnOk.cl (ok_op n FO M Q0) FO go bo
    have J := FnOk.cl (ok_jt (by omega) n FJ M O c_print_expression) FJ gj bj
    have S := FnOk.cl (ok_st (by omega) n FS M J c_group_text c_outputs_text c_print_expression) FS gs bs
    have L := FnOk.cl (ok_ql (j := 5 * n + 12) n FL M O S) FL gl bl
    exact FnOk.cl (ok_pq (n + 1) FQ M L) FQ gq bq
end

/-! ### the law's queries -/
theorem none_back {H H1 : Hp} {d c : Addr} (dr : Dr H1 d c) (f : Fd d H H1) : ∀ a, H1 a = none → H a = none := fun a h => by
  cases e : H a with
  | none => rfl
  | some o =>
    by_cases n : a = d
    · subst n
      obtain ⟨zs, hz⟩ := dr.lst
      rw [hz] at h
      cases h
    · rw [f a o n e] at h
      cases h
theorem Ch.dr {L : Addr → Prop} {H H' : Hp} {d c : Addr} (dr : Dr H d c) (hL : ¬ L d) (f : Fd d H H') : Ch L H H' := Ch.fd dr.lst hL f
theorem Ch.at {L : Addr → Prop} {H : Hp} {U : Addr} {xs : List V} {o : HO} (e : H U = some (.lst xs)) (hL : ¬ L U) : Ch L H (upd H U o) := Ch.fd ⟨xs, e⟩ hL Fd.at
theorem last_len {e : Ex} {m : List Nat} (h : e.ok) (hl : e.last = some m) : m.length ≤ 21 := by
  cases e with
  | name l =>
    have : l = m := Option.some.inj hl
    subst this
    exact h
  | field l k =>
    have : k = m := Option.some.inj hl
    subst this
    exact h.2
  | _ => cases hl
theorem fd_at {d : Addr} {H H' : Hp} {U : Addr} {o : HO} (f : Fd d H H') (n : H U = none) : Fd d H (upd H' U o) := fun b x nb e => by
  rw [upd_ne (ne_of_none e n)]
  exact f b x nb e
theorem outs_step {K : PySem.W.Frag} {Hx : Hp} {p U : Addr} {xs : List V} {ts : List (List Nat)} {x : V} {e : Ex} {l : List Nat} (eU : Hx U = some (.lst xs)) (np : Hx p = none) (hf : F2 (RO K Hx) xs ts) (dp : Dp K Hx x e.d) (ok : e.ok) (ht : e.ht ≤ 2) (ll : l.length ≤ 21) :
    F2 (RO K (upd (upd Hx p (.tup [x, tx l])) U (.lst (xs ++ [.ref p])))) (xs ++ [.ref p]) (ts ++ [outT e l]) := by
  have c1 : Ch (fun _ => False) Hx (upd Hx p (.tup [x, tx l])) := Ch.of (same_upd np)
  have c2 : Ch (fun _ => False) (upd Hx p (.tup [x, tx l])) (upd (upd Hx p (.tup [x, tx l])) U (.lst (xs ++ [.ref p]))) := Ch.at ((same_upd np) _ _ eU) fun z => z
  refine F2.snoc (hf.imp fun v t z => (z.ch c1).ch c2) ⟨p, x, e, l, rfl, c2.tup (.inl (.inl upd_same)), Dp.ch (c1.trans c2) _ _ (ex_only e) dp, ok, ht, ll, rfl⟩
def sp_louts (K : PySem.W.Frag) : Sp := fun vs H Q _ => ∃ (d c : Addr) (m : Nat), vs = [.ref d, .int (m : Nat)] ∧ m ≤ 2 ∧ Dr H d c ∧ ∀ H' p ts, Fd d H H' → Dr H' d c → Rl (fun a => H a = none) (RO K H') H' p ts → ts.length ≤ 3 → Q p H'
def sp_ltots (K : PySem.W.Frag) : Sp := fun vs H Q _ => ∃ (d c : Addr) (m : Nat), vs = [.ref d, .int (m : Nat)] ∧ m ≤ 2 ∧ Dr H d c ∧ ∀ H' p ts, Fd d H H' → Dr H' d c → Rl (fun a => H a = none) (RTo K H') H' p ts → ts.length ≤ 3 → Q p H'
def sp_lq (K : PySem.W.Frag) (n : Nat) : Sp := fun vs H Q _ => ∃ (d c : Addr) (i m : Nat), vs = [.ref d, .int (i : Nat), .int (m : Nat)] ∧ i < n ∧ m ≤ 2 ∧ Dr H d c ∧ ∀ H' p ls, Fd d H H' → Dr H' d c → RQ (fun a => H a = none) K H' (i + 1) p ls → ls ≠ [] → Q p H'
def sp_lop (K : PySem.W.Frag) (n : Nat) : Sp := fun vs H Q _ => ∃ (d c : Addr) (i m : Nat), vs = [.ref d, .int (i : Nat), .int (m : Nat)] ∧ i ≤ n ∧ m ≤ 2 ∧ Dr H d c ∧ ∀ H' p t, Fd d H H' → Dr H' d c → ROp (RQ (fun a => H a = none) K H' i) K H' p t → Q p H'
def sp_lst (K : PySem.W.Frag) (n : Nat) : Sp := fun vs H Q _ => ∃ (d c : Addr) (i m : Nat), vs = [.ref d, .int (i : Nat), .int (m : Nat)] ∧ i ≤ n ∧ m ≤ 2 ∧ Dr H d c ∧ ∀ H' p t, Fd d H H' → Dr H' d c → RSt (ROp (RQ (fun a => H a = none) K H' i) K H') (fun a => H a = none) K H' p t → Q p H'
section
variable {P : Program} {w : World} {K : PySem.W.Frag} {mg : Str → Option Value} {base : Heap}
theorem ok_louts {f : Addr} {fd : FuncData} (F : Fun K "_law_outputs" "_law_outputs" s__law_outputs f fd) (M : Mg mg) (c__law_next : Cl P w K mg base 1 "_law_next" sp_next) (c__law_name : Cl P w K mg base 2 "_law_name" sp_name) (c__law_expression : Cl P w K mg base 6 "_law_expression" (sp_lex K 3)) : FnOk P w K mg base CX0 7 f fd ["draw", "depth"] (sp_louts K) := by
  refine F.ok sc__law_outputs (fun vs H Q E h => ?_) (fun cdv A outer s H vs Q E hr h => ?_)
  · obtain ⟨d, c, m, rfl, _⟩ := h
    rfl
  · obtain ⟨d, c, m, rfl, hm, dr, q⟩ := h
    refine ⟨_, (pss_cons (ps_set (i := 2) sc__law_outputs.nd rfl (.inl rfl) (pe_lst pa_nil))
      (pss_cons (ps_for PassesOwn.never rfl (pi_range1 (by rfl) M.range (pa_cons (pe_op op_add pe_int (pe_u c__law_next hr (by first | decide | omega) (by rfl) (pa_cons (pv 0) (pa_cons pe_int pa_nil)))) pa_nil)) (pg_name (i := 3) sc__law_outputs.nd rfl (.inl rfl)) (pss_cons (ps_set (i := 4) sc__law_outputs.nd rfl (.inl rfl) (pe_u c__law_expression hr (by first | decide | omega) (by rfl) (pa_cons (pv 0) (pa_cons (pv 1) pa_nil))))
      (pss_cons (ps_set (i := 5) sc__law_outputs.nd rfl (.inl rfl) (pe_u c__law_name hr (by first | decide | omega) (by rfl) (pa_cons (pv 0) pa_nil)))
      (pss_cons (ps_if (pt_cmpR op_eq (pe_u c__law_next hr (by first | decide | omega) (by rfl) (pa_cons (pv 0) (pa_cons pe_int pa_nil))) pe_int (nomark _)) (pss_one (ps_set (i := 5) sc__law_outputs.nd rfl (.inl rfl) (pe_ifExp (pt_cmpR (inK K) (pe_ix (ix_tupK K) (pv 4) pe_int (fun _ _ => rfl)) (pe_tup (pa_cons pe_str (pa_cons pe_str pa_nil))) (by rfl)) (pe_ix (ix_tupK K) (pv 4) (pe_un un_neg pe_int) (fun _ _ => rfl)) (pv 5)))) pss_nil)
      (pss_one (ps_expr (pe_bmK K PySem.F.plainAttrs_list PySem.F.slot_list_append PySem.F.type_list_append mt_append (pv 2) (pa_cons (pe_tup (pa_cons (pv 4) (pa_cons (pv 5) pa_nil))) pa_nil))))))))
      (pss_one (ps_ret (pv 2))))), ?_⟩
    refine ⟨Nat.zero_le _, fun U nU => ?_⟩
    have nUd := dr.nd nU
    have nUc := dr.nc nU
    have f1 : Fd d H (upd H U (.lst [])) := Fd.new nU
    refine ⟨_, rfl, d, c, 3, rfl, dr.ext (same_upd nU), by decide, by decide, fun H2 k f2 _ dr2 k0 k1 => ⟨_, _, rfl, rfl, _, rfl, by omega, by omega, ?_⟩⟩
    refine for_range (lo := 0) (n := (1 + k).toNat) (fun i σ Hi => Fd d H Hi ∧ Dr Hi d c ∧ ∃ xs ts y3 y4 y5, σ = [some (.ref d), some (.int (m : Nat)), some (.ref U), y3, y4, y5] ∧ Hi U = some (.lst xs) ∧ F2 (RO K Hi) xs ts ∧ ts.length = i) ⟨f1.trans f2, dr2, [], [], _, _, _, rfl, f2 _ _ nUd upd_same, .nil, rfl⟩ (fun i σ Hi hi hp => ?_) (fun σ Hn hp => ?_)
    · obtain ⟨fi, di, xs, ts, y3, y4, y5, rfl, eU, hf, hl⟩ := hp
      have hi3 : i < 3 := by omega
      refine ⟨_, rfl, _, rfl, d, c, m, rfl, by omega, di, fun H3 x e f3 dr3 ok ht dp => ?_⟩
      refine ⟨_, rfl, d, c, rfl, dr3, fun H4 l f4 dr4 nl => ?_⟩
      have ll := name_len nl
      have dp4 := Dp.fd dr3.lst f4 _ _ (ex_only e) dp
      have hf4 := hf.imp fun v t (z : RO K Hi v t) => (z.ch (Ch.dr (L := fun _ => False) di (fun z => z) (f3.trans f4)))
      have eU4 := (f3.trans f4) _ _ nUd eU
      have hlen : xs.length = i := by rw [hf.len, hl]
      refine ⟨_, rfl, d, c, 3, rfl, dr4, by decide, by decide, fun H5 b f5 _ dr5 _ _ => ⟨rfl, _, rfl, ite2 (fun _ => ?_) (fun _ => ?_)⟩⟩
      · have eU5 := f5 _ _ nUd eU4
        have hf5 := hf4.imp fun v t (z : RO K H4 v t) => z.ch (Ch.dr (L := fun _ => False) dr4 (fun z => z) f5)
        have dp5 := Dp.fd dr4.lst f5 _ _ (ex_only e) dp4
        have f05 := ((fi.trans f3).trans f4).trans f5
        cases hla : e.last with
        | none =>
          obtain ⟨b', ys, rfl, hs1⟩ := ex_word dp5
          refine ⟨_, rfl, b', _, _, _, rfl, rfl, hs1, atI_nat (j := 0) rfl, ?_⟩
          refine ⟨by show 2 ≤ sizeLine; decide, fun tp ntp => ?_⟩
          refine ⟨tp, _, rfl, .inr (.inl (.inl upd_same)), rfl, rfl, _, rfl, ?_⟩
          rw [if_neg Bool.false_ne_true, nf, hla]
          refine iteF ⟨_, rfl, ?_⟩
          have s6 := same_upd ntp (o := .tup [.str "name", .str "field"])
          have eU6 := s6 _ _ eU5
          have hf6 := hf5.imp fun v t (z : RO K H5 v t) => z.ch (Ch.of (L := fun _ => False) s6)
          have dp6 := Dp.ext s6 _ _ dp5
          have f06 := f05.trans (Fd.of s6)
          have dr6 := dr5.ext s6
          generalize upd H5 tp (.tup [.str "name", .str "field"]) = H6 at eU6 hf6 dp6 f06 dr6
          refine ⟨_, rfl, .inl ⟨rfl, _, .of eU6⟩, _, rfl, _, rfl, by show 2 ≤ sizeLine; decide, fun p np => ?_⟩
          refine ⟨U, _, _, rfl, rfl, (same_upd np) _ _ eU6, by rw [hlen]; exact Nat.lt_of_lt_of_le (m := 10) (by omega) (by decide), ?_⟩
          exact ⟨fd_at (f06.trans (Fd.new np)) nU, (dr6.ext (same_upd np)).upd nUd nUc, _, _, _, _, _, rfl, upd_same, outs_step eU6 np hf6 dp6 ok (by omega) ll, by rw [List.length_append, hl]; rfl⟩
        | some m' =>
          obtain ⟨b', ys, rfl, hs1, at0, atl⟩ := last_at dp5 hla
          refine ⟨_, rfl, b', _, _, _, rfl, rfl, hs1, at0, ?_⟩
          refine ⟨by show 2 ≤ sizeLine; decide, fun tp ntp => ?_⟩
          refine ⟨tp, _, rfl, .inr (.inl (.inl upd_same)), rfl, rfl, _, rfl, ?_⟩
          rw [if_neg Bool.false_ne_true, nf, hla]
          have s6 := same_upd ntp (o := .tup [.str "name", .str "field"])
          refine iteT ⟨_, rfl, _, rfl, b', _, _, _, rfl, rfl, SqT.ext s6 hs1, atl, ?_⟩
          have lm := last_len ok hla
          have eU6 := s6 _ _ eU5
          have hf6 := hf5.imp fun v t (z : RO K H5 v t) => z.ch (Ch.of (L := fun _ => False) s6)
          have dp6 := Dp.ext s6 _ _ dp5
          have f06 := f05.trans (Fd.of s6)
          have dr6 := dr5.ext s6
          generalize upd H5 tp (.tup [.str "name", .str "field"]) = H6 at eU6 hf6 dp6 f06 dr6
          refine ⟨_, rfl, .inl ⟨rfl, _, .of eU6⟩, _, rfl, _, rfl, by show 2 ≤ sizeLine; decide, fun p np => ?_⟩
          refine ⟨U, _, _, rfl, rfl, (same_upd np) _ _ eU6, by rw [hlen]; exact Nat.lt_of_lt_of_le (m := 10) (by omega) (by decide), ?_⟩
          exact ⟨fd_at (f06.trans (Fd.new np)) nU, (dr6.ext (same_upd np)).upd nUd nUc, _, _, _, _, _, rfl, upd_same, outs_step eU6 np hf6 dp6 ok (by omega) lm, by rw [List.length_append, hl]; rfl⟩
      · have eU5 := f5 _ _ nUd eU4
        have hf5 := hf4.imp fun v t (z : RO K H4 v t) => z.ch (Ch.dr (L := fun _ => False) dr4 (fun z => z) f5)
        have dp5 := Dp.fd dr4.lst f5 _ _ (ex_only e) dp4
        have f05 := ((fi.trans f3).trans f4).trans f5
        refine ⟨_, rfl, .inl ⟨rfl, _, .of eU5⟩, _, rfl, _, rfl, by show 2 ≤ sizeLine; decide, fun p np => ?_⟩
        refine ⟨U, _, _, rfl, rfl, (same_upd np) _ _ eU5, by rw [hlen]; exact Nat.lt_of_lt_of_le (m := 10) (by omega) (by decide), ?_⟩
        exact ⟨fd_at (f05.trans (Fd.new np)) nU, (dr5.ext (same_upd np)).upd nUd nUc, _, _, _, _, _, rfl, upd_same, outs_step eU5 np hf5 dp5 ok (by omega) ll, by rw [List.length_append, hl]; rfl⟩
    · obtain ⟨fi, di, xs, ts, y3, y4, y5, rfl, eU, hf, hl⟩ := hp
      exact ⟨_, rfl, q Hn _ ts fi di ⟨U, xs, rfl, nU, eU, hf⟩ (by omega)⟩
theorem ok_ltots {f : Addr} {fd : FuncData} (F : Fun K "_law_totals" "_law_totals" s__law_totals f fd) (M : Mg mg) (c__law_next : Cl P w K mg base 1 "_law_next" sp_next) (c__law_name : Cl P w K mg base 2 "_law_name" sp_name) (c__law_expression : Cl P w K mg base 6 "_law_expression" (sp_lex K 3)) : FnOk P w K mg base CX0 7 f fd ["draw", "depth"] (sp_ltots K) := by
  refine F.ok sc__law_totals (fun vs H Q E h => ?_) (fun cdv A outer s H vs Q E hr h => ?_)
  · obtain ⟨d, c, m, rfl, _⟩ := h
    rfl
  · obtain ⟨d, c, m, rfl, hm, dr, q⟩ := h
    refine ⟨_, (pss_cons (ps_set (i := 2) sc__law_totals.nd rfl (.inl rfl) (pe_lst pa_nil))
      (pss_cons (ps_for PassesOwn.never rfl (pi_range1 (by rfl) M.range (pa_cons (pe_op op_add pe_int (pe_u c__law_next hr (by first | decide | omega) (by rfl) (pa_cons (pv 0) (pa_cons pe_int pa_nil)))) pa_nil)) (pg_name (i := 3) sc__law_totals.nd rfl (.inl rfl)) (pss_cons (ps_set (i := 4) sc__law_totals.nd rfl (.inl rfl) (pe_u c__law_next hr (by first | decide | omega) (by rfl) (pa_cons (pv 0) (pa_cons pe_int pa_nil))))
      (pss_one (ps_if (pt_cmpR op_eq (pv 4) pe_int (nomark _)) (pss_one (ps_expr (pe_bmK K PySem.F.plainAttrs_list PySem.F.slot_list_append PySem.F.type_list_append mt_append (pv 2) (pa_cons (pe_tup (pa_cons (pe_tup (pa_cons pe_str pa_nil)) (pa_cons (pe_u c__law_name hr (by first | decide | omega) (by rfl) (pa_cons (pv 0) pa_nil)) pa_nil))) pa_nil)))) (pss_cons (ps_set (i := 5) sc__law_totals.nd rfl (.inl rfl) (pe_u c__law_expression hr (by first | decide | omega) (by rfl) (pa_cons (pv 0) (pa_cons (pv 1) pa_nil))))
      (pss_one (ps_expr (pe_bmK K PySem.F.plainAttrs_list PySem.F.slot_list_append PySem.F.type_list_append mt_append (pv 2) (pa_cons (pe_tup (pa_cons (pe_tup (pa_cons (pe_ix (ix_listK K) (pe_lst (pa_cons pe_str (pa_cons pe_str (pa_cons pe_str (pa_cons pe_str pa_nil))))) (pe_op op_sub (pv 4) pe_int) (fun _ _ => rfl)) (pa_cons (pv 5) pa_nil))) (pa_cons (pe_u c__law_name hr (by first | decide | omega) (by rfl) (pa_cons (pv 0) pa_nil)) pa_nil))) pa_nil)))))))))
      (pss_one (ps_ret (pv 2))))), ?_⟩
    refine ⟨Nat.zero_le _, fun U nU => ?_⟩
    have nUd := dr.nd nU
    have nUc := dr.nc nU
    have f1 : Fd d H (upd H U (.lst [])) := Fd.new nU
    refine ⟨_, rfl, d, c, 3, rfl, dr.ext (same_upd nU), by decide, by decide, fun H2 k f2 _ dr2 k0 k1 => ⟨_, _, rfl, rfl, _, rfl, by omega, by omega, ?_⟩⟩
    refine for_range (lo := 0) (n := (1 + k).toNat) (fun i σ Hi => Fd d H Hi ∧ Dr Hi d c ∧ ∃ xs ts y3 y4 y5, σ = [some (.ref d), some (.int (m : Nat)), some (.ref U), y3, y4, y5] ∧ Hi U = some (.lst xs) ∧ F2 (RTo K Hi) xs ts ∧ ts.length = i) ⟨f1.trans f2, dr2, [], [], _, _, _, rfl, f2 _ _ nUd upd_same, .nil, rfl⟩ (fun i σ Hi hi hp => ?_) (fun σ Hn hp => ?_)
    · obtain ⟨fi, di, xs, ts, y3, y4, y5, rfl, eU, hf, hl⟩ := hp
      have hi3 : i < 3 := by omega
      have hlen : xs.length = i := by rw [hf.len, hl]
      have c0 : ∀ {Ha Hb : Hp}, Dr Ha d c → Fd d Ha Hb → Ch (fun _ => False) Ha Hb := fun dr f => Ch.dr dr (fun z => z) f
      refine ⟨_, rfl, d, c, 5, rfl, di, by decide, by decide, fun H3 r f3 _ dr3 r0 r1 => ?_⟩
      have eU3 := f3 _ _ nUd eU
      have hf3 := hf.imp fun v t (z : RTo K Hi v t) => z.ch (c0 di f3)
      refine ⟨_, rfl, rfl, _, rfl, ite2 (fun e0 => ?_) (fun e0 => ?_)⟩
      · refine ⟨_, rfl, .inl ⟨rfl, _, .of eU3⟩, by show 1 ≤ sizeLine; decide, fun p1 n1 => ?_⟩
        have s4 := same_upd n1 (o := .tup [.str "count"])
        have e1 : (upd H3 p1 (.tup [.str "count"])) p1 = some (.tup [.str "count"]) := upd_same
        have eU4 := s4 _ _ eU3
        have hf4 := hf3.imp fun v t (z : RTo K H3 v t) => z.ch (Ch.of (L := fun _ => False) s4)
        have f04 := (fi.trans f3).trans (Fd.of s4)
        have dr4 := dr3.ext s4
        generalize upd H3 p1 (.tup [.str "count"]) = H4 at e1 eU4 hf4 f04 dr4
        refine ⟨_, rfl, d, c, rfl, dr4, fun H5 l f5 dr5 nl => ?_⟩
        have hc5 := c0 dr4 f5
        have e5 : SqT K H5 p1 [.str "count"] := hc5.tup (.inl (.inl e1))
        have eU5 := f5 _ _ nUd eU4
        have hf5 := hf4.imp fun v t (z : RTo K H4 v t) => z.ch hc5
        refine ⟨by show 2 ≤ sizeLine; decide, fun p np => ?_⟩
        refine ⟨U, _, _, rfl, rfl, (same_upd np) _ _ eU5, by rw [hlen]; exact Nat.lt_of_lt_of_le (m := 10) (by omega) (by decide), ?_⟩
        have c1 : Ch (fun _ => False) H5 (upd H5 p (.tup [.ref p1, tx l])) := Ch.of (same_upd np)
        have c2 : Ch (fun _ => False) (upd H5 p (.tup [.ref p1, tx l])) (upd (upd H5 p (.tup [.ref p1, tx l])) U (.lst (xs ++ [.ref p]))) := Ch.at ((same_upd np) _ _ eU5) fun z => z
        exact ⟨fd_at ((f04.trans f5).trans (Fd.new np)) nU, (dr5.ext (same_upd np)).upd nUd nUc, _, _, _, _, _, rfl, upd_same,
          F2.snoc (hf5.imp fun v t z => (z.ch c1).ch c2) ⟨p, p1, l, rfl, c2.tup (.inl (.inl upd_same)), name_len nl, .inl ⟨c2.tup (c1.tup e5), rfl⟩⟩, by rw [List.length_append, hl]; rfl⟩
      · have hr : r = 1 ∨ r = 2 ∨ r = 3 ∨ r = 4 := by
          have : r ≠ 0 := fun z => e0 (by rw [z]; rfl)
          omega
        refine ⟨_, rfl, _, rfl, d, c, m, rfl, by omega, dr3, fun H4 x e f4 dr4 ok ht dp => ?_⟩
        have eU4 := f4 _ _ nUd eU3
        have hf4 := hf3.imp fun v t (z : RTo K H3 v t) => z.ch (c0 dr3 f4)
        obtain ⟨w', hw, atw⟩ : ∃ w' ∈ AGG, atI [V.str "distinct", V.str "sum", V.str "min", V.str "max"] (r - 1) = some (.str (Str.ofString w')) := by
          rcases hr with rfl | rfl | rfl | rfl
          · exact ⟨"distinct", by decide, rfl⟩
          · exact ⟨"sum", by decide, rfl⟩
          · exact ⟨"min", by decide, rfl⟩
          · exact ⟨"max", by decide, rfl⟩
        refine ⟨_, rfl, .inl ⟨rfl, _, .of eU4⟩, by show 4 ≤ sizeLine; decide, fun p0 n0 => ?_⟩
        have s5 := same_upd n0 (o := .lst [.str "distinct", .str "sum", .str "min", .str "max"])
        refine ⟨_, rfl, _, _, rfl, rfl, p0, _, _, _, rfl, rfl, .of upd_same, atw, _, rfl, by show 2 ≤ sizeLine; decide, fun p1 n1 => ?_⟩
        have s6 := s5.trans (same_upd n1 (o := .tup [.str (Str.ofString w'), x]))
        have e1 : (upd (upd H4 p0 (.lst [.str "distinct", .str "sum", .str "min", .str "max"])) p1 (.tup [.str (Str.ofString w'), x])) p1 = some (.tup [.str (Str.ofString w'), x]) := upd_same
        have eU6 := s6 _ _ eU4
        have hf6 := hf4.imp fun v t (z : RTo K H4 v t) => z.ch (Ch.of (L := fun _ => False) s6)
        have f06 := ((fi.trans f3).trans f4).trans (Fd.of s6)
        have dr6 := dr4.ext s6
        have dp6 := Dp.ext s6 _ _ dp
        generalize upd (upd H4 p0 (.lst [.str "distinct", .str "sum", .str "min", .str "max"])) p1 (.tup [.str (Str.ofString w'), x]) = H6 at e1 eU6 hf6 f06 dr6 dp6
        refine ⟨_, rfl, d, c, rfl, dr6, fun H7 l f7 dr7 nl => ?_⟩
        have hc7 := c0 dr6 f7
        have e7 : SqT K H7 p1 [.str (Str.ofString w'), x] := hc7.tup (.inl (.inl e1))
        have dp7 := Dp.ch hc7 _ _ (ex_only e) dp6
        have eU7 := f7 _ _ nUd eU6
        have hf7 := hf6.imp fun v t (z : RTo K H6 v t) => z.ch hc7
        refine ⟨by show 2 ≤ sizeLine; decide, fun p np => ?_⟩
        refine ⟨U, _, _, rfl, rfl, (same_upd np) _ _ eU7, by rw [hlen]; exact Nat.lt_of_lt_of_le (m := 10) (by omega) (by decide), ?_⟩
        have c1 : Ch (fun _ => False) H7 (upd H7 p (.tup [.ref p1, tx l])) := Ch.of (same_upd np)
        have c2 : Ch (fun _ => False) (upd H7 p (.tup [.ref p1, tx l])) (upd (upd H7 p (.tup [.ref p1, tx l])) U (.lst (xs ++ [.ref p]))) := Ch.at ((same_upd np) _ _ eU7) fun z => z
        exact ⟨fd_at ((f06.trans f7).trans (Fd.new np)) nU, (dr7.ext (same_upd np)).upd nUd nUc, _, _, _, _, _, rfl, upd_same,
          F2.snoc (hf7.imp fun v t z => (z.ch c1).ch c2) ⟨p, p1, l, rfl, c2.tup (.inl (.inl upd_same)), name_len nl, .inr ⟨w', x, e, hw, c2.tup (c1.tup e7), Dp.ch (c1.trans c2) _ _ (ex_only e) dp7, ok, by omega, rfl⟩⟩, by rw [List.length_append, hl]; rfl⟩
    · obtain ⟨fi, di, xs, ts, y3, y4, y5, rfl, eU, hf, hl⟩ := hp
      exact ⟨_, rfl, q Hn _ ts fi di ⟨U, xs, rfl, nU, eU, hf⟩ (by omega)⟩
theorem ok_lop {f : Addr} {fd : FuncData} {j : Nat} (h2j : 2 ≤ j) (n : Nat) (F : Fun K "_law_operand" "_law_operand" s__law_operand f fd) (M : Mg mg) (c__law_next : Cl P w K mg base 1 "_law_next" sp_next) (c__law_name : Cl P w K mg base 2 "_law_name" sp_name) (c__law_query : Cl P w K mg base j "_law_query" (sp_lq K n)) : FnOk P w K mg base CX0 (j + 1) f fd ["draw", "inside", "depth"] (sp_lop K n) := by
  refine F.ok sc__law_operand (fun vs H Q E h => ?_) (fun cdv A outer s H vs Q E hr h => ?_)
  · obtain ⟨d, c, i, m, rfl, _⟩ := h
    rfl
  · obtain ⟨d, c, i, m, rfl, hi, hm, dr, q⟩ := h
    obtain ⟨t, ht', hq⟩ : ∃ t, PSs (cxOf CX0 P w K mg base N__law_operand "_law_operand" (defScope s__law_operand) f cdv A outer s H E).nox ((defBody s__law_operand).drop 1) t ∧ ∀ H1, Fd d H H1 → Dr H1 d c → t { nx := fun _ H' => Q .non H', rt := Q } [some (.ref d), some (.int (i : Nat)), some (.int (m : Nat)), none] H1 := by
      refine ⟨_, (pss_cons (ps_set (i := 3) sc__law_operand.nd rfl (.inl rfl) (pe_u c__law_name hr (by first | decide | omega) (by rfl) (pa_cons (pv 0) pa_nil)))
      (pss_cons (ps_if (pt_cmpR op_eq (pe_u c__law_next hr (by first | decide | omega) (by rfl) (pa_cons (pv 0) (pa_cons pe_int pa_nil))) pe_int (nomark _)) (pss_one (ps_ret (pe_tup (pa_cons pe_str (pa_cons (pv 3) (pa_cons (pv 3) pa_nil)))))) pss_nil)
      (pss_one (ps_ret (pe_tup (pa_cons pe_str (pa_cons (pv 3) (pa_cons (pe_u c__law_name hr (by first | decide | omega) (by rfl) (pa_cons (pv 0) pa_nil)) pa_nil)))))))), fun H1 f1 dr1 => ?_⟩
      refine ⟨_, rfl, d, c, rfl, dr1, fun H2 l f2 dr2 nl => ?_⟩
      refine ⟨_, rfl, d, c, 2, rfl, dr2, by decide, by decide, fun H3 b f3 _ dr3 _ _ => ⟨rfl, _, rfl, ite2 (fun _ => ?_) (fun _ => ?_)⟩⟩
      · refine ⟨_, rfl, _, rfl, by show 3 ≤ sizeLine; decide, fun p np => ?_⟩
        exact q _ _ _ (((f1.trans f2).trans f3).trans (Fd.new np)) (dr3.ext (same_upd np)) ⟨p, rfl, .inl ⟨l, l, .inl (.inl upd_same), name_len nl, name_len nl, rfl⟩⟩
      · refine ⟨_, rfl, _, rfl, d, c, rfl, dr3, fun H4 l' f4 dr4 nl' => ?_⟩
        refine ⟨by show 3 ≤ sizeLine; decide, fun p np => ?_⟩
        exact q _ _ _ ((((f1.trans f2).trans f3).trans f4).trans (Fd.new np)) (dr4.ext (same_upd np)) ⟨p, rfl, .inl ⟨l, l', .inl (.inl upd_same), name_len nl, name_len nl', rfl⟩⟩
    refine ⟨_, (pss_cons (ps_if (PW.pt (pw_and (pt_cmpR op_gt (pv 1) pe_int (nomark _)) (pw_and1 (pt_cmpR op_eq (pe_u c__law_next hr (by first | decide | omega) (by rfl) (pa_cons (pv 0) (pa_cons pe_int pa_nil))) pe_int (nomark _))))) (pss_one (ps_ret (pe_tup (pa_cons pe_str (pa_cons (pe_u c__law_query hr (by first | decide | omega) (by rfl) (pa_cons (pv 0) (pa_cons (pe_op op_sub (pv 1) pe_int) (pa_cons (pv 2) pa_nil)))) (pa_cons (pe_u c__law_name hr (by first | decide | omega) (by rfl) (pa_cons (pv 0) pa_nil)) pa_nil)))))) pss_nil)
      ht'), ?_⟩
    refine ⟨_, rfl, _, _, rfl, rfl, _, rfl, ?_⟩
    cases i with
    | zero =>
      rw [show decide (((0 : Nat) : Int) > 0) = false by decide]
      exact iteF (hq H (Fd.refl _ _) dr)
    | succ i =>
      rw [decide_eq_true (show (((i + 1 : Nat)) : Int) > 0 by omega)]
      refine iteT ⟨_, rfl, d, c, 4, rfl, dr, by decide, by decide, fun H1 b f1 _ dr1 _ _ => ⟨rfl, _, rfl, ite2 (fun _ => ?_) (fun _ => hq H1 f1 dr1)⟩⟩
      refine ⟨_, rfl, _, rfl, _, _, rfl, rfl, _, rfl, d, c, i, m, by show [V.ref d, V.int (((i + 1 : Nat) : Int) - 1), V.int (m : Nat)] = _; rw [show (((i + 1 : Nat) : Int) - 1) = (i : Nat) by omega], by omega, hm, dr1, fun H2 p ls f2 dr2 rq _ => ?_⟩
      refine ⟨_, rfl, d, c, rfl, dr2, fun H3 l f3 dr3 nl => ?_⟩
      refine ⟨by show 3 ≤ sizeLine; decide, fun p' np => ?_⟩
      have hL : ¬ (H1 d = none) := by
        obtain ⟨zs, hz⟩ := dr1.lst
        rw [hz]
        exact fun z => nomatch z
      have rq3 := RQ.ch (Ch.of (same_upd np (o := .tup [.str "inside", p, tx l]))) _ _ _ (RQ.ch (Ch.dr (L := fun a => H1 a = none) dr2 hL f3) _ _ _ rq)
      exact q _ _ _ (((f1.trans f2).trans f3).trans (Fd.new np)) (dr3.ext (same_upd np)) ⟨p', rfl, .inr ⟨p, ls, l, .inl (.inl upd_same), name_len nl, RQ.wide (none_back dr1 f1) _ _ _ rq3, rfl⟩⟩
theorem dr_some {H : Hp} {d c : Addr} (dr : Dr H d c) : ¬ (H d = none) := by
  obtain ⟨zs, hz⟩ := dr.lst
  rw [hz]
  exact fun z => nomatch z
theorem ok_lst {f : Addr} {fd : FuncData} {j : Nat} (h7j : 7 ≤ j) (n : Nat) (F : Fun K "_law_stage" "_law_stage" s__law_stage f fd) (M : Mg mg) (c__law_next : Cl P w K mg base 1 "_law_next" sp_next) (c__law_expression : Cl P w K mg base 6 "_law_expression" (sp_lex K 3)) (c__law_operand : Cl P w K mg base j "_law_operand" (sp_lop K n)) (c__law_outputs : Cl P w K mg base 7 "_law_outputs" (sp_louts K)) (c__law_totals : Cl P w K mg base 7 "_law_totals" (sp_ltots K)) : FnOk P w K mg base CX0 (j + 1) f fd ["draw", "inside", "depth"] (sp_lst K n) := by
  refine F.ok sc__law_stage (fun vs H Q E h => ?_) (fun cdv A outer s H vs Q E hr h => ?_)
  · obtain ⟨d, c, i, m, rfl, _⟩ := h
    rfl
  · obtain ⟨d, c, i, m, rfl, hi, hm, dr, q⟩ := h
    obtain ⟨t, ht', hq⟩ : ∃ t, PSs (cxOf CX0 P w K mg base N__law_stage "_law_stage" (defScope s__law_stage) f cdv A outer s H E).nox ((defBody s__law_stage).drop 6) t ∧ ∀ H1 o ts y4 y5, Fd d H H1 → Dr H1 d c → Rl (fun a => H a = none) (RO K H1) H1 o ts → ts.length ≤ 3 → t { nx := fun _ H' => Q .non H', rt := Q } [some (.ref d), some (.int (i : Nat)), some (.int (m : Nat)), some (.int 4), y4, y5, some o] H1 := by
      refine ⟨_, (pss_one (ps_ret (pe_tup (pa_cons pe_str (pa_cons (pv 6) (pa_cons (pe_u c__law_totals hr (by first | decide | omega) (by rfl) (pa_cons (pv 0) (pa_cons (pv 2) pa_nil))) pa_nil)))))), fun H1 o ts y4 y5 f1 dr1 ho ko => ?_⟩
      refine ⟨_, rfl, _, rfl, _, rfl, d, c, m, rfl, hm, dr1, fun H2 p us f2 dr2 hp kp => ?_⟩
      refine ⟨by show 3 ≤ sizeLine; decide, fun p' np => ?_⟩
      have c2 : Ch (fun a => H a = none) H1 H2 := Ch.dr dr1 (dr_some dr) f2
      have c3 : Ch (fun a => H a = none) H2 (upd H2 p' (.tup [.str "group", o, p])) := Ch.of (same_upd np)
      exact q _ _ _ ((f1.trans f2).trans (Fd.new np)) (dr2.ext (same_upd np)) ⟨p', rfl, .inr (.inr (.inr ⟨o, p, ts, us, .inl (.inl upd_same), (ho.ch c2 fun _ _ z => z.ch c2).ch c3 (fun _ _ z => z.ch c3), (hp.wide (none_back dr1 f1) fun _ _ z => z).ch c3 (fun _ _ z => z.ch c3), ko, kp, rfl⟩))⟩
    refine ⟨_, (pss_cons (ps_set (i := 3) sc__law_stage.nd rfl (.inl rfl) (pe_u c__law_next hr (by first | decide | omega) (by rfl) (pa_cons (pv 0) (pa_cons pe_int pa_nil))))
      (pss_cons (ps_if (pt_cmpR op_eq (pv 3) pe_int (nomark _)) (pss_cons (ps_set (i := 4) sc__law_stage.nd rfl (.inl rfl) (pe_ix (ix_listK K) (pe_lst (pa_cons pe_str (pa_cons pe_str (pa_cons pe_str (pa_cons pe_str pa_nil))))) (pe_u c__law_next hr (by first | decide | omega) (by rfl) (pa_cons (pv 0) (pa_cons pe_int pa_nil))) (fun _ _ => rfl)))
      (pss_cons (ps_set (i := 5) sc__law_stage.nd rfl (.inl rfl) (pe_u c__law_operand hr (by first | decide | omega) (by rfl) (pa_cons (pv 0) (pa_cons (pv 1) (pa_cons (pv 2) pa_nil)))))
      (pss_one (ps_ret (pe_tup (pa_cons pe_str (pa_cons (pv 4) (pa_cons (pv 5) (pa_cons (pe_u c__law_expression hr (by first | decide | omega) (by rfl) (pa_cons (pv 0) (pa_cons (pv 2) pa_nil))) pa_nil))))))))) pss_nil)
      (pss_cons (ps_if (pt_cmpR op_eq (pv 3) pe_int (nomark _)) (pss_one (ps_ret (pe_tup (pa_cons pe_str (pa_cons (pe_u c__law_expression hr (by first | decide | omega) (by rfl) (pa_cons (pv 0) (pa_cons (pv 2) pa_nil))) pa_nil))))) pss_nil)
      (pss_cons (ps_if (pt_cmpR op_eq (pv 3) pe_int (nomark _)) (pss_one (ps_ret (pe_tup (pa_cons pe_str (pa_cons (pe_u c__law_outputs hr (by first | decide | omega) (by rfl) (pa_cons (pv 0) (pa_cons (pv 2) pa_nil))) pa_nil))))) pss_nil)
      (pss_cons (ps_if (pt_cmpR op_eq (pv 3) pe_int (nomark _)) (pss_one (ps_ret (pe_tup (pa_cons pe_str (pa_cons (pe_u c__law_outputs hr (by first | decide | omega) (by rfl) (pa_cons (pv 0) (pa_cons (pv 2) pa_nil))) (pa_cons (pe_lst pa_nil) pa_nil)))))) pss_nil)
      (pss_cons (ps_set (i := 6) sc__law_stage.nd rfl (.inl rfl) (pe_ifExp (pt_cmpR op_eq (pe_u c__law_next hr (by first | decide | omega) (by rfl) (pa_cons (pv 0) (pa_cons pe_int pa_nil))) pe_int (nomark _)) (pe_u c__law_outputs hr (by first | decide | omega) (by rfl) (pa_cons (pv 0) (pa_cons (pv 2) pa_nil))) (pe_lst pa_nil)))
      ht')))))), ?_⟩
    refine ⟨_, rfl, d, c, 5, rfl, dr, by decide, by decide, fun H1 r f1 _ dr1 r0 r1 => ?_⟩
    refine ⟨_, rfl, rfl, _, rfl, ite2 (fun _ => ?_) (fun e0 => ?_)⟩
    · refine ⟨by show 4 ≤ sizeLine; decide, fun p0 n0 => ?_⟩
      have s2 := same_upd n0 (o := .lst [.str "inner", .str "left", .str "semi", .str "anti"])
      have dr2 := dr1.ext s2
      refine ⟨_, rfl, d, c, 4, rfl, dr2, by decide, by decide, fun H3 k f3 _ dr3 k0 k1 => ?_⟩
      have e3 := f3 _ _ (dr1.nd n0) (show (upd H1 p0 (.lst [.str "inner", .str "left", .str "semi", .str "anti"])) p0 = some (.lst [.str "inner", .str "left", .str "semi", .str "anti"]) from upd_same)
      obtain ⟨w', hw, atw⟩ : ∃ w' ∈ JOI, atI [V.str "inner", V.str "left", V.str "semi", V.str "anti"] k = some (.str (Str.ofString w')) := by
        have : k = 0 ∨ k = 1 ∨ k = 2 ∨ k = 3 := by omega
        rcases this with rfl | rfl | rfl | rfl
        · exact ⟨"inner", by decide, rfl⟩
        · exact ⟨"left", by decide, rfl⟩
        · exact ⟨"semi", by decide, rfl⟩
        · exact ⟨"anti", by decide, rfl⟩
      have f03 := (f1.trans (Fd.of s2)).trans f3
      refine ⟨p0, _, _, _, rfl, rfl, .of e3, atw, ?_⟩
      refine ⟨_, rfl, _, rfl, _, rfl, d, c, i, m, rfl, hi, hm, dr3, fun H4 o u f4 dr4 ho => ?_⟩
      refine ⟨_, rfl, _, rfl, _, rfl, _, rfl, d, c, m, rfl, by omega, dr4, fun H5 x e f5 dr5 ok ht dp => ?_⟩
      refine ⟨by show 4 ≤ sizeLine; decide, fun p' np => ?_⟩
      have c5 : Ch (fun a => H3 a = none) H4 H5 := Ch.dr dr4 (dr_some dr3) f5
      have c6 : Ch (fun a => H3 a = none) H5 (upd H5 p' (.tup [.str "join", .str (Str.ofString w'), o, x])) := Ch.of (same_upd np)
      have ho6 := ho.ch (c5.trans c6) fun v t z => RQ.ch (c5.trans c6) _ _ _ z
      have ho7 := ho6.wide (Rq' := RQ (fun a => H a = none) K _ i) fun v t z => RQ.wide (none_back dr3 f03) _ _ _ z
      exact q _ _ _ (((f03.trans f4).trans f5).trans (Fd.new np)) (dr5.ext (same_upd np)) ⟨p', rfl, .inl ⟨w', o, x, e, u, hw, .inl (.inl upd_same), ho7, Dp.ext (same_upd np) _ _ dp, ok, by omega, rfl⟩⟩
    refine ⟨_, rfl, rfl, _, rfl, ite2 (fun _ => ?_) (fun e1 => ?_)⟩
    · refine ⟨_, rfl, _, rfl, d, c, m, rfl, by omega, dr1, fun H2 x e f2 dr2 ok ht dp => ?_⟩
      refine ⟨by show 2 ≤ sizeLine; decide, fun p' np => ?_⟩
      exact q _ _ _ ((f1.trans f2).trans (Fd.new np)) (dr2.ext (same_upd np)) ⟨p', rfl, .inr (.inl ⟨x, e, .inl (.inl upd_same), Dp.ext (same_upd np) _ _ dp, ok, by omega, rfl⟩)⟩
    refine ⟨_, rfl, rfl, _, rfl, ite2 (fun _ => ?_) (fun e2 => ?_)⟩
    · refine ⟨_, rfl, _, rfl, d, c, m, rfl, hm, dr1, fun H2 o ts f2 dr2 ho ko => ?_⟩
      refine ⟨by show 2 ≤ sizeLine; decide, fun p' np => ?_⟩
      have c3 : Ch (fun a => H a = none) H2 (upd H2 p' (.tup [.str "select", o])) := Ch.of (same_upd np)
      exact q _ _ _ ((f1.trans f2).trans (Fd.new np)) (dr2.ext (same_upd np)) ⟨p', rfl, .inr (.inr (.inl ⟨o, ts, .inl (.inl upd_same), (ho.wide (none_back dr1 f1) fun _ _ z => z).ch c3 (fun _ _ z => z.ch c3), ko, rfl⟩))⟩
    refine ⟨_, rfl, rfl, _, rfl, ite2 (fun _ => ?_) (fun e3 => ?_)⟩
    · refine ⟨_, rfl, _, rfl, d, c, m, rfl, hm, dr1, fun H2 o ts f2 dr2 ho ko => ?_⟩
      refine ⟨Nat.zero_le _, fun U nU => ?_⟩
      refine ⟨by show 3 ≤ sizeLine; decide, fun p' np => ?_⟩
      have c3 : Ch (fun a => H a = none) H2 (upd (upd H2 U (.lst [])) p' (.tup [.str "group", o, .ref U])) := Ch.of ((same_upd nU).trans (same_upd np))
      exact q _ _ _ (((f1.trans f2).trans (Fd.new nU)).trans (Fd.new np)) ((dr2.ext (same_upd nU)).ext (same_upd np)) ⟨p', rfl, .inr (.inr (.inr ⟨o, .ref U, ts, [], .inl (.inl upd_same), (ho.wide (none_back dr1 f1) fun _ _ z => z).ch c3 (fun _ _ z => z.ch c3), ⟨U, [], rfl, none_back dr2 (f1.trans f2) _ nU, (same_upd np) _ _ upd_same, .nil⟩, ko, Nat.zero_le _, rfl⟩))⟩
    have hr4 : r = 4 := by
      have a0 : r ≠ 0 := fun z => e0 (by rw [z]; rfl)
      have a1 : r ≠ 1 := fun z => e1 (by rw [z]; rfl)
      have a2 : r ≠ 2 := fun z => e2 (by rw [z]; rfl)
      have a3 : r ≠ 3 := fun z => e3 (by rw [z]; rfl)
      omega
    subst hr4
    refine ⟨_, rfl, d, c, 2, rfl, dr1, by decide, by decide, fun H2 b f2 _ dr2 _ _ => ⟨rfl, _, rfl, ite2 (fun _ => ?_) (fun _ => ?_)⟩⟩
    · refine ⟨_, rfl, _, rfl, d, c, m, rfl, hm, dr2, fun H3 o ts f3 dr3 ho ko => ?_⟩
      exact hq H3 o ts _ _ ((f1.trans f2).trans f3) dr3 (ho.wide (none_back dr2 (f1.trans f2)) fun _ _ z => z) ko
    · refine ⟨Nat.zero_le _, fun U nU => ?_⟩
      exact hq _ (.ref U) [] _ _ ((f1.trans f2).trans (Fd.new nU)) (dr2.ext (same_upd nU)) ⟨U, [], rfl, none_back dr2 (f1.trans f2) _ nU, upd_same, .nil⟩ (Nat.zero_le _)
end
/-- a chain, an operand, a stage, within queries of this depth -/
abbrev RPx (L : Addr → Prop) (K : PySem.W.Frag) (i : Nat) (H : Hp) := ROp (RQ L K H i) K H
abbrev RSx (L : Addr → Prop) (K : PySem.W.Frag) (i : Nat) (H : Hp) := RSt (RPx L K i H) L K H
abbrev RCx (L : Addr → Prop) (K : PySem.W.Frag) (i : Nat) (H : Hp) := RC (RPx L K i H) (RSx L K i H) L K H
section
variable {L : Addr → Prop} {K : PySem.W.Frag} {i : Nat} {H H' : Hp}
theorem RPx.ch (c : Ch L H H') {v : V} {t : List Nat} (h : RPx L K i H v t) : RPx L K i H' v t := ROp.ch c (fun _ _ z => RQ.ch c _ _ _ z) h
theorem RSx.ch (c : Ch L H H') {v : V} {t : List Nat} (h : RSx L K i H v t) : RSx L K i H' v t := RSt.ch c (fun _ _ z => RPx.ch c z) h
theorem RCx.ch (c : Ch L H H') {v : V} {t : List (List Nat)} (h : RCx L K i H v t) : RCx L K i H' v t := RC.ch c (fun _ _ z => RPx.ch c z) (fun _ _ z => RSx.ch c z) h
variable {L' : Addr → Prop}
theorem RPx.wide (w : ∀ a, L a → L' a) {v : V} {t : List Nat} (h : RPx L K i H v t) : RPx L' K i H v t := ROp.wide (fun _ _ z => RQ.wide w _ _ _ z) h
theorem RSx.wide (w : ∀ a, L a → L' a) {v : V} {t : List Nat} (h : RSx L K i H v t) : RSx L' K i H v t := RSt.wide w (fun _ _ z => RPx.wide w z) h
theorem RCx.wide (w : ∀ a, L a → L' a) {v : V} {t : List (List Nat)} (h : RCx L K i H v t) : RCx L' K i H v t := RC.wide w (fun _ _ z => RPx.wide w z) (fun _ _ z => RSx.wide w z) h
end
section
variable {P : Program} {w : World} {K : PySem.W.Frag} {mg : Str → Option Value} {base : Heap}
theorem ok_lq {f : Addr} {fd : FuncData} {j : Nat} (n : Nat) (F : Fun K "_law_query" "_law_query" s__law_query f fd) (M : Mg mg) (c__law_next : Cl P w K mg base 1 "_law_next" sp_next) (c__law_operand : Cl P w K mg base (j + 1) "_law_operand" (sp_lop K n)) (c__law_stage : Cl P w K mg base (j + 2) "_law_stage" (sp_lst K n)) : FnOk P w K mg base CX0 (j + 3) f fd ["draw", "inside", "depth"] (sp_lq K (n + 1)) := by
  refine F.ok sc__law_query (fun vs H Q E h => ?_) (fun cdv A outer s H vs Q E hr h => ?_)
  · obtain ⟨d, c, i, m, rfl, _⟩ := h
    rfl
  · obtain ⟨d, c, ins, m, rfl, hin, hm, dr, q⟩ := h
    refine ⟨_, (pss_cons (ps_set (i := 3) sc__law_query.nd rfl (.inl rfl) (pe_lst pa_nil))
      (pss_cons (ps_for PassesOwn.never rfl (pi_range1 (by rfl) M.range (pa_cons (pe_op op_add pe_int (pe_op op_fdivW (pe_u c__law_next hr (by first | decide | omega) (by rfl) (pa_cons (pv 0) (pa_cons pe_int pa_nil))) pe_int)) pa_nil)) (pg_name (i := 4) sc__law_query.nd rfl (.inl rfl)) (pss_cons (ps_set (i := 5) sc__law_query.nd rfl (.inl rfl) (pe_ifExp (pt_cmpR op_gt (pv 4) pe_int (nomark _)) (pe_ix (ix_listK K) (pe_lst (pa_cons pe_str (pa_cons pe_str (pa_cons pe_str pa_nil)))) (pe_u c__law_next hr (by first | decide | omega) (by rfl) (pa_cons (pv 0) (pa_cons pe_int pa_nil))) (fun _ _ => rfl)) pe_non))
      (pss_cons (ps_set (i := 6) sc__law_query.nd rfl (.inl rfl) (pe_u c__law_operand hr (by first | decide | omega) (by rfl) (pa_cons (pv 0) (pa_cons (pv 1) (pa_cons (pv 2) pa_nil)))))
      (pss_cons (ps_setLc (i := 7) (own := [("j", 8)]) (g := gName 8) (tt := tYes) rfl sc__law_query.nd rfl rfl (sw_true rfl rfl rfl (by decide +kernel)) (pi_range1 (by rfl) M.range (pa_cons (pe_u c__law_next hr (by first | decide | omega) (by rfl) (pa_cons (pv 0) (pa_cons pe_int pa_nil))) pa_nil)) (blkOk_by (N := N__law_query) (sc := defScope s__law_query) (by decide +kernel)) (fun _ _ _ _ _ => (pg_name (i := 8) sc__law_query.nd rfl (.inl rfl))) (fun _ _ _ _ _ => pts_nil) (fun _ _ _ _ _ => (pe_u c__law_stage hr (by first | decide | omega) (by rfl) (pa_cons (pv 0) (pa_cons (pv 1) (pa_cons (pv 2) pa_nil))))))
      (pss_one (ps_expr (pe_bmK K PySem.F.plainAttrs_list PySem.F.slot_list_append PySem.F.type_list_append mt_append (pv 3) (pa_cons (pe_tup (pa_cons (pv 5) (pa_cons (pe_tup (pa_cons (pv 6) (pa_cons (pv 7) pa_nil))) pa_nil))) pa_nil))))))))
      (pss_one (ps_ret (pv 3))))), ?_⟩
    refine ⟨Nat.zero_le _, fun U nU => ?_⟩
    have nUd := dr.nd nU
    have nUc := dr.nc nU
    have f1 : Fd d H (upd H U (.lst [])) := Fd.new nU
    have drU := dr.ext (same_upd nU (o := .lst []))
    have eU0 : (upd H U (.lst [])) U = some (.lst []) := upd_same
    generalize hHU : upd H U (.lst []) = HU at f1 drU eU0
    have LU : ¬ (HU U = none) := by rw [eU0]; exact fun z => nomatch z
    have Ld : ¬ (HU d = none) := dr_some drU
    have backU : ∀ Hx zs, Fd d H Hx → Dr Hx d c → Hx U = some (.lst zs) → ∀ a, Hx a = none → HU a = none := fun Hx zs fx dx ex a z => by
      have na : a ≠ U := fun y => by
        rw [y, ex] at z
        cases z
      rw [← hHU, upd_ne na]
      exact none_back dx fx a z
    refine ⟨_, rfl, d, c, 3, rfl, drU, by decide, by decide, fun H2 r f2 _ dr2 r0 r1 => ⟨_, _, rfl, rfl, wide_div (b := 64) (by omega) (by omega) (by decide) (by decide), _, _, rfl, rfl, _, rfl, by omega, by omega, ?_⟩⟩
    refine for_range (lo := 0) (n := (1 + r / 2).toNat) (fun i σ Hi => Fd d H Hi ∧ Dr Hi d c ∧ ∃ xs css y4 y5 y6 y7 y8, σ = [some (.ref d), some (.int (ins : Nat)), some (.int (m : Nat)), some (.ref U), y4, y5, y6, y7, y8] ∧ Hi U = some (.lst xs) ∧ F2 (RCx (fun a => HU a = none) K ins Hi) xs css ∧ css.length = i) ⟨f1.trans f2, dr2, [], [], _, _, _, _, _, rfl, f2 _ _ nUd eU0, .nil, rfl⟩ (fun i σ Hi hi hp => ?_) (fun σ Hn hp => ?_)
    · obtain ⟨fi, di, xs, css, y4, y5, y6, y7, y8, rfl, eU, hf, hl⟩ := hp
      have hi2 : i < 2 := by omega
      have hlen : xs.length = i := by rw [hf.len, hl]
      have val : ∀ Qc : VK, (∀ H3 v l, RHow v l → Fd d Hi H3 → Dr H3 d c → Qc v H3) → tIf (tTest (tOp (rI0 fun i j => V.bl (decide (j < i))) (tVar 4) (tC (V.int 0)))) (tOp (rIxL K) (tLst (tCons (tC (V.str (Str.ofString "union"))) (tCons (tC (V.str (Str.ofString "except"))) (tCons (tC (V.str (Str.ofString "intersect"))) tNil)))) (tCall sp_next [] E0 (tCons (tVar 0) (tCons (tC (V.int 3)) tNil)))) (tC V.non) [some (.ref d), some (.int (ins : Nat)), some (.int (m : Nat)), some (.ref U), some (.int (0 + (i : Nat))), y5, y6, y7, y8] Hi Qc := fun Qc qc => by
        refine ⟨_, rfl, _, _, rfl, rfl, _, rfl, ite2 (fun _ => ?_) (fun _ => ?_)⟩
        · refine ⟨by show 3 ≤ sizeLine; decide, fun p0 n0 => ?_⟩
          have s2 := same_upd n0 (o := .lst [.str "union", .str "except", .str "intersect"])
          refine ⟨_, rfl, d, c, 3, rfl, di.ext s2, by decide, by decide, fun H3 k f3 _ dr3 k0 k1 => ?_⟩
          have e3 := f3 _ _ (di.nd n0) (show (upd Hi p0 (.lst [.str "union", .str "except", .str "intersect"])) p0 = some (.lst [.str "union", .str "except", .str "intersect"]) from upd_same)
          obtain ⟨w', hw, atw⟩ : ∃ w' ∈ SETS, atI [V.str "union", V.str "except", V.str "intersect"] k = some (.str (Str.ofString w')) := by
            have : k = 0 ∨ k = 1 ∨ k = 2 := by omega
            rcases this with rfl | rfl | rfl
            · exact ⟨"union", by decide, rfl⟩
            · exact ⟨"except", by decide, rfl⟩
            · exact ⟨"intersect", by decide, rfl⟩
          exact ⟨p0, _, _, _, rfl, rfl, .of e3, atw, qc H3 _ _ (.inr ⟨w', hw, rfl, rfl⟩) ((Fd.of s2).trans f3) dr3⟩
        · exact qc Hi _ _ (.inl ⟨rfl, rfl⟩) (Fd.refl _ _) di
      refine val _ fun H3 how l hh f3 dr3 => ?_
      refine ⟨_, rfl, _, rfl, _, rfl, d, c, ins, m, rfl, by omega, hm, dr3, fun H4 o u f4 dr4 ho => ?_⟩
      have f34 := fi.trans f3
      have f44 := f34.trans f4
      refine ⟨_, rfl, d, c, 4, rfl, dr4, by decide, by decide, fun H5 b f5 _ dr5 b0 b1 => ⟨_, rfl, by omega, by omega, fun D nD => ?_⟩⟩
      have f55 := f44.trans f5
      have nDd := dr5.nd nD
      have nDc := dr5.nc nD
      have drD := dr5.ext (same_upd nD (o := .lst []))
      have fD : Fd d H5 (upd H5 D (.lst [])) := Fd.new nD
      have eD0 : (upd H5 D (.lst [])) D = some (.lst []) := upd_same
      obtain ⟨HD, hHD⟩ : ∃ HD, HD = upd H5 D (.lst []) := ⟨_, rfl⟩
      rw [← hHD] at drD fD eD0
      have LD : ¬ (HD D = none) := by rw [eD0]; exact fun z => nomatch z
      have LDd : ¬ (HD d = none) := dr_some drD
      refine lc_range (lo := 0) (n := b.toNat) (fun i Hi => Fd d H5 Hi ∧ Dr Hi d c ∧ ∃ xs' ts', Hi D = some (.lst xs') ∧ F2 (RSx (fun a => HD a = none) K ins Hi) xs' ts' ∧ ts'.length = i) ⟨Fd.new nD, by rw [← hHD]; exact drD, [], [], upd_same, .nil, rfl⟩ (fun i Hi hi hp => ?_) (fun Hn hp => ?_)
      · obtain ⟨fi, di, xs', ts', eD, hf', hl'⟩ := hp
        refine ⟨rfl, ?_⟩
        refine ⟨_, rfl, _, rfl, _, rfl, d, c, ins, m, rfl, by omega, hm, di, fun H' p t f' dr' hp => ?_⟩
        have c1 : Ch (fun a => HD a = none) Hi H' := Ch.dr di LDd f'
        have eD' := f' _ _ nDd eD
        have c2 : Ch (fun a => HD a = none) H' (upd H' D (.lst (xs' ++ [p]))) := Ch.at eD' LD
        have back : ∀ a, Hi a = none → HD a = none := fun a z => by
          have na : a ≠ D := fun y => by
            rw [y, eD] at z
            cases z
          rw [hHD, upd_ne na]
          exact none_back di fi a z
        exact ⟨xs', eD', by rw [hf'.len, hl']; exact Nat.lt_of_lt_of_le (m := 10) (by omega) (by decide), fd_at (fi.trans f') nD, dr'.upd nDd nDc, _, _, upd_same, F2.snoc (hf'.imp fun _ _ z => (z.ch c1).ch c2) ((RSx.wide back hp).ch c2), by rw [List.length_append, hl']; rfl⟩
      · obtain ⟨fn, drn, xs', ts', eD, hfn, kn⟩ := hp
        have nUD : U ≠ D := fun z => by
          have := ((f3.trans f4).trans f5) _ _ nUd eU
          rw [z, nD] at this
          cases this
        have eU5 := ((f3.trans f4).trans f5) _ _ nUd eU
        have fU := f55.trans fn
        have eU' := ((f3.trans f4).trans f5).trans fn _ _ nUd eU
        -- the new chain
        refine ⟨_, rfl, .inl ⟨rfl, _, .of eU'⟩, _, rfl, _, rfl, _, rfl, by show 2 ≤ sizeLine; decide, fun p1 np1 => ?_⟩
        refine ⟨by show 2 ≤ sizeLine; decide, fun p2 np2 => ?_⟩
        have s1 := same_upd np1 (o := .tup [o, .ref D])
        have s2 := same_upd np2 (o := .tup [how, .ref p1])
        have eU2 := s2 _ _ (s1 _ _ eU')
        refine ⟨U, _, _, rfl, rfl, eU2, by rw [hlen]; exact Nat.lt_of_lt_of_le (m := 10) (by omega) (by decide), ?_⟩
        have cS : Ch (fun a => HU a = none) Hn (upd (upd Hn p1 (.tup [o, .ref D])) p2 (.tup [how, .ref p1])) := Ch.of (s1.trans s2)
        have cU : Ch (fun a => HU a = none) (upd (upd Hn p1 (.tup [o, .ref D])) p2 (.tup [how, .ref p1])) (upd (upd (upd Hn p1 (.tup [o, .ref D])) p2 (.tup [how, .ref p1])) U (.lst (xs ++ [.ref p2]))) := Ch.at eU2 LU
        have c0 : Ch (fun a => HU a = none) Hi Hn := Ch.dr di Ld (((f3.trans f4).trans f5).trans fn)
        have c4 : Ch (fun a => HU a = none) H4 Hn := Ch.dr dr4 Ld (f5.trans fn)
        have ho' : RPx (fun a => HU a = none) K ins H4 o u := RPx.wide (backU H3 _ f34 dr3 (f3 _ _ nUd eU)) ho
        have back : ∀ a, HD a = none → HU a = none := fun a z => by
          have na : a ≠ D := fun y => by
            rw [y, eD0] at z
            cases z
          rw [hHD, upd_ne na] at z
          exact backU H5 _ f55 dr5 eU5 a z
        have dU : HU D = none := backU H5 _ f55 dr5 eU5 D nD
        refine ⟨fd_at ((fU.trans (Fd.of s1)).trans (Fd.of s2)) nU, ((drn.ext s1).ext s2).upd nUd nUc, _, _, _, _, _, _, _, rfl, upd_same, F2.snoc (hf.imp fun _ _ z => ((z.ch c0).ch cS).ch cU) ⟨p2, p1, how, l, o, .ref D, u, ts', rfl, cU.tup (.inl (.inl upd_same)), cU.tup (SqT.ext s2 (.inl (.inl upd_same))), hh, ((ho'.ch c4).ch cS).ch cU, ?_, by omega, rfl⟩, by rw [List.length_append, hl]; rfl⟩
        refine ⟨D, xs', rfl, dU, cU.lst ((s1.trans s2) _ _ eD) dU, hfn.imp fun _ _ z => ((RSx.wide back z).ch cS).ch cU⟩
    · obtain ⟨fi, di, xs, css, y4, y5, y6, y7, y8, rfl, eU, hf, hl⟩ := hp
      exact ⟨_, rfl, q Hn _ _ fi di ⟨css, ⟨U, xs, rfl, nU, eU, hf.imp fun _ _ z => z.wide (none_back drU f1)⟩, by omega, rfl⟩ (flat_ne (fun z => by rw [z] at hl; have : (0 : Nat) = (1 + r / 2).toNat := hl; omega) (hf.all fun _ _ z => RC.ne z))⟩
theorem cl_lq {fq fo fs : Addr} {dq d_o ds : FuncData} (FQ : Fun K "_law_query" "_law_query" s__law_query fq dq) (FO : Fun K "_law_operand" "_law_operand" s__law_operand fo d_o) (FS : Fun K "_law_stage" "_law_stage" s__law_stage fs ds) (M : Mg mg)
    (gq : mg "_law_query" = some (.ref fq)) (bq : Binds K dq ["draw", "inside", "depth"] []) (go : mg "_law_operand" = some (.ref fo)) (bo : Binds K d_o ["draw", "inside", "depth"] []) (gs : mg "_law_stage" = some (.ref fs)) (bs : Binds K ds ["draw", "inside", "depth"] [])
    (N : Cl P w K mg base 1 "_law_next" sp_next) (NA : Cl P w K mg base 2 "_law_name" sp_name) (LX : Cl P w K mg base 6 "_law_expression" (sp_lex K 3)) (LO : Cl P w K mg base 7 "_law_outputs" (sp_louts K)) (LT : Cl P w K mg base 7 "_law_totals" (sp_ltots K)) : ∀ n, Cl P w K mg base (3 * n + 7) "_law_query" (sp_lq K n)
  | 0 => FnOk.cl (P := P) (w := w) (base := base) (FQ.ok sc__law_query (fun vs H Q E h => by obtain ⟨d, c, i, m, rfl, _⟩ := h; rfl) (fun cdv A outer s H vs Q E hr h => by obtain ⟨d, c, i, m, rfl, h, _⟩ := h; omega)) FQ gq bq
  | n + 1 => by
    have Q0 := cl_lq FQ FO FS M gq bq go bo gs bs N NA LX LO LT n
    have O := FnOk.cl (ok_lop (by omega) n FO M N NA Q0) FO go bo
    have S := FnOk.cl (ok_lst (by omega) n FS M N LX O LO LT) FS gs bs
    exact FnOk.cl (ok_lq (j := 3 * n + 7) n FQ M N O S) FQ gq bq
end

/-! ### the law's printing of queries -/
def sp_lpo (K : PySem.W.Frag) : Sp := fun vs H Q _ => ∃ (p : V) (t : List Nat), vs = [p] ∧ RO K H p t ∧ ∀ H', Same H H' → Q (tx t) H'
def sp_lpt (K : PySem.W.Frag) : Sp := fun vs H Q _ => ∃ (p : V) (t : List Nat), vs = [p] ∧ RTo K H p t ∧ ∀ H', Same H H' → Q (tx t) H'
section
variable {P : Program} {w : World} {K : PySem.W.Frag} {mg : Str → Option Value} {base : Heap}
theorem ok_lpo {f : Addr} {fd : FuncData} (F : Fun K "_law_print_output" "_law_print_output" s__law_print_output f fd) (M : Mg mg) (c__law_print : Cl P w K mg base 8 "_law_print" (sp_lpr K 3)) : FnOk P w K mg base CX0 9 f fd ["output"] (sp_lpo K) := by
  refine F.ok sc__law_print_output (fun vs H Q E h => ?_) (fun cdv A outer s H vs Q E hr h => ?_)
  · obtain ⟨p, t, rfl, _⟩ := h
    rfl
  · obtain ⟨p, t, rfl, ⟨a, x, e, l, rfl, hs, dp, ok, ht, hl, rfl⟩, q⟩ := h
    have hp := pr2 ok ht
    obtain ⟨t, ht', hq⟩ : ∃ t, PSs (cxOf CX0 P w K mg base N__law_print_output "_law_print_output" (defScope s__law_print_output) f cdv A outer s H E).nox ((defBody s__law_print_output).drop 3) t ∧ ∀ H', Same H H' → e.last ≠ some l → t { nx := fun _ H' => Q .non H', rt := Q } [some (.ref a), some x, some (tx e.pr)] H' := by
      refine ⟨_, (pss_one (ps_ret (pe_op op_add_str (pe_op op_add_str (pv 2) pe_str) (pe_ix (ix_tupK K) (pv 0) pe_int (fun _ _ => rfl))))), fun H' s' hne => ?_⟩
      refine ⟨_, rfl, _, _, rfl, rfl, add_len (l := codes " as ") (by rw [as4]; omega), ?_⟩
      rw [codes_S " as ", add_eq]
      refine ⟨_, rfl, a, _, _, _, rfl, rfl, SqT.ext s' hs, atI_nat (j := 1) rfl, _, _, rfl, rfl, add_len (L := e.pr ++ codes " as ") (l := l) (by rw [List.length_append, as4]; omega), ?_⟩
      rw [add_eq]
      have fin := q H' s'
      unfold outT at fin
      rw [if_neg hne, ← List.append_assoc] at fin
      exact fin
    refine ⟨_, (pss_cons (ps_set (i := 1) sc__law_print_output.nd rfl (.inl rfl) (pe_ix (ix_tupK K) (pv 0) pe_int (fun _ _ => rfl)))
      (pss_cons (ps_set (i := 2) sc__law_print_output.nd rfl (.inl rfl) (pe_u c__law_print hr (by first | decide | omega) (by rfl) (pa_cons (pv 1) (pa_cons pe_int pa_nil))))
      (pss_cons (ps_if (PW.pt (pw_and (pt_cmpR (inK K) (pe_ix (ix_tupK K) (pv 1) pe_int (fun _ _ => rfl)) (pe_tup (pa_cons pe_str (pa_cons pe_str pa_nil))) (by rfl)) (pw_and1 (pt_cmpR op_eq (pe_ix (ix_tupK K) (pv 1) (pe_un un_neg pe_int) (fun _ _ => rfl)) (pe_ix (ix_tupK K) (pv 0) pe_int (fun _ _ => rfl)) (nomark _))))) (pss_one (ps_ret (pv 2))) pss_nil)
      ht'))), ?_⟩
    refine ⟨_, rfl, a, _, _, _, rfl, rfl, hs, atI_nat (j := 0) rfl, ?_⟩
    refine ⟨_, rfl, x, e, 1, rfl, dp, ok, by omega, by omega, by decide, fun H1 s1 => ?_⟩
    rw [par1]
    have dp1 := Dp.ext s1 _ _ dp
    cases hla : e.last with
    | none =>
      obtain ⟨b, ys, rfl, hs1⟩ := ex_word dp1
      refine ⟨_, rfl, b, _, _, _, rfl, rfl, hs1, atI_nat (j := 0) rfl, ?_⟩
      refine ⟨by show 2 ≤ sizeLine; decide, fun tp ntp => ?_⟩
      refine ⟨tp, _, rfl, .inr (.inl (.inl upd_same)), rfl, rfl, _, rfl, ?_⟩
      rw [if_neg Bool.false_ne_true, nf, hla]
      refine iteF ?_
      exact hq _ (s1.trans (same_upd ntp)) (by rw [hla]; exact fun z => nomatch z)
    | some m =>
      obtain ⟨b, ys, rfl, hs1, at0, atl⟩ := last_at dp1 hla
      refine ⟨_, rfl, b, _, _, _, rfl, rfl, hs1, at0, ?_⟩
      refine ⟨by show 2 ≤ sizeLine; decide, fun tp ntp => ?_⟩
      refine ⟨tp, _, rfl, .inr (.inl (.inl upd_same)), rfl, rfl, _, rfl, ?_⟩
      rw [if_neg Bool.false_ne_true, nf, hla]
      refine iteT ?_
      have s2 := s1.trans (same_upd ntp (o := .tup [.str "name", .str "field"]))
      refine ⟨_, rfl, _, rfl, b, _, _, _, rfl, rfl, SqT.ext (same_upd ntp) hs1, atl, _, rfl, a, _, _, _, rfl, rfl, SqT.ext s2 hs, atI_nat (j := 1) rfl, rfl, _, rfl, ?_⟩
      rw [txe]
      by_cases hm : m = l
      · subst hm
        rw [decide_eq_true rfl]
        refine iteT ⟨_, rfl, ?_⟩
        have fin := q _ s2
        unfold outT at fin
        rw [if_pos hla] at fin
        exact fin
      · rw [decide_eq_false hm]
        exact iteF (hq _ s2 (by rw [hla]; exact fun z => hm (Option.some.inj z)))
theorem ok_lpt {f : Addr} {fd : FuncData} (F : Fun K "_law_print_total" "_law_print_total" s__law_print_total f fd) (M : Mg mg) (c__law_print : Cl P w K mg base 8 "_law_print" (sp_lpr K 3)) : FnOk P w K mg base CX0 9 f fd ["total"] (sp_lpt K) := by
  refine F.ok sc__law_print_total (fun vs H Q E h => ?_) (fun cdv A outer s H vs Q E hr h => ?_)
  · obtain ⟨p, t, rfl, _⟩ := h
    rfl
  · obtain ⟨p, t, rfl, ⟨a, fo, l, rfl, hs, hl, h⟩, q⟩ := h
    refine ⟨_, (pss_cons (ps_set (i := 1) sc__law_print_total.nd rfl (.inl rfl) (pe_ix (ix_tupK K) (pv 0) pe_int (fun _ _ => rfl)))
      (pss_cons (ps_if (pt_cmpR op_eq (pe_ix (ix_tupK K) (pv 1) pe_int (fun _ _ => rfl)) pe_str (nomark _)) (pss_one (ps_ret (pe_op op_add_str pe_str (pe_ix (ix_tupK K) (pv 0) pe_int (fun _ _ => rfl))))) pss_nil)
      (pss_one (ps_ret (pe_op op_add_str (pe_op op_add_str (pe_op op_add_str (pe_op op_add_str (pe_ix (ix_tupK K) (pv 1) pe_int (fun _ _ => rfl)) pe_str) (pe_u c__law_print hr (by first | decide | omega) (by rfl) (pa_cons (pe_ix (ix_tupK K) (pv 1) pe_int (fun _ _ => rfl)) (pa_cons pe_int pa_nil)))) pe_str) (pe_ix (ix_tupK K) (pv 0) pe_int (fun _ _ => rfl))))))), ?_⟩
    refine ⟨_, rfl, a, _, _, _, rfl, rfl, hs, atI_nat (j := 0) rfl, ?_⟩
    rcases h with ⟨hf, rfl⟩ | ⟨w', x, e, hw, hf, dp, ok, ht, rfl⟩
    · refine ⟨_, rfl, fo, _, _, _, rfl, rfl, hf, atI_nat (j := 0) rfl, rfl, _, rfl, iteT ?_⟩
      refine ⟨_, rfl, a, _, _, _, rfl, rfl, hs, atI_nat (j := 1) rfl, _, _, rfl, rfl, add_len (L := codes "count as ") (l := l) (by rw [show (codes "count as ").length = 9 by decide]; omega), ?_⟩
      rw [codes_S "count as ", add_eq]
      have fin := q H (Same.refl H)
      rw [← List.append_assoc, show codes "count" ++ codes " as " = codes "count as " by decide] at fin
      exact fin
    · have hp := pr2 ok ht
      have hw8 : (codes w').length ≤ 8 ∧ decide (V.str (Str.ofString w') = V.str "count") = false := by
        simp only [AGG, List.mem_cons, List.not_mem_nil, or_false] at hw
        rcases hw with rfl | rfl | rfl | rfl
        · exact ⟨by decide, wne "distinct" "count" (by decide +kernel)⟩
        · exact ⟨by decide, wne "sum" "count" (by decide +kernel)⟩
        · exact ⟨by decide, wne "min" "count" (by decide +kernel)⟩
        · exact ⟨by decide, wne "max" "count" (by decide +kernel)⟩
      refine ⟨_, rfl, fo, _, _, _, rfl, rfl, hf, atI_nat (j := 0) rfl, rfl, _, rfl, ?_⟩
      rw [hw8.2]
      refine iteF ?_
      rw [codes_S w'] at hf
      refine ⟨_, rfl, fo, _, _, _, rfl, rfl, hf, atI_nat (j := 0) rfl, _, _, rfl, rfl, add_len (l := [40]) (by show _ + 1 ≤ _; omega), ?_⟩
      rw [show (⟨(codes w').toArray⟩ : Str) ++ Str.ofString "(" = (⟨(codes w' ++ [40] : List Nat).toArray⟩ : Str) from add_eq _ [40]]
      refine ⟨_, rfl, fo, _, _, _, rfl, rfl, hf, atI_nat (j := 1) rfl, x, e, 1, rfl, dp, ok, by omega, by omega, by decide, fun H1 s1 => ?_⟩
      rw [par1]
      refine ⟨_, _, rfl, rfl, add_len (L := codes w' ++ [40]) (l := e.pr) (by rw [List.length_append]; show _ + 1 + _ ≤ _; omega), ?_⟩
      rw [add_eq]
      refine ⟨_, _, rfl, rfl, add_len (L := codes w' ++ [40] ++ e.pr) (l := codes ") as ") (by rw [List.length_append, List.length_append, show (codes ") as ").length = 5 by decide]; show _ + 1 + _ + _ ≤ _; omega), ?_⟩
      rw [codes_S ") as ", add_eq]
      refine ⟨_, rfl, a, _, _, _, rfl, rfl, SqT.ext s1 hs, atI_nat (j := 1) rfl, _, _, rfl, rfl, add_len (L := codes w' ++ [40] ++ e.pr ++ codes ") as ") (l := l) (by rw [List.length_append, List.length_append, List.length_append, show (codes ") as ").length = 5 by decide]; show _ + 1 + _ + _ + _ ≤ _; omega), ?_⟩
      rw [add_eq]
      have fin := q H1 s1
      rw [show codes w' ++ 40 :: (e.pr ++ 41 :: (codes " as " ++ l)) = codes w' ++ [40] ++ e.pr ++ codes ") as " ++ l by rw [show codes ") as " = 41 :: codes " as " by decide]; simp] at fin
      exact fin
end
theorem grT2 (ts us : List (List Nat)) : grT ts us = jl [32] ((codes "group" :: (if ts = [] then [] else [jl [44, 32] ts])) ++ (if us = [] then [] else [codes "with " ++ jl [44, 32] us])) := by
  unfold grT
  have hw : codes "with " = codes "with" ++ [32] := by decide
  by_cases h : us = []
  · rw [if_pos h, if_pos h]
  · rw [if_neg h, if_neg h]
    by_cases h1 : ts = []
    · rw [if_pos h1]
      show codes "group" ++ ([32] ++ (codes "with" ++ ([32] ++ jl [44, 32] us))) = codes "group" ++ ([32] ++ (codes "with " ++ jl [44, 32] us))
      rw [hw, List.append_assoc]
    · rw [if_neg h1]
      show codes "group" ++ ([32] ++ (jl [44, 32] ts ++ ([32] ++ (codes "with" ++ ([32] ++ jl [44, 32] us))))) = codes "group" ++ ([32] ++ (jl [44, 32] ts ++ ([32] ++ (codes "with " ++ jl [44, 32] us))))
      rw [hw, List.append_assoc]
def sp_lpq (K : PySem.W.Frag) (n : Nat) : Sp := fun vs H Q _ => ∃ (p : V) (L : Addr → Prop) (ls : List (List Nat)) (g : List Nat), vs = [p, tx g] ∧ g.length ≤ 3 ∧ RQ L K H n p ls ∧ n ≤ 3 ∧ suml ls + ls.length * g.length ≤ 16777216 ∧ ∀ H', Same H H' → Q (tx (jl g ls)) H'
def sp_lpp (K : PySem.W.Frag) (n : Nat) : Sp := fun vs H Q _ => ∃ (p : V) (L : Addr → Prop) (t : List Nat), vs = [p] ∧ ROp (RQ L K H n) K H p t ∧ n ≤ 2 ∧ ∀ H', Same H H' → Q (tx t) H'
def sp_lps (K : PySem.W.Frag) (n : Nat) : Sp := fun vs H Q _ => ∃ (p : V) (L : Addr → Prop) (t : List Nat), vs = [p] ∧ RSt (ROp (RQ L K H n) K H) L K H p t ∧ n ≤ 2 ∧ ∀ H', Same H H' → Q (tx t) H'
section
variable {P : Program} {w : World} {K : PySem.W.Frag} {mg : Str → Option Value} {base : Heap}
theorem ok_lpp {f : Addr} {fd : FuncData} {j : Nat} (n : Nat) (F : Fun K "_law_print_operand" "_law_print_operand" s__law_print_operand f fd) (M : Mg mg) (c__law_print_query : Cl P w K mg base j "_law_print_query" (sp_lpq K n)) : FnOk P w K mg base CX0 (j + 1) f fd ["operand"] (sp_lpp K n) := by
  refine F.ok sc__law_print_operand (fun vs H Q E h => ?_) (fun cdv A outer s H vs Q E hr h => ?_)
  · obtain ⟨p, L, t, rfl, _⟩ := h
    rfl
  · obtain ⟨p, L, t, rfl, h, hn, q⟩ := h
    have tl := h.le hn
    refine ⟨_, (pss_cons (ps_if (pt_cmpR op_eq (pe_ix (ix_tupK K) (pv 0) pe_int (fun _ _ => rfl)) pe_str (nomark _)) (pss_one (ps_ret (pe_op op_add_str (pe_op op_add_str (pe_op op_add_str pe_str (pe_u c__law_print_query hr (by first | decide | omega) (by rfl) (pa_cons (pe_ix (ix_tupK K) (pv 0) pe_int (fun _ _ => rfl)) (pa_cons pe_str pa_nil)))) pe_str) (pe_ix (ix_tupK K) (pv 0) pe_int (fun _ _ => rfl))))) pss_nil)
      (pss_cons (ps_if (pt_cmpR op_eq (pe_ix (ix_tupK K) (pv 0) pe_int (fun _ _ => rfl)) (pe_ix (ix_tupK K) (pv 0) pe_int (fun _ _ => rfl)) (nomark _)) (pss_one (ps_ret (pe_ix (ix_tupK K) (pv 0) pe_int (fun _ _ => rfl)))) pss_nil)
      (pss_one (ps_ret (pe_op op_add_str (pe_op op_add_str (pe_ix (ix_tupK K) (pv 0) pe_int (fun _ _ => rfl)) pe_str) (pe_ix (ix_tupK K) (pv 0) pe_int (fun _ _ => rfl))))))), ?_⟩
    obtain ⟨a, rfl, ⟨l, m, hs, ll, lm, rfl⟩ | ⟨qv, ls, m, hs, lm, rq, rfl⟩⟩ := h
    · refine ⟨_, rfl, a, _, _, _, rfl, rfl, hs, atI_nat (j := 0) rfl, rfl, _, rfl, iteF ?_⟩
      refine ⟨_, rfl, a, _, _, _, rfl, rfl, hs, atI_nat (j := 1) rfl, _, rfl, a, _, _, _, rfl, rfl, hs, atI_nat (j := 2) rfl, rfl, _, rfl, ?_⟩
      rw [txe]
      have fin := q H (Same.refl H)
      by_cases hm : l = m
      · rw [if_pos hm] at fin
        rw [decide_eq_true hm]
        exact iteT ⟨_, rfl, a, _, _, _, rfl, rfl, hs, atI_nat (j := 1) rfl, fin⟩
      · rw [if_neg hm] at fin
        rw [decide_eq_false hm]
        refine iteF ⟨_, rfl, a, _, _, _, rfl, rfl, hs, atI_nat (j := 1) rfl, _, _, rfl, rfl, add_len (L := l) (l := codes " as ") (by rw [as4]; omega), ?_⟩
        rw [codes_S " as ", add_eq]
        refine ⟨_, rfl, a, _, _, _, rfl, rfl, hs, atI_nat (j := 2) rfl, _, _, rfl, rfl, add_len (L := l ++ codes " as ") (l := m) (by rw [List.length_append, as4]; omega), ?_⟩
        rw [add_eq]
        rw [← List.append_assoc] at fin
        exact fin
    · have ql := RQ.len n _ _ rq
      have := bl2 hn
      have jlen := jl_len [32] ls
      have e1 : ([32] : List Nat).length = 1 := rfl
      rw [e1] at jlen
      refine ⟨_, rfl, a, _, _, _, rfl, rfl, hs, atI_nat (j := 0) rfl, rfl, _, rfl, iteT ?_⟩
      refine ⟨_, rfl, a, _, _, _, rfl, rfl, hs, atI_nat (j := 1) rfl, qv, L, ls, [32], rfl, by decide, rq, by omega, by rw [e1]; omega, fun H1 s1 => ?_⟩
      refine ⟨_, _, rfl, rfl, add_len (L := [40]) (l := jl [32] ls) (by show 1 + _ ≤ _; omega), ?_⟩
      rw [show Str.ofString "(" ++ (⟨(jl [32] ls).toArray⟩ : Str) = (⟨([40] ++ jl [32] ls : List Nat).toArray⟩ : Str) from add_eq [40] _]
      refine ⟨_, _, rfl, rfl, add_len (L := [40] ++ jl [32] ls) (l := codes ") as ") (by rw [List.length_append, show (codes ") as ").length = 5 by decide]; show 1 + _ + _ ≤ _; omega), ?_⟩
      rw [codes_S ") as ", add_eq]
      refine ⟨_, rfl, a, _, _, _, rfl, rfl, SqT.ext s1 hs, atI_nat (j := 2) rfl, _, _, rfl, rfl, add_len (L := [40] ++ jl [32] ls ++ codes ") as ") (l := m) (by rw [List.length_append, List.length_append, show (codes ") as ").length = 5 by decide]; show 1 + _ + _ + _ ≤ _; omega), ?_⟩
      rw [add_eq]
      have fin := q H1 s1
      rw [show (40 :: (jl [32] ls ++ 41 :: (codes " as " ++ m))) = [40] ++ jl [32] ls ++ codes ") as " ++ m by rw [show codes ") as " = 41 :: codes " as " by decide]; simp] at fin
      exact fin
theorem ok_lps {f : Addr} {fd : FuncData} {j : Nat} (h9 : 9 ≤ j) (n : Nat) (F : Fun K "_law_print_stage" "_law_print_stage" s__law_print_stage f fd) (M : Mg mg) (c__law_print_operand : Cl P w K mg base j "_law_print_operand" (sp_lpp K n)) (c__law_print_output : Cl P w K mg base 9 "_law_print_output" (sp_lpo K)) (c__law_print_total : Cl P w K mg base 9 "_law_print_total" (sp_lpt K)) (c__law_print : Cl P w K mg base 8 "_law_print" (sp_lpr K 3)) : FnOk P w K mg base CX0 (j + 1) f fd ["stage"] (sp_lps K n) := by
  refine F.ok sc__law_print_stage (fun vs H Q E h => ?_) (fun cdv A outer s H vs Q E hr h => ?_)
  · obtain ⟨p, L, t, rfl, _⟩ := h
    rfl
  · obtain ⟨p, L, t, rfl, h, hn, q⟩ := h
    obtain ⟨t', ht', hq⟩ : ∃ t', PSs (cxOf CX0 P w K mg base N__law_print_stage "_law_print_stage" (defScope s__law_print_stage) f cdv A outer s H E).nox ((defBody s__law_print_stage).drop 6) t' ∧ ∀ a o ap us xs H' D y1 y2 y4 y5, SqT K H a [.str "group", o, .ref ap] → Rl L (RTo K H) H (.ref ap) us → us.length ≤ 3 → Same H H' → H D = none → H' D = some (.lst (xs.map tx)) → xs.length ≤ 2 → suml xs ≤ 7000 → (∀ H'', Same H H'' → Q (tx (jl [32] (xs ++ (if us = [] then [] else [codes "with " ++ jl [44, 32] us])))) H'') → t' { nx := fun _ H' => Q .non H', rt := Q } [some (.ref a), y1, y2, some (.ref D), y4, y5] H' := by
      refine ⟨_, (pss_cons (ps_if (pt_truthK K (pe_ix (ix_tupK K) (pv 0) pe_int (fun _ _ => rfl)) (by intro _; rfl)) (pss_one (ps_expr (pe_bmK K PySem.F.plainAttrs_list PySem.F.slot_list_append PySem.F.type_list_append mt_append (pv 3) (pa_cons (pe_op op_add_str pe_str (pe_join pe_str (pe_lc (own := [("total", 5)]) (g := gName 5) (tt := tYes) rfl sc__law_print_stage.nd (pi_list (pe_ix (ix_tupK K) (pv 0) pe_int (fun _ _ => rfl))) (blkOk_by (N := N__law_print_stage) (sc := defScope s__law_print_stage) (by decide +kernel)) (fun _ _ _ _ _ => (pg_name (i := 5) sc__law_print_stage.nd rfl (.inl rfl))) (fun _ _ _ _ _ => pts_nil) (fun _ _ _ _ _ => (pe_u c__law_print_total hr (by first | decide | omega) (by rfl) (pa_cons (pv 5) pa_nil)))))) pa_nil)))) pss_nil)
      (pss_one (ps_ret (pe_join pe_str (pv 3))))), fun a o ap us xs H' D y1 y2 y4 y5 hs hp k2 s' nD eD kx sx fq => ?_⟩
      have lp := hp.le (fun _ _ z => RTo.len z) k2
      have j2 := jl_len [44, 32] us
      have e2 : ([44, 32] : List Nat).length = 2 := rfl
      rw [e2] at j2
      obtain ⟨ap', xp, hap, Lp, ep, fp⟩ := hp
      cases hap
      have fin : ∀ Hn zs, Same H Hn → Hn D = some (.lst (zs.map tx)) → suml zs + zs.length ≤ 16777216 → Q (tx (jl [32] zs)) Hn → ∀ y4 y5, tRet (tM1 (fun x xs H_1 Q => ∃ a p ys, x = V.str a ∧ xs = [V.ref p] ∧ (SqL K H_1 p (List.map V.str ys) ∨ SqT K H_1 p (List.map V.str ys)) ∧ (List.map (fun x => x.length) ys).sum + ys.length * a.length ≤ 16777216 ∧ Q (V.str (Txt.join a ys)) H_1) (tC (V.str (Str.ofString " "))) (tVar 3)) { nx := fun _ H' => Q .non H', rt := Q } [some (.ref a), y1, y2, some (.ref D), y4, y5] Hn := fun Hn zs sn en hz hj y4 y5 => by
        rw [tx_map] at en
        refine ⟨⟨_, rfl⟩, _, rfl, _, D, _, rfl, rfl, .inl (.of en), ?_, ?_⟩
        · rw [lens_S, List.length_map]
          show _ + zs.length * 1 ≤ _
          omega
        · rw [show Txt.join (Str.ofString " ") (zs.map fun l => (⟨l.toArray⟩ : Str)) = ⟨(jl [32] zs).toArray⟩ from jl_S [32] zs]
          exact hj
      refine ⟨_, rfl, a, _, _, _, rfl, rfl, SqT.ext s' hs, atI_nat (j := 2) rfl, !xp.isEmpty, .inl ⟨xp, .of (s' _ _ ep), rfl⟩, ?_⟩
      rw [fp.emp]
      cases us with
      | nil =>
        refine iteF ?_
        refine fin H' xs s' eD (by omega) ?_ _ _
        have := fq H' s'
        rw [if_pos rfl, List.append_nil] at this
        exact this
      | cons u us =>
        refine iteT ?_
        refine ⟨_, rfl, .inl ⟨rfl, _, .of eD⟩, ⟨_, rfl⟩, _, rfl, a, _, _, _, rfl, rfl, SqT.ext s' hs, atI_nat (j := 2) rfl, ap, rfl, ⟨_, .of (s' _ _ ep)⟩, fun D2 nD2 => ?_⟩
        refine lc_txt (K := K) (a := ap) fp (by omega) (.of (s' _ _ ep)) nD2 (fun v t Hi r si Qc Nc qc => ⟨rfl, ?_⟩) (fun Hn sn eD2 => ?_)
        · exact ⟨_, rfl, v, t, rfl, r.ch (Ch.of (L := L) (s'.trans si)), qc⟩
        · rw [tx_map] at eD2
          refine ⟨_, D2, _, rfl, rfl, .inl (.of eD2), ?_, ?_⟩
          · rw [lens_S, List.length_map]
            show _ + (u :: us).length * 2 ≤ 16777216
            omega
          · rw [show Txt.join (Str.ofString ", ") ((u :: us).map fun l => (⟨l.toArray⟩ : Str)) = ⟨(jl [44, 32] (u :: us)).toArray⟩ from jl_S [44, 32] _]
            refine ⟨_, _, rfl, rfl, add_len (L := codes "with ") (l := jl [44, 32] (u :: us)) (by rw [show (codes "with ").length = 5 by decide]; omega), ?_⟩
            rw [codes_S "with ", add_eq]
            refine ⟨D, _, _, rfl, rfl, sn _ _ eD, by rw [List.length_map]; exact Nat.lt_of_lt_of_le (m := 1000) (by omega) (by decide), ?_⟩
            have sf := same_at (o := .lst (xs.map tx ++ [tx (codes "with " ++ jl [44, 32] (u :: us))])) (s'.trans sn) nD
            refine fin _ (xs ++ [codes "with " ++ jl [44, 32] (u :: us)]) sf ?_ ?_ ?_ _ _
            · rw [upd_same, List.map_append]
              rfl
            · rw [suml_app, List.length_append]
              show _ + ((codes "with " ++ jl [44, 32] (u :: us)).length + 0) + (_ + 1) ≤ _
              rw [List.length_append, show (codes "with ").length = 5 by decide]
              omega
            · have := fq _ sf
              rw [if_neg (fun z => nomatch z)] at this
              exact this
    refine ⟨_, (pss_cons (ps_if (pt_cmpR op_eq (pe_ix (ix_tupK K) (pv 0) pe_int (fun _ _ => rfl)) pe_str (nomark _)) (pss_cons (ps_set (i := 1) sc__law_print_stage.nd rfl (.inl rfl) (pe_dget (hu_of hr) (pe_disp (pps_cons pe_str pe_str (pps_cons pe_str pe_str (pps_cons pe_str pe_str (pps_cons pe_str pe_str pps_nil)))) (by rfl) (by rfl) (fun z => by cases z) (by decide)) (pe_ix (ix_tupK K) (pv 0) pe_int (fun _ _ => rfl)) (fun _ _ => rfl)))
      (pss_one (ps_ret (pe_op op_add_str (pe_op op_add_str (pe_op op_add_str (pe_op op_add_str (pv 1) pe_str) (pe_u c__law_print_operand hr (by first | decide | omega) (by rfl) (pa_cons (pe_ix (ix_tupK K) (pv 0) pe_int (fun _ _ => rfl)) pa_nil))) pe_str) (pe_u c__law_print hr (by first | decide | omega) (by rfl) (pa_cons (pe_ix (ix_tupK K) (pv 0) pe_int (fun _ _ => rfl)) (pa_cons pe_int pa_nil))))))) pss_nil)
      (pss_cons (ps_if (pt_cmpR op_eq (pe_ix (ix_tupK K) (pv 0) pe_int (fun _ _ => rfl)) pe_str (nomark _)) (pss_one (ps_ret (pe_op op_add_str pe_str (pe_u c__law_print hr (by first | decide | omega) (by rfl) (pa_cons (pe_ix (ix_tupK K) (pv 0) pe_int (fun _ _ => rfl)) (pa_cons pe_int pa_nil)))))) pss_nil)
      (pss_cons (ps_setLc (i := 2) (own := [("output", 4)]) (g := gName 4) (tt := tYes) rfl sc__law_print_stage.nd rfl rfl (sw_true rfl rfl rfl (by decide +kernel)) (pi_list (pe_ix (ix_tupK K) (pv 0) pe_int (fun _ _ => rfl))) (blkOk_by (N := N__law_print_stage) (sc := defScope s__law_print_stage) (by decide +kernel)) (fun _ _ _ _ _ => (pg_name (i := 4) sc__law_print_stage.nd rfl (.inl rfl))) (fun _ _ _ _ _ => pts_nil) (fun _ _ _ _ _ => (pe_u c__law_print_output hr (by first | decide | omega) (by rfl) (pa_cons (pv 4) pa_nil))))
      (pss_cons (ps_if (pt_cmpR op_eq (pe_ix (ix_tupK K) (pv 0) pe_int (fun _ _ => rfl)) pe_str (nomark _)) (pss_one (ps_ret (pe_op op_add_str pe_str (pe_join pe_str (pv 2))))) pss_nil)
      (pss_cons (ps_set (i := 3) sc__law_print_stage.nd rfl (.inl rfl) (pe_lst (pa_cons pe_str pa_nil)))
      (pss_cons (ps_if (pt_truthK K (pe_ix (ix_tupK K) (pv 0) pe_int (fun _ _ => rfl)) (by intro _; rfl)) (pss_one (ps_expr (pe_bmK K PySem.F.plainAttrs_list PySem.F.slot_list_append PySem.F.type_list_append mt_append (pv 3) (pa_cons (pe_join pe_str (pv 2)) pa_nil)))) pss_nil)
      ht')))))), ?_⟩
    obtain ⟨a, rfl, ⟨s', o, x, e, u, hj, hs, ho, dp, ok, ht, rfl⟩ | ⟨x, e, hs, dp, ok, ht, rfl⟩ | ⟨o, ts, hs, ho, k, rfl⟩ | ⟨o, p, ts, us, hs, ho, hp, k1, k2, rfl⟩⟩ := h
    · have ul := ho.le hn
      have el := pr2 ok ht
      have jl9 : (codes (joiT s')).length ≤ 10 := by
        simp only [JOI, List.mem_cons, List.not_mem_nil, or_false] at hj
        rcases hj with rfl | rfl | rfl | rfl <;> decide
      have hv : some (tx (codes (joiT s'))) = valV (mergeK [] ([(.inr "inner", .str "join"), (.inr "left", .str "left join"), (.inr "semi", .str "semi join"), (.inr "anti", .str "anti join")] : List (Key × V))) (.inr (Str.ofString s')) := by
        simp only [JOI, List.mem_cons, List.not_mem_nil, or_false] at hj
        rcases hj with rfl | rfl | rfl | rfl <;> decide +kernel
      refine ⟨_, rfl, a, _, _, _, rfl, rfl, hs, atI_nat (j := 0) rfl, rfl, _, rfl, iteT ?_⟩
      refine fun D nD => ?_
      refine ⟨upd_same, [(.inr "inner", .str "join"), (.inr "left", .str "left join"), (.inr "semi", .str "semi join"), (.inr "anti", .str "anti join")], rfl, by show 4 ≤ 15; decide, ?_⟩
      have s1 : Same H (upd (upd H D (.dK [])) D (.dK (mergeK [] [(.inr "inner", .str "join"), (.inr "left", .str "left join"), (.inr "semi", .str "semi join"), (.inr "anti", .str "anti join")]))) := same_at (same_upd nD) nD
      refine ⟨_, rfl, a, _, _, _, rfl, rfl, SqT.ext s1 hs, atI_nat (j := 1) rfl, D, tx (codes (joiT s')), rfl, .inl ⟨_, .inr (Str.ofString s'), .inl upd_same, rfl, hv⟩, ?_⟩
      generalize upd (upd H D (.dK [])) D (.dK (mergeK [] [(.inr "inner", .str "join"), (.inr "left", .str "left join"), (.inr "semi", .str "semi join"), (.inr "anti", .str "anti join")])) = H1 at s1
      refine ⟨_, rfl, _, _, rfl, rfl, add_len (L := codes (joiT s')) (l := [32]) (by show _ + 1 ≤ _; omega), ?_⟩
      rw [show (⟨(codes (joiT s')).toArray⟩ : Str) ++ Str.ofString " " = (⟨(codes (joiT s') ++ [32] : List Nat).toArray⟩ : Str) from add_eq _ [32]]
      refine ⟨_, rfl, a, _, _, _, rfl, rfl, SqT.ext s1 hs, atI_nat (j := 2) rfl, o, L, u, rfl, ROp.ch (Ch.of (L := L) s1) (fun _ _ z => RQ.ch (Ch.of s1) _ _ _ z) ho, hn, fun H2 s2 => ?_⟩
      refine ⟨_, _, rfl, rfl, add_len (L := codes (joiT s') ++ [32]) (l := u) (by rw [List.length_append]; show _ + 1 + _ ≤ _; omega), ?_⟩
      rw [add_eq]
      refine ⟨_, _, rfl, rfl, add_len (L := codes (joiT s') ++ [32] ++ u) (l := codes " on ") (by rw [List.length_append, List.length_append, show (codes " on ").length = 4 by decide]; show _ + 1 + _ + _ ≤ _; omega), ?_⟩
      rw [codes_S " on ", add_eq]
      refine ⟨_, rfl, a, _, _, _, rfl, rfl, SqT.ext (s1.trans s2) hs, atI_nat (j := 3) rfl, x, e, 1, rfl, Dp.ext (s1.trans s2) _ _ dp, ok, by omega, by omega, by decide, fun H3 s3 => ?_⟩
      rw [par1]
      refine ⟨_, _, rfl, rfl, add_len (L := codes (joiT s') ++ [32] ++ u ++ codes " on ") (l := e.pr) (by rw [List.length_append, List.length_append, List.length_append, show (codes " on ").length = 4 by decide]; show _ + 1 + _ + _ + _ ≤ _; omega), ?_⟩
      rw [add_eq]
      have fin := q H3 ((s1.trans s2).trans s3)
      rw [show codes (joiT s') ++ 32 :: (u ++ (codes " on " ++ e.pr)) = codes (joiT s') ++ [32] ++ u ++ codes " on " ++ e.pr by simp] at fin
      exact fin
    · have el := pr2 ok ht
      refine ⟨_, rfl, a, _, _, _, rfl, rfl, hs, atI_nat (j := 0) rfl, rfl, _, rfl, iteF ?_⟩
      refine ⟨_, rfl, a, _, _, _, rfl, rfl, hs, atI_nat (j := 0) rfl, rfl, _, rfl, iteT ?_⟩
      refine ⟨_, rfl, a, _, _, _, rfl, rfl, hs, atI_nat (j := 1) rfl, x, e, 1, rfl, dp, ok, by omega, by omega, by decide, fun H1 s1 => ?_⟩
      rw [par1]
      refine ⟨_, _, rfl, rfl, add_len (L := codes "where ") (l := e.pr) (by rw [show (codes "where ").length = 6 by decide]; omega), ?_⟩
      rw [codes_S "where ", add_eq]
      exact q H1 s1
    · have lo := ho.le (fun _ _ z => RO.len z) k
      have j1 := jl_len [44, 32] ts
      have e2 : ([44, 32] : List Nat).length = 2 := rfl
      rw [e2] at j1
      obtain ⟨ao, xo, rfl, Lo, eo, fo⟩ := ho
      refine ⟨_, rfl, a, _, _, _, rfl, rfl, hs, atI_nat (j := 0) rfl, rfl, _, rfl, iteF ?_⟩
      refine ⟨_, rfl, a, _, _, _, rfl, rfl, hs, atI_nat (j := 0) rfl, rfl, _, rfl, iteF ?_⟩
      refine ⟨_, rfl, a, _, _, _, rfl, rfl, hs, atI_nat (j := 1) rfl, ao, rfl, ⟨_, .of eo⟩, fun D nD => ?_⟩
      refine lc_txt (K := K) (a := ao) fo (by omega) (.of eo) nD (fun v t Hi r si Qc Nc qc => ⟨rfl, ?_⟩) (fun Hn sn eD => ?_)
      · exact ⟨_, rfl, v, t, rfl, r.ch (Ch.of (L := L) si), qc⟩
      · rw [tx_map] at eD
        refine ⟨_, rfl, a, _, _, _, rfl, rfl, SqT.ext sn hs, atI_nat (j := 0) rfl, rfl, _, rfl, iteT ?_⟩
        refine ⟨⟨_, rfl⟩, _, rfl, _, D, _, rfl, rfl, .inl (.of eD), ?_, ?_⟩
        · rw [lens_S, List.length_map]
          show _ + ts.length * 2 ≤ 16777216
          omega
        · rw [show Txt.join (Str.ofString ", ") (ts.map fun l => (⟨l.toArray⟩ : Str)) = ⟨(jl [44, 32] ts).toArray⟩ from jl_S [44, 32] _]
          refine ⟨_, _, rfl, rfl, add_len (L := codes "select ") (l := jl [44, 32] ts) (by rw [show (codes "select ").length = 7 by decide]; omega), ?_⟩
          rw [codes_S "select ", add_eq]
          exact q Hn sn
    · have lo := ho.le (fun _ _ z => RO.len z) k1
      have j1 := jl_len [44, 32] ts
      have e2 : ([44, 32] : List Nat).length = 2 := rfl
      rw [e2] at j1
      have hp0 := hp
      obtain ⟨ao, xo, rfl, Lo, eo, fo⟩ := ho
      obtain ⟨ap, xp, rfl, Lp, ep, fp⟩ := hp
      have fq : ∀ zs, zs = codes "group" :: (if ts = [] then [] else [jl [44, 32] ts]) → ∀ H'', Same H H'' → Q (tx (jl [32] (zs ++ (if us = [] then [] else [codes "with " ++ jl [44, 32] us])))) H'' := fun zs hz H'' s'' => by
        have := q H'' s''
        rw [grT2] at this
        rw [hz]
        exact this
      refine ⟨_, rfl, a, _, _, _, rfl, rfl, hs, atI_nat (j := 0) rfl, rfl, _, rfl, iteF ?_⟩
      refine ⟨_, rfl, a, _, _, _, rfl, rfl, hs, atI_nat (j := 0) rfl, rfl, _, rfl, iteF ?_⟩
      refine ⟨_, rfl, a, _, _, _, rfl, rfl, hs, atI_nat (j := 1) rfl, ao, rfl, ⟨_, .of eo⟩, fun D nD => ?_⟩
      refine lc_txt (K := K) (a := ao) fo (by omega) (.of eo) nD (fun v t Hi r si Qc Nc qc => ⟨rfl, ?_⟩) (fun Hn sn eD => ?_)
      · exact ⟨_, rfl, v, t, rfl, r.ch (Ch.of (L := L) si), qc⟩
      · refine ⟨_, rfl, a, _, _, _, rfl, rfl, SqT.ext sn hs, atI_nat (j := 0) rfl, rfl, _, rfl, iteF ?_⟩
        refine ⟨by show 1 ≤ sizeLine; decide, fun D2 nD2 => ?_⟩
        have s2 := sn.trans (same_upd nD2 (o := .lst [.str "group"]))
        have nD2H : H D2 = none := by
          cases z : H D2 with
          | none => rfl
          | some o => rw [sn _ _ z] at nD2; cases nD2
        have eD' := (same_upd nD2 (o := .lst [.str "group"])) _ _ eD
        have e2' : (upd Hn D2 (.lst [.str "group"])) D2 = some (.lst [.str "group"]) := upd_same
        generalize upd Hn D2 (.lst [.str "group"]) = H2 at s2 eD' e2'
        refine ⟨_, rfl, a, _, _, _, rfl, rfl, SqT.ext s2 hs, atI_nat (j := 1) rfl, !xo.isEmpty, .inl ⟨xo, .of (s2 _ _ eo), rfl⟩, ?_⟩
        rw [fo.emp]
        by_cases ht : ts = []
        · rw [ht]
          refine iteF ?_
          exact hq a _ ap us [codes "group"] H2 D2 _ _ _ _ hs hp0 k2 s2 nD2H e2' (by decide) (by decide) (fq _ (by rw [if_pos ht]))
        · rw [show (!ts.isEmpty) = true by cases ts <;> first | rfl | exact absurd rfl ht]
          refine iteT ?_
          rw [tx_map] at eD'
          refine ⟨_, rfl, .inl ⟨rfl, _, .of e2'⟩, ⟨_, rfl⟩, _, rfl, _, D, _, rfl, rfl, .inl (.of eD'), ?_, ?_⟩
          · rw [lens_S, List.length_map]
            show _ + ts.length * 2 ≤ 16777216
            omega
          · rw [show Txt.join (Str.ofString ", ") (ts.map fun l => (⟨l.toArray⟩ : Str)) = ⟨(jl [44, 32] ts).toArray⟩ from jl_S [44, 32] _]
            refine ⟨D2, _, _, rfl, rfl, e2', by show 1 < sizeLine; decide, ?_⟩
            exact hq a _ ap us [codes "group", jl [44, 32] ts] _ D2 _ _ _ _ hs hp0 k2 (same_at s2 nD2H) nD2H upd_same (Nat.le_refl 2) (by
              show (codes "group").length + ((jl [44, 32] ts).length + 0) ≤ _
              rw [show (codes "group").length = 5 by decide]
              omega) (fq _ (by rw [if_neg ht]))
end

theorem RQ.up {L : Addr → Prop} {K : PySem.W.Frag} {H : Hp} : ∀ (n : Nat) (v : V) (ls : List (List Nat)), RQ L K H n v ls → RQ L K H (n + 1) v ls
  | 0, _, _, h => h.elim
  | n + 1, _, _, ⟨css, h1, r⟩ => ⟨css, h1.wide (fun _ z => z) fun _ _ z => RC.wide (fun _ z => z) (fun _ _ y => ROp.wide (RQ.up n) y) (fun _ _ y => RSt.wide (fun _ z => z) (fun _ _ x => ROp.wide (RQ.up n) x) y) z, r⟩
theorem RQ.to3 {L : Addr → Prop} {K : PySem.W.Frag} {H : Hp} {n : Nat} {v : V} {ls : List (List Nat)} (h : RQ L K H n v ls) (k : n ≤ 3) : RQ L K H 3 v ls := by
  have : n = 0 ∨ n = 1 ∨ n = 2 ∨ n = 3 := by omega
  rcases this with rfl | rfl | rfl | rfl
  · exact h.elim
  · exact RQ.up _ _ _ (RQ.up _ _ _ h)
  · exact RQ.up _ _ _ h
  · exact h
section
variable {P : Program} {w : World} {K : PySem.W.Frag} {mg : Str → Option Value} {base : Heap}
theorem ok_lpq {f : Addr} {fd : FuncData} {j : Nat} (n : Nat) (F : Fun K "_law_print_query" "_law_print_query" s__law_print_query f fd) (M : Mg mg) (c__law_print_operand : Cl P w K mg base (j + 1) "_law_print_operand" (sp_lpp K n)) (c__law_print_stage : Cl P w K mg base (j + 2) "_law_print_stage" (sp_lps K n)) : FnOk P w K mg base CX0 (j + 3) f fd ["query", "gap"] (sp_lpq K (n + 1)) := by
  refine F.ok sc__law_print_query (fun vs H Q E h => ?_) (fun cdv A outer s H vs Q E hr h => ?_)
  · obtain ⟨p, L, ls, g, rfl, _⟩ := h
    rfl
  · obtain ⟨p, L, ls, g, rfl, hg, ⟨css, ⟨a, xs, rfl, hL, eL, hf⟩, k, rfl⟩, hn, hz, q⟩ := h
    have hfl := hf.len
    refine ⟨_, (pss_cons (ps_set (i := 2) sc__law_print_query.nd rfl (.inl rfl) (pe_lst pa_nil))
      (pss_cons (ps_for PassesOwn.never rfl (pi_list (pv 0)) (pg_tup (by rfl) (pgs_cons (pg_name (i := 3) sc__law_print_query.nd rfl (.inl rfl)) (pgs_cons (pg_name (i := 4) sc__law_print_query.nd rfl (.inl rfl)) pgs_nil))) (pss_cons (ps_set (i := 5) sc__law_print_query.nd rfl (.inl rfl) (pe_op op_add_str pe_str (pe_u c__law_print_operand hr (by first | decide | omega) (by rfl) (pa_cons (pe_ix (ix_tupK K) (pv 4) pe_int (fun _ _ => rfl)) pa_nil))))
      (pss_cons (ps_if (pt_cmpR op_notN (pv 3) pe_non (nomark _)) (pss_one (ps_set (i := 5) sc__law_print_query.nd rfl (.inl rfl) (pe_op op_add_str (pe_op op_add_str (pv 3) pe_str) (pv 5)))) pss_nil)
      (pss_cons (ps_expr (pe_bmK K PySem.F.plainAttrs_list PySem.F.slot_list_append PySem.F.type_list_append mt_append (pv 2) (pa_cons (pv 5) pa_nil)))
      (pss_one (ps_expr (pe_bmK K PySem.F.plainAttrs_list PySem.F.slot_list_extend PySem.F.type_list_extend mt_extend (pv 2) (pa_cons (pe_lc (own := [("stage", 6)]) (g := gName 6) (tt := tYes) rfl sc__law_print_query.nd (pi_list (pe_ix (ix_tupK K) (pv 4) pe_int (fun _ _ => rfl))) (blkOk_by (N := N__law_print_query) (sc := defScope s__law_print_query) (by decide +kernel)) (fun _ _ _ _ _ => (pg_name (i := 6) sc__law_print_query.nd rfl (.inl rfl))) (fun _ _ _ _ _ => pts_nil) (fun _ _ _ _ _ => (pe_u c__law_print_stage hr (by first | decide | omega) (by rfl) (pa_cons (pv 6) pa_nil)))) pa_nil))))))))
      (pss_one (ps_ret (pe_join (pv 1) (pv 2)))))), ?_⟩
    refine ⟨Nat.zero_le _, fun D nD => ?_⟩
    refine ⟨_, rfl, a, rfl, ⟨_, .of ((same_upd nD) _ _ eL)⟩, ?_⟩
    refine for_list (K := K) (a := a) (xs := xs) (fun i σ Hi => Same H Hi ∧ Hi D = some (.lst ((css.take i).flatten.map tx)) ∧ (css.take i).flatten.length ≤ 4 * i ∧ ∃ y3 y4 y5 y6, σ = [some (.ref a), some (tx g), some (.ref D), y3, y4, y5, y6]) ⟨same_upd nD, upd_same, Nat.le_refl _, _, _, _, _, rfl⟩ (fun i σ Hi _ hp => .of (hp.1 _ _ eL)) (fun i x σ Hi hx hp => ?_) (fun σ Hn hp => ?_)
    · obtain ⟨si, eD, li, y3, y4, y5, y6, rfl⟩ := hp
      obtain ⟨c, hc, rc⟩ := hf.get hx
      have hi : i < 2 := by have := (List.getElem?_eq_some_iff.mp hc).1; omega
      obtain ⟨a', b, how, l, o, sp, u, ts, rfl, hs1, hs2, hh, ho, hst, kt, rfl⟩ := rc
      have ul := ho.le (by omega)
      have lh := how_len hh
      have lt1000 : (1000 : Nat) < sizeLine := by decide
      refine ⟨a', _, rfl, SqT.ext si hs1, rfl, _, _, rfl, _, _, rfl, rfl, ?_⟩
      refine ⟨_, rfl, b, _, _, _, rfl, rfl, SqT.ext si hs2, atI_nat (j := 0) rfl, o, L, u, rfl, ho.ch (Ch.of (L := L) si) (fun v t z => RQ.ch (Ch.of si) n v t z), by omega, fun H1 s1 => ?_⟩
      refine ⟨_, _, rfl, rfl, add_len (L := codes "from ") (l := u) (by rw [show (codes "from ").length = 5 by decide]; omega), ?_⟩
      rw [codes_S "from ", add_eq]
      have s01 := si.trans s1
      have eD1 := s1 _ _ eD
      rcases hh with ⟨rfl, rfl⟩ | ⟨s', hs', rfl, rfl⟩
      · refine ⟨_, rfl, rfl, _, rfl, iteF ?_⟩
        · refine ⟨_, rfl, .inl ⟨rfl, _, .of eD1⟩, _, rfl, D, _, _, rfl, rfl, eD1, by rw [List.length_map]; omega, ?_⟩
          have s2 : Same H (upd H1 D (.lst ((css.take i).flatten.map tx ++ [V.str ⟨(codes "from " ++ u : List Nat).toArray⟩]))) := same_at s01 nD
          have e2 : (upd H1 D (.lst ((css.take i).flatten.map tx ++ [V.str ⟨(codes "from " ++ u : List Nat).toArray⟩]))) D = some (.lst ((css.take i).flatten.map tx ++ [V.str ⟨(codes "from " ++ u : List Nat).toArray⟩])) := upd_same
          generalize upd H1 D (.lst ((css.take i).flatten.map tx ++ [V.str ⟨(codes "from " ++ u : List Nat).toArray⟩])) = H2 at s2 e2
          have st2 := hst.ch (R' := RSt (ROp (RQ L K H2 n) K H2) L K H2) (Ch.of (L := L) s2) fun v t z => z.ch (Ch.of (L := L) s2) fun v t y => y.ch (Ch.of (L := L) s2) fun v t x => RQ.ch (Ch.of s2) n v t x
          obtain ⟨as, xst, rfl, hLs, es, fs⟩ := st2
          refine ⟨_, rfl, .inl ⟨rfl, _, .of e2⟩, _, rfl, b, _, _, _, rfl, rfl, SqT.ext s2 hs2, atI_nat (j := 1) rfl, as, rfl, ⟨_, .of es⟩, fun D2 nD2 => ?_⟩
          refine lc_txt (K := K) (a := as) fs (by omega) (.of es) nD2 (fun v t H3 r s3 Qc Nc qc => ⟨rfl, ?_⟩) (fun Hn sn eD2 => ?_)
          · exact ⟨_, rfl, v, L, t, rfl, r.ch (Ch.of (L := L) s3) (fun v t y => y.ch (Ch.of (L := L) s3) fun v t x => RQ.ch (Ch.of s3) n v t x), by omega, qc⟩
          · have eDn := sn _ _ e2
            refine ⟨D, D2, _, _, rfl, rfl, eDn, eD2, by rw [List.length_append, List.length_map, List.length_map]; show _ + 1 + _ ≤ _; omega, ?_⟩
            refine ⟨same_at (s2.trans sn) nD, ?_, ?_, _, _, _, _, rfl⟩
            · rw [upd_same, flat_take css i _ hc, List.map_append, List.map_cons, List.append_assoc]
              rfl
            · rw [flat_take css i _ hc, List.length_append, List.length_cons]
              omega
      · have ls : (codes s').length ≤ 10 := by rw [List.length_append] at lh; omega
        refine ⟨_, rfl, rfl, _, rfl, iteT ?_⟩
        · refine ⟨_, rfl, _, _, rfl, rfl, by rw [codes_S s', S_len']; exact Nat.le_trans (m := 100) (by show _ + 1 ≤ 100; omega) (by decide), ?_⟩
          rw [show Str.ofString s' ++ Str.ofString " " = (⟨(codes s' ++ [32] : List Nat).toArray⟩ : Str) by rw [codes_S s']; exact add_eq _ [32]]
          refine ⟨_, rfl, _, _, rfl, rfl, add_len (L := codes s' ++ [32]) (l := codes "from " ++ u) (by rw [List.length_append, List.length_append, show (codes "from ").length = 5 by decide]; show _ + 1 + _ ≤ _; omega), ?_⟩
          rw [add_eq]
          refine ⟨_, rfl, .inl ⟨rfl, _, .of eD1⟩, _, rfl, D, _, _, rfl, rfl, eD1, by rw [List.length_map]; omega, ?_⟩
          have s2 : Same H (upd H1 D (.lst ((css.take i).flatten.map tx ++ [V.str ⟨(codes s' ++ [32] ++ (codes "from " ++ u) : List Nat).toArray⟩]))) := same_at s01 nD
          have e2 : (upd H1 D (.lst ((css.take i).flatten.map tx ++ [V.str ⟨(codes s' ++ [32] ++ (codes "from " ++ u) : List Nat).toArray⟩]))) D = some (.lst ((css.take i).flatten.map tx ++ [V.str ⟨(codes s' ++ [32] ++ (codes "from " ++ u) : List Nat).toArray⟩])) := upd_same
          generalize upd H1 D (.lst ((css.take i).flatten.map tx ++ [V.str ⟨(codes s' ++ [32] ++ (codes "from " ++ u) : List Nat).toArray⟩])) = H2 at s2 e2
          have st2 := hst.ch (R' := RSt (ROp (RQ L K H2 n) K H2) L K H2) (Ch.of (L := L) s2) fun v t z => z.ch (Ch.of (L := L) s2) fun v t y => y.ch (Ch.of (L := L) s2) fun v t x => RQ.ch (Ch.of s2) n v t x
          obtain ⟨as, xst, rfl, hLs, es, fs⟩ := st2
          refine ⟨_, rfl, .inl ⟨rfl, _, .of e2⟩, _, rfl, b, _, _, _, rfl, rfl, SqT.ext s2 hs2, atI_nat (j := 1) rfl, as, rfl, ⟨_, .of es⟩, fun D2 nD2 => ?_⟩
          refine lc_txt (K := K) (a := as) fs (by omega) (.of es) nD2 (fun v t H3 r s3 Qc Nc qc => ⟨rfl, ?_⟩) (fun Hn sn eD2 => ?_)
          · exact ⟨_, rfl, v, L, t, rfl, r.ch (Ch.of (L := L) s3) (fun v t y => y.ch (Ch.of (L := L) s3) fun v t x => RQ.ch (Ch.of s3) n v t x), by omega, qc⟩
          · have eDn := sn _ _ e2
            refine ⟨D, D2, _, _, rfl, rfl, eDn, eD2, by rw [List.length_append, List.length_map, List.length_map]; show _ + 1 + _ ≤ _; omega, ?_⟩
            refine ⟨same_at (s2.trans sn) nD, ?_, ?_, _, _, _, _, rfl⟩
            · rw [upd_same, flat_take css i _ hc, List.map_append, List.map_cons, List.append_assoc]
              rfl
            · rw [flat_take css i _ hc, List.length_append, List.length_cons]
              omega
    · obtain ⟨sn, eD, _, y3, y4, y5, y6, rfl⟩ := hp
      rw [hfl, List.take_length] at eD
      rw [tx_map] at eD
      refine ⟨_, rfl, ⟨_, rfl⟩, _, rfl, _, D, _, rfl, rfl, .inl (.of eD), ?_, ?_⟩
      · rw [lens_S, List.length_map, S_len']
        exact hz
      · rw [jl_S]
        exact q Hn sn
theorem cl_lpq {fq fo fs : Addr} {dq d_o ds : FuncData} (FQ : Fun K "_law_print_query" "_law_print_query" s__law_print_query fq dq) (FO : Fun K "_law_print_operand" "_law_print_operand" s__law_print_operand fo d_o) (FS : Fun K "_law_print_stage" "_law_print_stage" s__law_print_stage fs ds) (M : Mg mg)
    (gq : mg "_law_print_query" = some (.ref fq)) (bq : Binds K dq ["query", "gap"] []) (go : mg "_law_print_operand" = some (.ref fo)) (bo : Binds K d_o ["operand"] []) (gs : mg "_law_print_stage" = some (.ref fs)) (bs : Binds K ds ["stage"] [])
    (LO : Cl P w K mg base 9 "_law_print_output" (sp_lpo K)) (LT : Cl P w K mg base 9 "_law_print_total" (sp_lpt K)) (LP : Cl P w K mg base 8 "_law_print" (sp_lpr K 3)) : ∀ n, Cl P w K mg base (3 * n + 9) "_law_print_query" (sp_lpq K n)
  | 0 => FnOk.cl (P := P) (w := w) (base := base) (FQ.ok sc__law_print_query (fun vs H Q E h => by obtain ⟨p, L, ls, g, rfl, _⟩ := h; rfl) (fun cdv A outer s H vs Q E hr h => by obtain ⟨p, L, ls, g, rfl, _, h, _⟩ := h; exact h.elim)) FQ gq bq
  | n + 1 => by
    have Q0 := cl_lpq FQ FO FS M gq bq go bo gs bs LO LT LP n
    have O := FnOk.cl (ok_lpp n FO M Q0) FO go bo
    have S := FnOk.cl (ok_lps (by omega) n FS M O LO LT LP) FS gs bs
    exact FnOk.cl (ok_lpq (j := 3 * n + 9) n FQ M O S) FQ gq bq
end

/-! ### items on the heap -/
def RCol (K : PySem.W.Frag) (H : Hp) (v : V) (t : List Nat) : Prop := ∃ a l k, v = .ref a ∧ SqT K H a [tx l, tx k] ∧ l.length ≤ 21 ∧ k.length ≤ 5 ∧ t = l ++ 32 :: k
def stT (l : List Nat) (ls : List (List Nat)) : List Nat := codes "step " ++ (l ++ (codes " =" ++ ((ls.map fun x => 10 :: 32 :: 32 :: x).flatten ++ codes ";")))
def taT (l : List Nat) (ts : List (List Nat)) : List Nat := codes "table " ++ (l ++ (codes " (" ++ (jl [44, 32] ts ++ codes ");")))
def RIt (L : Addr → Prop) (K : PySem.W.Frag) (H : Hp) (v : V) (t : List Nat) : Prop := ∃ a l, v = .ref a ∧ l.length ≤ 21 ∧
  ((∃ cs ts, SqT K H a [.str "table", tx l, cs] ∧ Rl L (RCol K H) H cs ts ∧ ts.length ≤ 3 ∧ t = taT l ts) ∨
    ∃ q ls, SqT K H a [.str "step", tx l, q] ∧ RQ L K H 3 q ls ∧ ls ≠ [] ∧ t = stT l ls)
section
variable {L : Addr → Prop} {K : PySem.W.Frag} {H H' : Hp}
theorem RCol.ch (c : Ch L H H') {v : V} {t : List Nat} (h : RCol K H v t) : RCol K H' v t := by
  obtain ⟨a, l, k, h1, h2, r⟩ := h
  exact ⟨a, l, k, h1, c.tup h2, r⟩
theorem RIt.ch (c : Ch L H H') {v : V} {t : List Nat} (h : RIt L K H v t) : RIt L K H' v t := by
  obtain ⟨a, l, h1, hl, ⟨cs, ts, h2, h3, r⟩ | ⟨q, ls, h2, h3, r⟩⟩ := h
  · exact ⟨a, l, h1, hl, .inl ⟨cs, ts, c.tup h2, h3.ch c fun _ _ z => z.ch c, r⟩⟩
  · exact ⟨a, l, h1, hl, .inr ⟨q, ls, c.tup h2, RQ.ch c _ _ _ h3, r⟩⟩
theorem RIt.wide {L' : Addr → Prop} (w : ∀ a, L a → L' a) {v : V} {t : List Nat} (h : RIt L K H v t) : RIt L' K H v t := by
  obtain ⟨a, l, h1, hl, ⟨cs, ts, h2, h3, r⟩ | ⟨q, ls, h2, h3, r⟩⟩ := h
  · exact ⟨a, l, h1, hl, .inl ⟨cs, ts, h2, h3.wide w fun _ _ z => z, r⟩⟩
  · exact ⟨a, l, h1, hl, .inr ⟨q, ls, h2, RQ.wide w _ _ _ h3, r⟩⟩
theorem RCol.len {v : V} {t : List Nat} (h : RCol K H v t) : t.length ≤ 30 := by
  obtain ⟨a, l, k, _, _, hl, hk, rfl⟩ := h
  rw [List.length_append, List.length_cons]
  omega
theorem RC.few {Rp Rs : V → List Nat → Prop} {v : V} {ls : List (List Nat)} (h : RC Rp Rs L K H v ls) : ls.length ≤ 4 := by
  obtain ⟨_, _, _, _, _, _, _, _, _, _, _, _, _, _, k, rfl⟩ := h
  rw [List.length_cons]
  omega
theorem flat_few : ∀ css : List (List (List Nat)), (∀ c ∈ css, c.length ≤ 4) → css.flatten.length ≤ css.length * 4
  | [], _ => Nat.zero_le _
  | c :: css, h => by
    have h1 := h c (List.mem_cons_self ..)
    have := flat_few css fun x hx => h x (List.mem_cons_of_mem _ hx)
    rw [List.flatten_cons, List.length_append, List.length_cons, Nat.add_mul]
    omega
theorem RQ.few {n : Nat} {v : V} {ls : List (List Nat)} (h : RQ L K H n v ls) : ls.length ≤ 8 := by
  cases n with
  | zero => exact h.elim
  | succ n =>
    obtain ⟨css, ⟨a, xs, _, _, _, hf⟩, k, rfl⟩ := h
    have := flat_few css (hf.all fun _ _ z => RC.few z)
    omega
theorem pre_len : ∀ ls : List (List Nat), ((ls.map fun x => 10 :: 32 :: 32 :: x).flatten).length = suml ls + 3 * ls.length
  | [] => rfl
  | l :: ls => by
    have := pre_len ls
    rw [List.map_cons, List.flatten_cons, List.length_append, this]
    show l.length + 3 + (suml ls + 3 * ls.length) = l.length + suml ls + 3 * (ls.length + 1)
    omega
theorem pre_jl : ∀ ls : List (List Nat), ls ≠ [] → (ls.map fun x => 10 :: 32 :: 32 :: x).flatten = [10, 32, 32] ++ jl [10, 32, 32] ls
  | [], h => absurd rfl h
  | [p], _ => by
    show (10 :: 32 :: 32 :: p) ++ [] = [10, 32, 32] ++ p
    rw [List.append_nil]
    rfl
  | p :: q :: r, _ => by
    have := pre_jl (q :: r) (fun z => nomatch z)
    rw [List.map_cons, List.flatten_cons, this]
    rfl
theorem jl_pre : ∀ (ls : List (List Nat)) (hd : List Nat), jl [10] (hd :: ls.map fun x => 32 :: 32 :: x) = hd ++ (ls.map fun x => 10 :: 32 :: 32 :: x).flatten
  | [], hd => by
    show hd = hd ++ []
    rw [List.append_nil]
  | x :: ls, hd => by
    have := jl_pre ls (32 :: 32 :: x)
    show hd ++ ([10] ++ jl [10] ((32 :: 32 :: x) :: ls.map fun x => 32 :: 32 :: x)) = _
    rw [this]
    rfl
theorem taT_len {l : List Nat} {ts : List (List Nat)} (hl : l.length ≤ 21) (h : suml ts ≤ 3 * 30) (k : ts.length ≤ 3) : (taT l ts).length ≤ 150 := by
  have j1 := jl_len [44, 32] ts
  have e2 : ([44, 32] : List Nat).length = 2 := rfl
  rw [e2] at j1
  unfold taT
  rw [List.length_append, List.length_append, List.length_append, List.length_append, show (codes "table ").length = 6 by decide, show (codes " (").length = 2 by decide, show (codes ");").length = 2 by decide]
  omega
theorem stT_len {l : List Nat} {ls : List (List Nat)} (hl : l.length ≤ 21) (h : suml ls + ls.length ≤ 4990000) (k : ls.length ≤ 8) : (stT l ls).length ≤ 4990050 := by
  unfold stT
  rw [List.length_append, List.length_append, List.length_append, List.length_append, show (codes "step ").length = 5 by decide, show (codes " =").length = 2 by decide, show (codes ";").length = 1 by decide, pre_len]
  omega
theorem RIt.len {v : V} {t : List Nat} (h : RIt L K H v t) : t.length ≤ 4990050 := by
  obtain ⟨a, l, _, hl, ⟨cs, ts, _, h3, k, rfl⟩ | ⟨q, ls, _, h3, _, rfl⟩⟩ := h
  · have := taT_len hl (h3.le (fun _ _ z => z.len) k) k
    omega
  · have := RQ.len 3 _ _ h3
    have := bl3 (Nat.le_refl 3)
    exact stT_len hl (by omega) (RQ.few h3)
end
/-! ### the program's printing of items -/
def sp_it (K : PySem.W.Frag) : Sp := fun vs H Q _ => ∃ (p : V) (L : Addr → Prop) (t : List Nat), vs = [p] ∧ RIt L K H p t ∧ ∀ H', Same H H' → Q (tx (t ++ [10])) H'
def sp_src (K : PySem.W.Frag) : Sp := fun vs H Q _ => ∃ (p : V) (L : Addr → Prop) (ts : List (List Nat)), vs = [p] ∧ Rl L (RIt L K H) H p ts ∧ ts.length ≤ 3 ∧ ∀ H', Same H H' → Q (tx ((ts.map fun t => t ++ [10]).flatten)) H'
theorem F2.map_tx {f : List Nat → List Nat} : ∀ ls : List (List Nat), F2 (fun v t => ∃ x ∈ ls, v = tx x ∧ t = f x) (ls.map tx) (ls.map f)
  | [] => .nil
  | x :: ls => .cons ⟨x, List.mem_cons_self .., rfl, rfl⟩ ((F2.map_tx ls).imp fun _ _ ⟨y, hy, r⟩ => ⟨y, List.mem_cons_of_mem _ hy, r⟩)
theorem F2.mapR {β γ : Type} {R : V → β → Prop} {f : β → γ} {vs : List V} {ts : List β} (h : F2 R vs ts) : F2 (fun v u => ∃ t, R v t ∧ u = f t) vs (ts.map f) := by
  induction h with
  | nil => exact .nil
  | cons h _ ih => exact .cons ⟨_, h, rfl⟩ ih
theorem mem_suml {x : List Nat} : ∀ {ls : List (List Nat)}, x ∈ ls → x.length ≤ suml ls
  | y :: ls, h => by
    show _ ≤ y.length + suml ls
    rcases List.mem_cons.mp h with rfl | h
    · omega
    · have := mem_suml h
      omega
theorem suml_map {f : List Nat → List Nat} {k : Nat} (hf : ∀ x, (f x).length = x.length + k) : ∀ ls : List (List Nat), suml (ls.map f) = suml ls + ls.length * k
  | [] => by
    show 0 = 0 + 0 * k
    omega
  | x :: ls => by
    have := suml_map hf ls
    show (f x).length + suml (ls.map f) = x.length + suml ls + (ls.length + 1) * k
    rw [hf, this, Nat.add_mul]
    omega
section
variable {P : Program} {w : World} {K : PySem.W.Frag} {mg : Str → Option Value} {base : Heap}
theorem ok_it {f : Addr} {fd : FuncData} (F : Fun K "item_text" "item_text" s_item_text f fd) (M : Mg mg) (c_query_lines : Cl P w K mg base 25 "query_lines" (sp_ql K 3)) : FnOk P w K mg base CX0 26 f fd ["item"] (sp_it K) := by
  refine F.ok sc_item_text (fun vs H Q E h => ?_) (fun cdv A outer s H vs Q E hr h => ?_)
  · obtain ⟨p, L, t, rfl, _⟩ := h
    rfl
  · obtain ⟨p, L, t, rfl, ⟨a, l, rfl, hl, h⟩, q⟩ := h
    refine ⟨_, (pss_cons (ps_asg (pv 0) (pg_tup (by rfl) (pgs_cons (pg_name (i := 1) sc_item_text.nd rfl (.inl rfl)) (pgs_cons (pg_name (i := 2) sc_item_text.nd rfl (.inl rfl)) (pgs_cons (pg_name (i := 3) sc_item_text.nd rfl (.inl rfl)) pgs_nil)))))
      (pss_cons (ps_if (pt_cmpR op_eq (pv 1) pe_str (nomark _)) (pss_cons (ps_set (i := 4) sc_item_text.nd rfl (.inl rfl) (pe_join pe_str (pe_lc (own := [("column", 7), ("kind", 8)]) (g := gTup K 2 (gCons (gName 7) (gCons (gName 8) (gNil)))) (tt := tYes) rfl sc_item_text.nd (pi_list (pv 3)) (blkOk_by (N := N_item_text) (sc := defScope s_item_text) (by decide +kernel)) (fun _ _ _ _ _ => (pg_tup (by rfl) (pgs_cons (pg_name (i := 7) sc_item_text.nd rfl (.inl rfl)) (pgs_cons (pg_name (i := 8) sc_item_text.nd rfl (.inl rfl)) pgs_nil)))) (fun _ _ _ _ _ => pts_nil) (fun _ _ _ _ _ => (pe_joined (.cons (pe_fmt (pv 7)) (.cons pe_str (.cons (pe_fmt (pv 8)) .nil))))))))
      (pss_one (ps_ret (pe_joined (.cons pe_str (.cons (pe_fmt (pv 2)) (.cons pe_str (.cons (pe_fmt (pv 4)) (.cons pe_str .nil))))))))) pss_nil)
      (pss_cons (ps_set (i := 5) sc_item_text.nd rfl (.inl rfl) (pe_op op_cat (pe_lst (pa_cons (pe_joined (.cons pe_str (.cons (pe_fmt (pv 2)) (.cons pe_str .nil)))) pa_nil)) (pe_lc (own := [("line", 6)]) (g := gName 6) (tt := tYes) rfl sc_item_text.nd (pi_list (pe_u c_query_lines hr (by first | decide | omega) (by rfl) (pa_cons (pv 3) pa_nil))) (blkOk_by (N := N_item_text) (sc := defScope s_item_text) (by decide +kernel)) (fun _ _ _ _ _ => (pg_name (i := 6) sc_item_text.nd rfl (.inl rfl))) (fun _ _ _ _ _ => pts_nil) (fun _ _ _ _ _ => (pe_joined (.cons pe_str (.cons (pe_fmt (pv 6)) .nil)))))))
      (pss_one (ps_ret (pe_op op_add_str (pe_join pe_str (pv 5)) pe_str)))))), ?_⟩
    rcases h with ⟨cs, ts, hs, hc, k, rfl⟩ | ⟨qv, ls, hs, rq, ne, rfl⟩
    · have lc := hc.le (fun _ _ z => RCol.len z) k
      have tl := taT_len hl lc k
      have j1 := jl_len [44, 32] ts
      have e2 : ([44, 32] : List Nat).length = 2 := rfl
      rw [e2] at j1
      obtain ⟨ac, xc, rfl, Lc, ec, fc⟩ := hc
      refine ⟨_, rfl, a, _, rfl, hs, rfl, _, _, rfl, _, _, rfl, _, _, rfl, rfl, ?_⟩
      refine ⟨_, rfl, rfl, _, rfl, iteT ?_⟩
      refine ⟨⟨_, rfl⟩, _, rfl, ac, rfl, ⟨_, .of ec⟩, fun D nD => ?_⟩
      refine lc_txt (K := K) (a := ac) (te := fun σ H Q => tJs [tFmt (tVar 7), tC (V.str (Str.ofString " ")), tFmt (tVar 8)] Str.empty σ H fun out H1 => Q (V.str out) H1) fc (by omega) (.of ec) nD (fun v t Hi r si Qc Nc qc => ?_) (fun Hn sn eD => ?_)
      · obtain ⟨b, l', k', rfl, hs', hl', hk', rfl⟩ := r
        refine ⟨b, _, rfl, SqT.ext si hs', rfl, _, _, rfl, _, _, rfl, rfl, rfl, ?_⟩
        refine ⟨_, rfl, js_f (L := []) (by rw [List.nil_append]; omega) ?_⟩
        refine js_c (L := [] ++ l') [32] rfl (by rw [List.length_append, List.nil_append]; show _ + 1 ≤ _; omega) ?_
        refine ⟨_, rfl, js_f (L := [] ++ l' ++ [32]) (by simp only [List.length_append, List.nil_append, List.length_singleton]; omega) ?_⟩
        have := qc Hi (Same.refl Hi)
        rw [show l' ++ 32 :: k' = [] ++ l' ++ [32] ++ k' by simp] at this
        exact this
      · rw [tx_map] at eD
        refine ⟨_, D, _, rfl, rfl, .inl (.of eD), ?_, ?_⟩
        · rw [lens_S, List.length_map]
          show _ + ts.length * 2 ≤ 16777216
          omega
        · rw [show Txt.join (Str.ofString ", ") (ts.map fun l => (⟨l.toArray⟩ : Str)) = ⟨(jl [44, 32] ts).toArray⟩ from jl_S [44, 32] ts]
          refine js_c (L := []) (codes "table ") (codes_S _) (by decide) ?_
          refine ⟨_, rfl, js_f (L := [] ++ codes "table ") (by rw [List.nil_append, List.length_append, show (codes "table ").length = 6 by decide]; omega) ?_⟩
          refine js_c (L := [] ++ codes "table " ++ l) (codes " (") (codes_S _) (by simp only [List.nil_append, List.length_append, show (codes "table ").length = 6 by decide, show (codes " (").length = 2 by decide]; omega) ?_
          refine ⟨_, rfl, js_f (L := [] ++ codes "table " ++ l ++ codes " (") (by simp only [List.nil_append, List.length_append, show (codes "table ").length = 6 by decide, show (codes " (").length = 2 by decide]; omega) ?_⟩
          refine js_c (L := [] ++ codes "table " ++ l ++ codes " (" ++ jl [44, 32] ts) (codes ");\n") (codes_S _) (by simp only [List.nil_append, List.length_append, show (codes "table ").length = 6 by decide, show (codes " (").length = 2 by decide, show (codes ");\n").length = 3 by decide]; omega) ?_
          have fin := q Hn sn
          rw [show taT l ts ++ [10] = [] ++ codes "table " ++ l ++ codes " (" ++ jl [44, 32] ts ++ codes ");\n" by unfold taT; rw [show codes ");\n" = codes ");" ++ [10] by decide]; simp] at fin
          exact fin
    · have ql := RQ.len 3 _ _ rq
      have qb := bl3 (Nat.le_refl 3)
      have qf := RQ.few rq
      have sl := stT_len hl (show suml ls + ls.length ≤ 4990000 by omega) qf
      refine ⟨_, rfl, a, _, rfl, hs, rfl, _, _, rfl, _, _, rfl, _, _, rfl, rfl, ?_⟩
      refine ⟨_, rfl, rfl, _, rfl, iteF ?_⟩
      refine js_c (L := []) (codes "step ") (codes_S _) (by decide) ?_
      refine ⟨_, rfl, js_f (L := [] ++ codes "step ") (by rw [List.nil_append, List.length_append, show (codes "step ").length = 5 by decide]; omega) ?_⟩
      refine js_c (L := [] ++ codes "step " ++ l) (codes " =") (codes_S _) (by simp only [List.nil_append, List.length_append, show (codes "step ").length = 5 by decide, show (codes " =").length = 2 by decide]; omega) ?_
      refine ⟨by show 1 ≤ sizeLine; decide, fun D0 n0 => ?_⟩
      have s0 := same_upd n0 (o := .lst [tx ([] ++ codes "step " ++ l ++ codes " =")])
      refine ⟨_, rfl, qv, L, ls, rfl, RQ.ch (Ch.of s0) _ _ _ rq, by omega, fun H1 D1 s1 nD1 eD1 => ?_⟩
      have e0 := s1 _ _ (show (upd H D0 (.lst [tx ([] ++ codes "step " ++ l ++ codes " =")])) D0 = some (.lst [tx ([] ++ codes "step " ++ l ++ codes " =")]) from upd_same)
      have s01 := s0.trans s1
      refine ⟨D1, rfl, ⟨_, .of eD1⟩, fun D nD => ?_⟩
      refine lc_txt (K := K) (a := D1) (te := fun σ H Q => tJs [tC (V.str (Str.ofString "  ")), tFmt (tVar 6)] Str.empty σ H fun out H1 => Q (V.str out) H1) (F2.map_tx (f := fun x => 32 :: 32 :: x) ls) (by rw [List.length_map]; omega) (.of eD1) nD (fun v t Hi r si Qc Nc qc => ⟨rfl, ?_⟩) (fun Hn sn eD => ?_)
      · obtain ⟨x, hx, rfl, rfl⟩ := r
        have := mem_suml hx
        refine js_c (L := []) [32, 32] rfl (by decide) ?_
        refine ⟨_, rfl, js_f (L := [] ++ [32, 32]) (by rw [List.nil_append, List.length_append]; show 2 + _ ≤ _; omega) ?_⟩
        exact qc Hi (Same.refl Hi)
      · refine ⟨D0, D, _, _, rfl, rfl, sn _ _ e0, eD, ?_, fun p np => ?_⟩
        · rw [List.length_map, List.length_map]
          show 1 + _ ≤ _
          exact Nat.le_trans (m := 10) (by omega) (by decide)
        have ep : (upd Hn p (.lst ([tx ([] ++ codes "step " ++ l ++ codes " =")] ++ (ls.map fun x => 32 :: 32 :: x).map tx))) p = some (.lst ((([] ++ codes "step " ++ l ++ codes " =") :: (ls.map fun x => 32 :: 32 :: x)).map tx)) := upd_same
        have ep' := ep.trans (by rw [tx_map])
        have hsum : suml (([] ++ codes "step " ++ l ++ codes " =") :: (ls.map fun x => 32 :: 32 :: x)) = l.length + 7 + (suml ls + ls.length * 2) := by
          show ([] ++ codes "step " ++ l ++ codes " =").length + suml (ls.map fun x => 32 :: 32 :: x) = _
          rw [suml_map (k := 2) fun _ => rfl]
          simp only [List.nil_append, List.length_append, show (codes "step ").length = 5 by decide, show (codes " =").length = 2 by decide]
          omega
        have hj := jl_pre ls ([] ++ codes "step " ++ l ++ codes " =")
        have hjl : (jl [10] (([] ++ codes "step " ++ l ++ codes " =") :: (ls.map fun x => 32 :: 32 :: x))).length ≤ 4990050 := by
          rw [hj, List.length_append, pre_len]
          simp only [List.nil_append, List.length_append, show (codes "step ").length = 5 by decide, show (codes " =").length = 2 by decide]
          omega
        refine ⟨⟨_, rfl⟩, _, rfl, _, p, _, rfl, rfl, .inl (.of ep'), ?_, ?_⟩
        · rw [lens_S, List.length_map, hsum, List.length_cons, List.length_map]
          show _ + (ls.length + 1) * 1 ≤ 16777216
          omega
        · rw [show Txt.join (Str.ofString "\n") ((([] ++ codes "step " ++ l ++ codes " =") :: (ls.map fun x => 32 :: 32 :: x)).map fun l => (⟨l.toArray⟩ : Str)) = ⟨(jl [10] (([] ++ codes "step " ++ l ++ codes " =") :: (ls.map fun x => 32 :: 32 :: x))).toArray⟩ from jl_S [10] _]
          refine ⟨_, _, rfl, rfl, add_len (L := jl [10] (([] ++ codes "step " ++ l ++ codes " =") :: (ls.map fun x => 32 :: 32 :: x))) (l := codes ";\n") (by rw [show (codes ";\n").length = 2 by decide]; omega), ?_⟩
          rw [codes_S ";\n", add_eq, hj]
          have fin := q _ ((s01.trans sn).trans (same_upd np (o := .lst ([tx ([] ++ codes "step " ++ l ++ codes " =")] ++ (ls.map fun x => 32 :: 32 :: x).map tx))))
          rw [show stT l ls ++ [10] = [] ++ codes "step " ++ l ++ codes " =" ++ (ls.map fun x => 10 :: 32 :: 32 :: x).flatten ++ codes ";\n" by unfold stT; rw [show codes ";\n" = codes ";" ++ [10] by decide]; simp] at fin
          exact fin
theorem ok_src {f : Addr} {fd : FuncData} (F : Fun K "print_source" "print_source" s_print_source f fd) (M : Mg mg) (c_item_text : Cl P w K mg base 26 "item_text" (sp_it K)) : FnOk P w K mg base CX0 27 f fd ["items"] (sp_src K) := by
  refine F.ok sc_print_source (fun vs H Q E h => ?_) (fun cdv A outer s H vs Q E hr h => ?_)
  · obtain ⟨p, L, ts, rfl, _⟩ := h
    rfl
  · obtain ⟨p, L, ts, rfl, ⟨a, xs, rfl, hL, hs, hf⟩, k, q⟩ := h
    refine ⟨_, (pss_one (ps_ret (pe_join pe_str (pe_lc (own := [("item", 1)]) (g := gName 1) (tt := tYes) rfl sc_print_source.nd (pi_list (pv 0)) (blkOk_by (N := N_print_source) (sc := defScope s_print_source) (by decide +kernel)) (fun _ _ _ _ _ => (pg_name (i := 1) sc_print_source.nd rfl (.inl rfl))) (fun _ _ _ _ _ => pts_nil) (fun _ _ _ _ _ => (pe_u c_item_text hr (by first | decide | omega) (by rfl) (pa_cons (pv 1) pa_nil))))))), ?_⟩
    refine ⟨⟨_, rfl⟩, _, rfl, a, rfl, ⟨_, .of hs⟩, fun D nD => ?_⟩
    refine lc_txt (K := K) (a := a) (hf.mapR (f := fun t => t ++ [10])) (by rw [List.length_map]; omega) (.of hs) nD (fun v t Hi r si Qc Nc qc => ⟨rfl, ?_⟩) (fun Hn sn eD => ?_)
    · obtain ⟨t, r, rfl⟩ := r
      exact ⟨_, rfl, v, L, t, rfl, r.ch (Ch.of (L := L) si), qc⟩
    · rw [tx_map] at eD
      have hsum := suml_le (b := 4990051) (ls := ts.map fun t => t ++ [10]) (fun x hx => by
        obtain ⟨t, ht, rfl⟩ := List.mem_map.mp hx
        have := hf.all (p := fun t => t.length ≤ 4990050) (fun _ _ z => RIt.len z) t ht
        rw [List.length_append]
        show _ + 1 ≤ _
        omega)
      rw [List.length_map] at hsum
      have : ts.length * 4990051 ≤ 3 * 4990051 := Nat.mul_le_mul_right _ k
      refine ⟨_, D, _, rfl, rfl, .inl (.of eD), ?_, ?_⟩
      · rw [lens_S, List.length_map, List.length_map]
        show _ + ts.length * 0 ≤ 16777216
        omega
      · rw [show Txt.join (Str.ofString "") ((ts.map fun t => t ++ [10]).map fun l => (⟨l.toArray⟩ : Str)) = ⟨(jl [] (ts.map fun t => t ++ [10])).toArray⟩ from jl_S [] _]
        have fin := q Hn sn
        rw [show (ts.map fun t => t ++ [10]).flatten = jl [] (ts.map fun t => t ++ [10]) from (joinL0 _).symm] at fin
        exact fin
/-- the lines of queries that stand three deep at most -/
theorem cl_ql3 {fq fo fj fs fl : Addr} {dq d_o dj ds dl : FuncData} (FQ : Fun K "print_query" "print_query" s_print_query fq dq) (FO : Fun K "operand_text" "operand_text" s_operand_text fo d_o) (FJ : Fun K "join_text" "join_text" s_join_text fj dj) (FS : Fun K "stage_text" "stage_text" s_stage_text fs ds) (FL : Fun K "query_lines" "query_lines" s_query_lines fl dl) (M : Mg mg)
    (gq : mg "print_query" = some (.ref fq)) (bq : Binds K dq ["query"] []) (go : mg "operand_text" = some (.ref fo)) (bo : Binds K d_o ["operand"] []) (gj : mg "join_text" = some (.ref fj)) (bj : Binds K dj ["stage"] []) (gs : mg "stage_text" = some (.ref fs)) (bs : Binds K ds ["stage"] []) (gl : mg "query_lines" = some (.ref fl)) (bl : Binds K dl ["query"] [])
    (c_group_text : Cl P w K mg base 11 "group_text" (sp_group K)) (c_outputs_text : Cl P w K mg base 10 "outputs_text" (sp_outs K)) (c_print_expression : Cl P w K mg base 8 "print_expression" (sp_pr K 3)) : Cl P w K mg base 25 "query_lines" (sp_ql K 3) := by
  have Q0 := cl_pq FQ FO FJ FS FL M gq bq go bo gj bj gs bs gl bl c_group_text c_outputs_text c_print_expression 2
  have O := FnOk.cl (ok_op 2 FO M Q0) FO go bo
  have J := FnOk.cl (ok_jt (by omega) 2 FJ M O c_print_expression) FJ gj bj
  have S := FnOk.cl (ok_st (by omega) 2 FS M J c_group_text c_outputs_text c_print_expression) FS gs bs
  exact FnOk.cl (ok_ql (j := 22) 2 FL M O S) FL gl bl
end

/-! ### the law's items -/
def sp_lits (K : PySem.W.Frag) : Sp := fun vs H Q _ => ∃ (d c : Addr) (i m : Nat), vs = [.ref d, .int (i : Nat), .int (m : Nat)] ∧ i ≤ 2 ∧ m ≤ 2 ∧ Dr H d c ∧ ∀ H' p ts, Fd d H H' → Dr H' d c → Rl (fun a => H a = none) (RIt (fun a => H a = none) K H') H' p ts → ts.length ≤ 3 → Q p H'
def sp_lpi (K : PySem.W.Frag) : Sp := fun vs H Q _ => ∃ (p : V) (L : Addr → Prop) (t : List Nat), vs = [p] ∧ RIt L K H p t ∧ ∀ H', Same H H' → Q (tx t) H'
section
variable {P : Program} {w : World} {K : PySem.W.Frag} {mg : Str → Option Value} {base : Heap}
theorem ok_lits {f : Addr} {fd : FuncData} (F : Fun K "_law_items" "_law_items" s__law_items f fd) (M : Mg mg) (c__law_next : Cl P w K mg base 1 "_law_next" sp_next) (c__law_name : Cl P w K mg base 2 "_law_name" sp_name) (c__law_query : Cl P w K mg base 16 "_law_query" (sp_lq K 3)) : FnOk P w K mg base CX0 17 f fd ["draw", "inside", "depth"] (sp_lits K) := by
  refine F.ok sc__law_items (fun vs H Q E h => ?_) (fun cdv A outer s H vs Q E hr h => ?_)
  · obtain ⟨d, c, i, m, rfl, _⟩ := h
    rfl
  · obtain ⟨d, c, ins, m, rfl, hin, hm, dr, q⟩ := h
    refine ⟨_, (pss_cons (ps_set (i := 3) sc__law_items.nd rfl (.inl rfl) (pe_lst pa_nil))
      (pss_cons (ps_for PassesOwn.never rfl (pi_range1 (by rfl) M.range (pa_cons (pe_op op_add pe_int (pe_u c__law_next hr (by first | decide | omega) (by rfl) (pa_cons (pv 0) (pa_cons pe_int pa_nil)))) pa_nil)) (pg_name (i := 4) sc__law_items.nd rfl (.inl rfl)) (pss_cons (ps_set (i := 5) sc__law_items.nd rfl (.inl rfl) (pe_u c__law_name hr (by first | decide | omega) (by rfl) (pa_cons (pv 0) pa_nil)))
      (pss_one (ps_if (pt_cmpR op_eq (pe_u c__law_next hr (by first | decide | omega) (by rfl) (pa_cons (pv 0) (pa_cons pe_int pa_nil))) pe_int (nomark _)) (pss_cons (ps_set (i := 6) sc__law_items.nd rfl (.inl rfl) (pe_lst pa_nil))
      (pss_cons (ps_for PassesOwn.never rfl (pi_range1 (by rfl) M.range (pa_cons (pe_op op_add pe_int (pe_u c__law_next hr (by first | decide | omega) (by rfl) (pa_cons (pv 0) (pa_cons pe_int pa_nil)))) pa_nil)) (pg_name (i := 7) sc__law_items.nd rfl (.inl rfl)) (pss_one (ps_expr (pe_bmK K PySem.F.plainAttrs_list PySem.F.slot_list_append PySem.F.type_list_append mt_append (pv 6) (pa_cons (pe_tup (pa_cons (pe_u c__law_name hr (by first | decide | omega) (by rfl) (pa_cons (pv 0) pa_nil)) (pa_cons (pe_ix (ix_listK K) (pe_lst (pa_cons pe_str (pa_cons pe_str (pa_cons pe_str pa_nil)))) (pe_u c__law_next hr (by first | decide | omega) (by rfl) (pa_cons (pv 0) (pa_cons pe_int pa_nil))) (fun _ _ => rfl)) pa_nil))) pa_nil)))))
      (pss_one (ps_expr (pe_bmK K PySem.F.plainAttrs_list PySem.F.slot_list_append PySem.F.type_list_append mt_append (pv 3) (pa_cons (pe_tup (pa_cons pe_str (pa_cons (pv 5) (pa_cons (pv 6) pa_nil)))) pa_nil)))))) (pss_one (ps_expr (pe_bmK K PySem.F.plainAttrs_list PySem.F.slot_list_append PySem.F.type_list_append mt_append (pv 3) (pa_cons (pe_tup (pa_cons pe_str (pa_cons (pv 5) (pa_cons (pe_u c__law_query hr (by first | decide | omega) (by rfl) (pa_cons (pv 0) (pa_cons (pv 1) (pa_cons (pv 2) pa_nil)))) pa_nil)))) pa_nil))))))))
      (pss_one (ps_ret (pv 3))))), ?_⟩
    refine ⟨Nat.zero_le _, fun U nU => ?_⟩
    have nUd := dr.nd nU
    have nUc := dr.nc nU
    have f1 : Fd d H (upd H U (.lst [])) := Fd.new nU
    have drU := dr.ext (same_upd nU (o := .lst []))
    have eU0 : (upd H U (.lst [])) U = some (.lst []) := upd_same
    generalize hHU : upd H U (.lst []) = HU at f1 drU eU0
    have LU : ¬ (HU U = none) := by rw [eU0]; exact fun z => nomatch z
    have Ld : ¬ (HU d = none) := dr_some drU
    have backU : ∀ Hx zs, Fd d H Hx → Dr Hx d c → Hx U = some (.lst zs) → ∀ a, Hx a = none → HU a = none := fun Hx zs fx dx ex a z => by
      have na : a ≠ U := fun y => by
        rw [y, ex] at z
        cases z
      rw [← hHU, upd_ne na]
      exact none_back dx fx a z
    have lt1000 : (1000 : Nat) < sizeLine := by decide
    refine ⟨_, rfl, d, c, 3, rfl, drU, by decide, by decide, fun H2 r f2 _ dr2 r0 r1 => ⟨_, _, rfl, rfl, _, rfl, by omega, by omega, ?_⟩⟩
    refine for_range (lo := 0) (n := (1 + r).toNat) (fun i σ Hi => Fd d H Hi ∧ Dr Hi d c ∧ ∃ xs ts y4 y5 y6 y7, σ = [some (.ref d), some (.int (ins : Nat)), some (.int (m : Nat)), some (.ref U), y4, y5, y6, y7] ∧ Hi U = some (.lst xs) ∧ F2 (RIt (fun a => HU a = none) K Hi) xs ts ∧ ts.length = i) ⟨f1.trans f2, dr2, [], [], _, _, _, _, rfl, f2 _ _ nUd eU0, .nil, rfl⟩ (fun i σ Hi hi hp => ?_) (fun σ Hn hp => ?_)
    · obtain ⟨fi, di, xs, ts, y4, y5, y6, y7, rfl, eU, hf, hl⟩ := hp
      have hi3 : i < 3 := by omega
      have hlen : xs.length = i := by rw [hf.len, hl]
      refine ⟨_, rfl, d, c, rfl, di, fun H3 l f3 dr3 nl => ?_⟩
      have ll := name_len nl
      refine ⟨_, rfl, d, c, 2, rfl, dr3, by decide, by decide, fun H4 b f4 _ dr4 _ _ => ⟨rfl, _, rfl, ite2 (fun _ => ?_) (fun _ => ?_)⟩⟩
      · refine ⟨Nat.zero_le _, fun C nC => ?_⟩
        have f04 := (fi.trans f3).trans f4
        have fi4 := f3.trans f4
        have eU4 := fi4 _ _ nUd eU
        have nCd := dr4.nd nC
        have nCc := dr4.nc nC
        have nUC : U ≠ C := fun z => by
          rw [z, nC] at eU4
          cases eU4
        have hUC : HU C = none := backU H4 _ f04 dr4 eU4 C nC
        have f4C : Fd d H4 (upd H4 C (.lst [])) := Fd.new nC
        have drC := dr4.ext (same_upd nC (o := .lst []))
        have eC0 : (upd H4 C (.lst [])) C = some (.lst []) := upd_same
        generalize upd H4 C (.lst []) = HC at f4C drC eC0
        refine ⟨_, rfl, d, c, 3, rfl, drC, by decide, by decide, fun H5 r' f5 _ dr5 r0' r1' => ⟨_, _, rfl, rfl, _, rfl, by omega, by omega, ?_⟩⟩
        refine for_range (lo := 0) (n := (1 + r').toNat) (fun j σ Hj => Fd d H4 Hj ∧ Dr Hj d c ∧ ∃ cs us y7, σ = [some (.ref d), some (.int (ins : Nat)), some (.int (m : Nat)), some (.ref U), some (.int (0 + (i : Nat))), some (tx l), some (.ref C), y7] ∧ Hj C = some (.lst cs) ∧ F2 (RCol K Hj) cs us ∧ us.length = j) ⟨f4C.trans f5, dr5, [], [], _, rfl, f5 _ _ nCd eC0, .nil, rfl⟩ (fun j σ Hj hj hp => ?_) (fun σ Hn hp => ?_)
        · obtain ⟨fj, dj, cs, us, y7, rfl, eC, hc, hk⟩ := hp
          have hj3 : j < 3 := by omega
          have hclen : cs.length = j := by rw [hc.len, hk]
          refine ⟨_, rfl, .inl ⟨rfl, _, .of eC⟩, ?_⟩
          refine ⟨_, rfl, d, c, rfl, dj, fun H6 l' f6 dr6 nl' => ?_⟩
          have ll' := name_len nl'
          refine ⟨by show 3 ≤ sizeLine; decide, fun p0 n0 => ?_⟩
          have s7 := same_upd n0 (o := .lst [.str "int", .str "text", .str "truth"])
          have dr7 := dr6.ext s7
          refine ⟨_, rfl, d, c, 3, rfl, dr7, by decide, by decide, fun H8 k f8 _ dr8 k0 k1 => ?_⟩
          have e8 := f8 _ _ (dr6.nd n0) (show (upd H6 p0 (.lst [.str "int", .str "text", .str "truth"])) p0 = some (.lst [.str "int", .str "text", .str "truth"]) from upd_same)
          obtain ⟨w', hw, atw⟩ : ∃ w' : List Nat, w'.length ≤ 5 ∧ atI [V.str "int", V.str "text", V.str "truth"] k = some (tx w') := by
            have : k = 0 ∨ k = 1 ∨ k = 2 := by omega
            rcases this with rfl | rfl | rfl
            · exact ⟨codes "int", by decide, rfl⟩
            · exact ⟨codes "text", by decide, rfl⟩
            · exact ⟨codes "truth", by decide, rfl⟩
          refine ⟨p0, _, _, _, rfl, rfl, .of e8, atw, ?_⟩
          have f68 : Fd d Hj H8 := (f6.trans (Fd.of s7)).trans f8
          have eC8 := f68 _ _ nCd eC
          have hc8 := hc.imp fun v t (z : RCol K Hj v t) => z.ch (Ch.dr (L := fun _ => False) dj (fun z => z) f68)
          refine ⟨by show 2 ≤ sizeLine; decide, fun p np => ?_⟩
          refine ⟨C, _, _, rfl, rfl, (same_upd np) _ _ eC8, by rw [hclen]; omega, ?_⟩
          have c1 : Ch (fun _ => False) H8 (upd H8 p (.tup [tx l', tx w'])) := Ch.of (same_upd np)
          have c2 : Ch (fun _ => False) (upd H8 p (.tup [tx l', tx w'])) (upd (upd H8 p (.tup [tx l', tx w'])) C (.lst (cs ++ [.ref p]))) := Ch.at ((same_upd np) _ _ eC8) fun z => z
          exact ⟨fd_at ((fj.trans f68).trans (Fd.new np)) nC, (dr8.ext (same_upd np)).upd nCd nCc, _, _, _, rfl, upd_same, F2.snoc (hc8.imp fun v t z => (z.ch c1).ch c2) ⟨p, l', w', rfl, c2.tup (.inl (.inl upd_same)), ll', hw, rfl⟩, by rw [List.length_append, hk]; rfl⟩
        · obtain ⟨fn, drn, cs, us, y7, rfl, eC, hc, hk⟩ := hp
          have eUn := fn _ _ nUd eU4
          have eUn' : Hn U = some (.lst xs) := eUn
          refine ⟨_, rfl, .inl ⟨rfl, _, .of eUn'⟩, ?_⟩
          refine ⟨_, rfl, _, rfl, by show 3 ≤ sizeLine; decide, fun p np => ?_⟩
          have s1 := same_upd np (o := .tup [.str "table", tx l, .ref C])
          refine ⟨U, _, _, rfl, rfl, s1 _ _ eUn', by rw [hlen]; omega, ?_⟩
          have c0 : Ch (fun a => HU a = none) Hi Hn := Ch.dr di Ld (fi4.trans fn)
          have cS : Ch (fun a => HU a = none) Hn (upd Hn p (.tup [.str "table", tx l, .ref C])) := Ch.of s1
          have cU : Ch (fun a => HU a = none) (upd Hn p (.tup [.str "table", tx l, .ref C])) (upd (upd Hn p (.tup [.str "table", tx l, .ref C])) U (.lst (xs ++ [.ref p]))) := Ch.at (s1 _ _ eUn') LU
          refine ⟨fd_at ((f04.trans fn).trans (Fd.of s1)) nU, (drn.ext s1).upd nUd nUc, _, _, _, _, _, _, rfl, upd_same, F2.snoc (hf.imp fun _ _ z => ((z.ch c0).ch cS).ch cU) ⟨p, l, rfl, ll, .inl ⟨.ref C, us, cU.tup (.inl (.inl upd_same)), ⟨C, cs, rfl, hUC, cU.lst (s1 _ _ eC) hUC, hc.imp fun _ _ z => (z.ch cS).ch cU⟩, by omega, rfl⟩⟩, by rw [List.length_append, hl]; rfl⟩
      · have f04 := (fi.trans f3).trans f4
        have fi4 := f3.trans f4
        have eU4 := fi4 _ _ nUd eU
        refine ⟨_, rfl, .inl ⟨rfl, _, .of eU4⟩, ?_⟩
        refine ⟨_, rfl, _, rfl, _, rfl, _, rfl, d, c, ins, m, rfl, by omega, hm, dr4, fun H5 qv ls f5 dr5 rq ne => ?_⟩
        have rq3 := RQ.wide (backU H4 _ f04 dr4 eU4) _ _ _ (RQ.to3 rq (by omega))
        have eU5 := f5 _ _ nUd eU4
        refine ⟨by show 3 ≤ sizeLine; decide, fun p np => ?_⟩
        have s1 := same_upd np (o := .tup [.str "step", tx l, qv])
        refine ⟨U, _, _, rfl, rfl, s1 _ _ eU5, by rw [hlen]; omega, ?_⟩
        have c0 : Ch (fun a => HU a = none) Hi H5 := Ch.dr di Ld (fi4.trans f5)
        have cS : Ch (fun a => HU a = none) H5 (upd H5 p (.tup [.str "step", tx l, qv])) := Ch.of s1
        have cU : Ch (fun a => HU a = none) (upd H5 p (.tup [.str "step", tx l, qv])) (upd (upd H5 p (.tup [.str "step", tx l, qv])) U (.lst (xs ++ [.ref p]))) := Ch.at (s1 _ _ eU5) LU
        refine ⟨fd_at ((f04.trans f5).trans (Fd.of s1)) nU, (dr5.ext s1).upd nUd nUc, _, _, _, _, _, _, rfl, upd_same, F2.snoc (hf.imp fun _ _ z => ((z.ch c0).ch cS).ch cU) ⟨p, l, rfl, ll, .inr ⟨qv, ls, cU.tup (.inl (.inl upd_same)), RQ.ch cU _ _ _ (RQ.ch cS _ _ _ rq3), ne, rfl⟩⟩, by rw [List.length_append, hl]; rfl⟩
    · obtain ⟨fi, di, xs, ts, y4, y5, y6, y7, rfl, eU, hf, hl⟩ := hp
      exact ⟨_, rfl, q Hn _ ts fi di ⟨U, xs, rfl, nU, eU, hf.imp fun _ _ z => z.wide (none_back drU f1)⟩ (by omega)⟩
theorem ok_lpi {f : Addr} {fd : FuncData} (F : Fun K "_law_print_item" "_law_print_item" s__law_print_item f fd) (M : Mg mg) (c__law_print_query : Cl P w K mg base 18 "_law_print_query" (sp_lpq K 3)) : FnOk P w K mg base CX0 19 f fd ["item"] (sp_lpi K) := by
  refine F.ok sc__law_print_item (fun vs H Q E h => ?_) (fun cdv A outer s H vs Q E hr h => ?_)
  · obtain ⟨p, L, t, rfl, _⟩ := h
    rfl
  · obtain ⟨p, L, t, rfl, ⟨a, l, rfl, hl, h⟩, q⟩ := h
    refine ⟨_, (pss_cons (ps_if (pt_cmpR op_eq (pe_ix (ix_tupK K) (pv 0) pe_int (fun _ _ => rfl)) pe_str (nomark _)) (pss_cons (ps_set (i := 1) sc__law_print_item.nd rfl (.inl rfl) (pe_join pe_str (pe_lc (own := [("name", 2), ("kind", 3)]) (g := gTup K 2 (gCons (gName 2) (gCons (gName 3) (gNil)))) (tt := tYes) rfl sc__law_print_item.nd (pi_list (pe_ix (ix_tupK K) (pv 0) pe_int (fun _ _ => rfl))) (blkOk_by (N := N__law_print_item) (sc := defScope s__law_print_item) (by decide +kernel)) (fun _ _ _ _ _ => (pg_tup (by rfl) (pgs_cons (pg_name (i := 2) sc__law_print_item.nd rfl (.inl rfl)) (pgs_cons (pg_name (i := 3) sc__law_print_item.nd rfl (.inl rfl)) pgs_nil)))) (fun _ _ _ _ _ => pts_nil) (fun _ _ _ _ _ => (pe_op op_add_str (pe_op op_add_str (pv 2) pe_str) (pv 3))))))
      (pss_one (ps_ret (pe_op op_add_str (pe_op op_add_str (pe_op op_add_str (pe_op op_add_str pe_str (pe_ix (ix_tupK K) (pv 0) pe_int (fun _ _ => rfl))) pe_str) (pv 1)) pe_str)))) pss_nil)
      (pss_one (ps_ret (pe_op op_add_str (pe_op op_add_str (pe_op op_add_str (pe_op op_add_str pe_str (pe_ix (ix_tupK K) (pv 0) pe_int (fun _ _ => rfl))) pe_str) (pe_u c__law_print_query hr (by first | decide | omega) (by rfl) (pa_cons (pe_ix (ix_tupK K) (pv 0) pe_int (fun _ _ => rfl)) (pa_cons pe_str pa_nil)))) pe_str)))), ?_⟩
    rcases h with ⟨cs, ts, hs, hc, k, rfl⟩ | ⟨qv, ls, hs, rq, ne, rfl⟩
    · have lc := hc.le (fun _ _ z => RCol.len z) k
      have tl := taT_len hl lc k
      have j1 := jl_len [44, 32] ts
      have e2 : ([44, 32] : List Nat).length = 2 := rfl
      rw [e2] at j1
      obtain ⟨ac, xc, rfl, Lc, ec, fc⟩ := hc
      refine ⟨_, rfl, a, _, _, _, rfl, rfl, hs, atI_nat (j := 0) rfl, rfl, _, rfl, iteT ?_⟩
      refine ⟨⟨_, rfl⟩, _, rfl, a, _, _, _, rfl, rfl, hs, atI_nat (j := 2) rfl, ac, rfl, ⟨_, .of ec⟩, fun D nD => ?_⟩
      refine lc_txt (K := K) (a := ac) fc (by omega) (.of ec) nD (fun v t Hi r si Qc Nc qc => ?_) (fun Hn sn eD => ?_)
      · obtain ⟨b, l', k', rfl, hs', hl', hk', rfl⟩ := r
        refine ⟨b, _, rfl, SqT.ext si hs', rfl, _, _, rfl, _, _, rfl, rfl, rfl, ?_⟩
        refine ⟨_, rfl, _, _, rfl, rfl, add_len (L := l') (l := [32]) (by show _ + 1 ≤ _; omega), ?_⟩
        rw [show (⟨l'.toArray⟩ : Str) ++ Str.ofString " " = (⟨(l' ++ [32] : List Nat).toArray⟩ : Str) from add_eq _ [32]]
        refine ⟨_, rfl, _, _, rfl, rfl, add_len (L := l' ++ [32]) (l := k') (by rw [List.length_append]; show _ + 1 + _ ≤ _; omega), ?_⟩
        rw [add_eq]
        have := qc Hi (Same.refl Hi)
        rw [show l' ++ 32 :: k' = l' ++ [32] ++ k' by simp] at this
        exact this
      · rw [tx_map] at eD
        refine ⟨_, D, _, rfl, rfl, .inl (.of eD), ?_, ?_⟩
        · rw [lens_S, List.length_map]
          show _ + ts.length * 2 ≤ 16777216
          omega
        · rw [show Txt.join (Str.ofString ", ") (ts.map fun l => (⟨l.toArray⟩ : Str)) = ⟨(jl [44, 32] ts).toArray⟩ from jl_S [44, 32] ts]
          refine ⟨_, rfl, a, _, _, _, rfl, rfl, SqT.ext sn hs, atI_nat (j := 1) rfl, _, _, rfl, rfl, add_len (L := codes "table ") (l := l) (by rw [show (codes "table ").length = 6 by decide]; omega), ?_⟩
          rw [codes_S "table ", add_eq]
          refine ⟨_, _, rfl, rfl, add_len (L := codes "table " ++ l) (l := codes " (") (by rw [List.length_append, show (codes "table ").length = 6 by decide, show (codes " (").length = 2 by decide]; omega), ?_⟩
          rw [codes_S " (", add_eq]
          refine ⟨_, rfl, _, _, rfl, rfl, add_len (L := codes "table " ++ l ++ codes " (") (l := jl [44, 32] ts) (by rw [List.length_append, List.length_append, show (codes "table ").length = 6 by decide, show (codes " (").length = 2 by decide]; omega), ?_⟩
          rw [add_eq]
          refine ⟨_, _, rfl, rfl, add_len (L := codes "table " ++ l ++ codes " (" ++ jl [44, 32] ts) (l := codes ");") (by rw [List.length_append, List.length_append, List.length_append, show (codes "table ").length = 6 by decide, show (codes " (").length = 2 by decide, show (codes ");").length = 2 by decide]; omega), ?_⟩
          rw [codes_S ");", add_eq]
          have fin := q Hn sn
          rw [show taT l ts = codes "table " ++ l ++ codes " (" ++ jl [44, 32] ts ++ codes ");" by unfold taT; simp] at fin
          exact fin
    · have ql := RQ.len 3 _ _ rq
      have qb := bl3 (Nat.le_refl 3)
      have qf := RQ.few rq
      have pj := pre_jl ls ne
      have pl := pre_len ls
      rw [pj, List.length_append] at pl
      have pl' : 3 + (jl [10, 32, 32] ls).length = suml ls + 3 * ls.length := pl
      refine ⟨_, rfl, a, _, _, _, rfl, rfl, hs, atI_nat (j := 0) rfl, rfl, _, rfl, iteF ?_⟩
      refine ⟨_, rfl, a, _, _, _, rfl, rfl, hs, atI_nat (j := 1) rfl, _, _, rfl, rfl, add_len (L := codes "step ") (l := l) (by rw [show (codes "step ").length = 5 by decide]; omega), ?_⟩
      rw [codes_S "step ", add_eq]
      refine ⟨_, _, rfl, rfl, add_len (L := codes "step " ++ l) (l := codes " =\n  ") (by rw [List.length_append, show (codes "step ").length = 5 by decide, show (codes " =\n  ").length = 5 by decide]; omega), ?_⟩
      rw [codes_S " =\n  ", add_eq]
      refine ⟨_, rfl, a, _, _, _, rfl, rfl, hs, atI_nat (j := 2) rfl, qv, L, ls, [10, 32, 32], rfl, by decide, rq, by omega, by show suml ls + ls.length * 3 ≤ _; omega, fun H1 s1 => ?_⟩
      refine ⟨_, _, rfl, rfl, add_len (L := codes "step " ++ l ++ codes " =\n  ") (l := jl [10, 32, 32] ls) (by rw [List.length_append, List.length_append, show (codes "step ").length = 5 by decide, show (codes " =\n  ").length = 5 by decide]; omega), ?_⟩
      rw [add_eq]
      refine ⟨_, _, rfl, rfl, add_len (L := codes "step " ++ l ++ codes " =\n  " ++ jl [10, 32, 32] ls) (l := codes ";") (by rw [List.length_append, List.length_append, List.length_append, show (codes "step ").length = 5 by decide, show (codes " =\n  ").length = 5 by decide, show (codes ";").length = 1 by decide]; omega), ?_⟩
      rw [codes_S ";", add_eq]
      have fin := q H1 s1
      rw [show stT l ls = codes "step " ++ l ++ codes " =\n  " ++ jl [10, 32, 32] ls ++ codes ";" by unfold stT; rw [pj, show codes " =\n  " = codes " =" ++ [10, 32, 32] by decide]; simp] at fin
      exact fin
end
def sp_law (K : PySem.W.Frag) : Sp := fun vs H Q _ => ∃ (a : Addr) (ns : List Int), vs = [.ref a] ∧ SqL K H a (ns.map V.int) ∧ ns.length ≤ 63 ∧ ∀ H', Q (.bl true) H'
section
variable {P : Program} {w : World} {K : PySem.W.Frag} {mg : Str → Option Value} {base : Heap}
theorem ok_law {f : Addr} {fd : FuncData} (F : Fun K "law" "law" s_law f fd) (M : Mg mg) (c__law_draw : Cl P w K mg base 1 "_law_draw" (sp_draw K)) (c__law_next : Cl P w K mg base 1 "_law_next" sp_next) (c__law_items : Cl P w K mg base 17 "_law_items" (sp_lits K)) (c_print_source : Cl P w K mg base 27 "print_source" (sp_src K)) (c__law_print_item : Cl P w K mg base 19 "_law_print_item" (sp_lpi K)) : FnOk P w K mg base CX0 28 f fd ["script"] (sp_law K) := by
  refine F.ok sc_law (fun vs H Q E h => ?_) (fun cdv A outer s H vs Q E hr h => ?_)
  · obtain ⟨a, ns, rfl, _⟩ := h
    rfl
  · obtain ⟨a, ns, rfl, hS, _, q⟩ := h
    refine ⟨_, (pss_cons (ps_set (i := 1) sc_law.nd rfl (.inl rfl) (pe_u c__law_draw hr (by first | decide | omega) (by rfl) (pa_cons (pv 0) pa_nil)))
      (pss_cons (ps_set (i := 2) sc_law.nd rfl (.inl rfl) (pe_u c__law_items hr (by first | decide | omega) (by rfl) (pa_cons (pv 1) (pa_cons (pe_u c__law_next hr (by first | decide | omega) (by rfl) (pa_cons (pv 1) (pa_cons pe_int pa_nil))) (pa_cons (pe_op op_add pe_int (pe_u c__law_next hr (by first | decide | omega) (by rfl) (pa_cons (pv 1) (pa_cons pe_int pa_nil)))) pa_nil)))))
      (pss_cons (ps_set (i := 3) sc_law.nd rfl (.inl rfl) (pe_join pe_str (pe_lc (own := [("item", 5)]) (g := gName 5) (tt := tYes) rfl sc_law.nd (pi_list (pv 2)) (blkOk_by (N := N_law) (sc := defScope s_law) (by decide +kernel)) (fun _ _ _ _ _ => (pg_name (i := 5) sc_law.nd rfl (.inl rfl))) (fun _ _ _ _ _ => pts_nil) (fun _ _ _ _ _ => (pe_op op_add_str (pe_u c__law_print_item hr (by first | decide | omega) (by rfl) (pa_cons (pv 5) pa_nil)) pe_str)))))
      (pss_cons (ps_set (i := 4) sc_law.nd rfl (.inl rfl) (pe_u c_print_source hr (by first | decide | omega) (by rfl) (pa_cons (pv 2) pa_nil)))
      (pss_one (ps_ret (pe_and (pe_callB (isiK K) (by rfl) M.isinstance (by decide +kernel) (pa_cons (pv 4) (pa_cons (pe_bltn (v := .ty "str") (by rfl) M.str (by decide +kernel) rfl) pa_nil))) (pe_and (pe_cmpR op_eq (pv 4) (pv 3) (nomark _)) (pe_one (pe_cmpR op_eq (pe_u c_print_source hr (by first | decide | omega) (by rfl) (pa_cons (pe_lst pa_nil) pa_nil)) pe_str (nomark _))))))))))), ?_⟩
    refine ⟨_, rfl, a, ns, rfl, hS, fun H1 d c s1 nd dr => ?_⟩
    refine ⟨_, rfl, _, rfl, d, c, 3, rfl, dr, by decide, by decide, fun H2 r f2 _ dr2 r0 r1 => ?_⟩
    obtain ⟨i, rfl⟩ := Int.eq_ofNat_of_zero_le r0
    refine ⟨_, rfl, d, c, 2, rfl, dr2, by decide, by decide, fun H3 r' f3 _ dr3 r2 r3 => ?_⟩
    obtain ⟨m, rfl⟩ := Int.eq_ofNat_of_zero_le r2
    refine ⟨_, _, rfl, rfl, d, c, i, 1 + m, rfl, by omega, by omega, dr3, fun H4 p ts f4 dr4 hr4 k4 => ?_⟩
    have h4 := hr4
    obtain ⟨ai, xi, rfl, Li, ei, fi⟩ := hr4
    -- due
    refine ⟨⟨_, rfl⟩, _, rfl, ai, rfl, ⟨_, .of ei⟩, fun D nD => ?_⟩
    refine lc_txt (K := K) (a := ai) (fi.mapR (f := fun t => t ++ [10])) (by rw [List.length_map]; omega) (.of ei) nD (fun v t Hi r si Qc Nc qc => ⟨rfl, ?_⟩) (fun Hn sn eD => ?_)
    · obtain ⟨t, r, rfl⟩ := r
      have tl := RIt.len r
      refine ⟨_, rfl, v, _, t, rfl, r.ch (Ch.of si), fun H5 s5 => ?_⟩
      refine ⟨_, _, rfl, rfl, add_len (L := t) (l := [10]) (by show _ + 1 ≤ _; omega), ?_⟩
      rw [show (⟨t.toArray⟩ : Str) ++ Str.ofString "\n" = (⟨(t ++ [10] : List Nat).toArray⟩ : Str) from add_eq _ [10]]
      exact qc H5 s5
    · rw [tx_map] at eD
      have hsum := suml_le (b := 4990051) (ls := ts.map fun t => t ++ [10]) (fun x hx => by
        obtain ⟨t, ht, rfl⟩ := List.mem_map.mp hx
        have := fi.all (p := fun t => t.length ≤ 4990050) (fun _ _ z => RIt.len z) t ht
        rw [List.length_append]
        show _ + 1 ≤ _
        omega)
      rw [List.length_map] at hsum
      have : ts.length * 4990051 ≤ 3 * 4990051 := Nat.mul_le_mul_right _ k4
      refine ⟨_, D, _, rfl, rfl, .inl (.of eD), ?_, ?_⟩
      · rw [lens_S, List.length_map, List.length_map]
        show _ + ts.length * 0 ≤ 16777216
        omega
      rw [show Txt.join (Str.ofString "") ((ts.map fun t => t ++ [10]).map fun l => (⟨l.toArray⟩ : Str)) = ⟨((ts.map fun t => t ++ [10]).flatten).toArray⟩ from (jl_S [] _).trans (by rw [show jl [] (ts.map fun t => t ++ [10]) = _ from joinL0 _])]
      refine ⟨_, rfl, _, _, ts, rfl, h4.ch (Ch.of sn) (fun _ _ z => z.ch (Ch.of sn)), k4, fun H5 s5 => ?_⟩
      have ty : TyX K H5 (tx ((ts.map fun t => t ++ [10]).flatten)) (.type "str") := .base (.str _)
      refine ⟨_, rfl, ⟨_, _, _, _, _, rfl, .ty _, ty, kit_ty (show kitB _ _ = some true by decide +kernel), _, rfl, ?_⟩⟩
      refine iteT ?_
      refine ⟨_, rfl, _, rfl, rfl, _, rfl, ?_⟩
      rw [show decide (tx ((ts.map fun t => t ++ [10]).flatten) = V.str ⟨((ts.map fun t => t ++ [10]).flatten).toArray⟩) = true from decide_eq_true rfl]
      refine iteT ?_
      refine ⟨Nat.zero_le _, fun p np => ?_⟩
      refine ⟨_, fun _ => True, [], rfl, ⟨p, [], rfl, trivial, upd_same, .nil⟩, by show 0 ≤ 3; omega, fun H6 s6 => ?_⟩
      refine ⟨rfl, ?_⟩
      rw [show decide (tx ((([] : List (List Nat)).map fun t => t ++ [10]).flatten) = V.str (Str.ofString "")) = true from decide_eq_true rfl]
      exact q _
end

set_option maxHeartbeats 0 in
theorem all_mk {l : PySem.W.OpenLaw} {w : World} {K : PySem.W.Frag} {h : Heap} {mg : Str → Option Value} {fa : Addr} (X : K.In h) (G : h.Ns mainGlobals mg) (hfa : mg "law" = some (.ref fa))
    {od0 an0 : Option Addr} {sl0 : Array (Option Value)} {oc0 kV0 dc0 pm0 cd0 ct0 : Value} {f0 : Addr}
    {od1 an1 : Option Addr} {sl1 : Array (Option Value)} {oc1 kV1 dc1 pm1 cd1 ct1 : Value} {f1 : Addr}
    {od2 an2 : Option Addr} {sl2 : Array (Option Value)} {oc2 kV2 dc2 pm2 cd2 ct2 : Value} {f2 : Addr}
    {od3 an3 : Option Addr} {sl3 : Array (Option Value)} {oc3 kV3 dc3 pm3 cd3 ct3 : Value} {f3 : Addr}
    {od4 an4 : Option Addr} {sl4 : Array (Option Value)} {oc4 kV4 dc4 pm4 cd4 ct4 : Value} {f4 : Addr}
    {od5 an5 : Option Addr} {sl5 : Array (Option Value)} {oc5 kV5 dc5 pm5 cd5 ct5 : Value} {f5 : Addr}
    {od6 an6 : Option Addr} {sl6 : Array (Option Value)} {oc6 kV6 dc6 pm6 cd6 ct6 : Value} {f6 : Addr}
    {od7 an7 : Option Addr} {sl7 : Array (Option Value)} {oc7 kV7 dc7 pm7 cd7 ct7 : Value} {f7 : Addr}
    {od8 an8 : Option Addr} {sl8 : Array (Option Value)} {oc8 kV8 dc8 pm8 cd8 ct8 : Value} {f8 : Addr}
    {od9 an9 : Option Addr} {sl9 : Array (Option Value)} {oc9 kV9 dc9 pm9 cd9 ct9 : Value} {f9 : Addr}
    {od10 an10 : Option Addr} {sl10 : Array (Option Value)} {oc10 kV10 dc10 pm10 cd10 ct10 : Value} {f10 : Addr}
    {od11 an11 : Option Addr} {sl11 : Array (Option Value)} {oc11 kV11 dc11 pm11 cd11 ct11 : Value} {f11 : Addr}
    {od12 an12 : Option Addr} {sl12 : Array (Option Value)} {oc12 kV12 dc12 pm12 cd12 ct12 : Value} {f12 : Addr}
    {od13 an13 : Option Addr} {sl13 : Array (Option Value)} {oc13 kV13 dc13 pm13 cd13 ct13 : Value} {f13 : Addr}
    {od14 an14 : Option Addr} {sl14 : Array (Option Value)} {oc14 kV14 dc14 pm14 cd14 ct14 : Value} {f14 : Addr}
    {od15 an15 : Option Addr} {sl15 : Array (Option Value)} {oc15 kV15 dc15 pm15 cd15 ct15 : Value} {f15 : Addr}
    {od16 an16 : Option Addr} {sl16 : Array (Option Value)} {oc16 kV16 dc16 pm16 cd16 ct16 : Value} {f16 : Addr}
    {od17 an17 : Option Addr} {sl17 : Array (Option Value)} {oc17 kV17 dc17 pm17 cd17 ct17 : Value} {f17 : Addr}
    {od18 an18 : Option Addr} {sl18 : Array (Option Value)} {oc18 kV18 dc18 pm18 cd18 ct18 : Value} {f18 : Addr}
    {od19 an19 : Option Addr} {sl19 : Array (Option Value)} {oc19 kV19 dc19 pm19 cd19 ct19 : Value} {f19 : Addr}
    {od20 an20 : Option Addr} {sl20 : Array (Option Value)} {oc20 kV20 dc20 pm20 cd20 ct20 : Value} {f20 : Addr}
    {od21 an21 : Option Addr} {sl21 : Array (Option Value)} {oc21 kV21 dc21 pm21 cd21 ct21 : Value} {f21 : Addr}
    {od22 an22 : Option Addr} {sl22 : Array (Option Value)} {oc22 kV22 dc22 pm22 cd22 ct22 : Value} {f22 : Addr}
    {od23 an23 : Option Addr} {sl23 : Array (Option Value)} {oc23 kV23 dc23 pm23 cd23 ct23 : Value} {f23 : Addr}
    {od24 an24 : Option Addr} {sl24 : Array (Option Value)} {oc24 kV24 dc24 pm24 cd24 ct24 : Value} {f24 : Addr}
    {od25 an25 : Option Addr} {sl25 : Array (Option Value)} {oc25 kV25 dc25 pm25 cd25 ct25 : Value} {f25 : Addr}
    {od26 an26 : Option Addr} {sl26 : Array (Option Value)} {oc26 kV26 dc26 pm26 cd26 ct26 : Value} {f26 : Addr}
    {od27 an27 : Option Addr} {sl27 : Array (Option Value)} {oc27 kV27 dc27 pm27 cd27 ct27 : Value} {f27 : Addr}
    {od28 an28 : Option Addr} {sl28 : Array (Option Value)} {oc28 kV28 dc28 pm28 cd28 ct28 : Value} {f28 : Addr}
    {od29 an29 : Option Addr} {sl29 : Array (Option Value)} {oc29 kV29 dc29 pm29 cd29 ct29 : Value} {f29 : Addr}
    {od30 an30 : Option Addr} {sl30 : Array (Option Value)} {oc30 kV30 dc30 pm30 cd30 ct30 : Value} {f30 : Addr}
    {od31 an31 : Option Addr} {sl31 : Array (Option Value)} {oc31 kV31 dc31 pm31 cd31 ct31 : Value} {f31 : Addr}
    {od32 an32 : Option Addr} {sl32 : Array (Option Value)} {oc32 kV32 dc32 pm32 cd32 ct32 : Value} {f32 : Addr}
    {od33 an33 : Option Addr} {sl33 : Array (Option Value)} {oc33 kV33 dc33 pm33 cd33 ct33 : Value} {f33 : Addr}
    {od34 an34 : Option Addr} {sl34 : Array (Option Value)} {oc34 kV34 dc34 pm34 cd34 ct34 : Value} {f34 : Addr}
    {od35 an35 : Option Addr} {sl35 : Array (Option Value)} {oc35 kV35 dc35 pm35 cd35 ct35 : Value} {f35 : Addr}
    {od36 an36 : Option Addr} {sl36 : Array (Option Value)} {oc36 kV36 dc36 pm36 cd36 ct36 : Value} {f36 : Addr}
    {od37 an37 : Option Addr} {sl37 : Array (Option Value)} {oc37 kV37 dc37 pm37 cd37 ct37 : Value} {f37 : Addr}
    {od38 an38 : Option Addr} {sl38 : Array (Option Value)} {oc38 kV38 dc38 pm38 cd38 ct38 : Value} {f38 : Addr}
    {od39 an39 : Option Addr} {sl39 : Array (Option Value)} {oc39 kV39 dc39 pm39 cd39 ct39 : Value} {f39 : Addr}
    {od40 an40 : Option Addr} {sl40 : Array (Option Value)} {oc40 kV40 dc40 pm40 cd40 ct40 : Value} {f40 : Addr}
    (a0 : PySem.W.nsIn K mainGlobals "print_expression" = some (some (.ref f0))) (l0 : K.lookup f0 = some ⟨oc0, od0, .func (PySem.W.fnOf "print_expression" "print_expression" (defArgs s_print_expression) (defBody s_print_expression) (defScope s_print_expression) .none kV0 dc0 pm0 an0 cd0 ct0), sl0⟩) (c0 : PySem.W.codeIn K cd0 "print_expression" = true) (k0 : PySem.W.keepIn K (.ref f0) = true)
    (a1 : PySem.W.nsIn K mainGlobals "print_query" = some (some (.ref f1))) (l1 : K.lookup f1 = some ⟨oc1, od1, .func (PySem.W.fnOf "print_query" "print_query" (defArgs s_print_query) (defBody s_print_query) (defScope s_print_query) .none kV1 dc1 pm1 an1 cd1 ct1), sl1⟩) (c1 : PySem.W.codeIn K cd1 "print_query" = true) (k1 : PySem.W.keepIn K (.ref f1) = true)
    (a2 : PySem.W.nsIn K mainGlobals "print_source" = some (some (.ref f2))) (l2 : K.lookup f2 = some ⟨oc2, od2, .func (PySem.W.fnOf "print_source" "print_source" (defArgs s_print_source) (defBody s_print_source) (defScope s_print_source) .none kV2 dc2 pm2 an2 cd2 ct2), sl2⟩) (c2 : PySem.W.codeIn K cd2 "print_source" = true) (k2 : PySem.W.keepIn K (.ref f2) = true)
    (a3 : PySem.W.nsIn K mainGlobals "inner_text" = some (some (.ref f3))) (l3 : K.lookup f3 = some ⟨oc3, od3, .func (PySem.W.fnOf "inner_text" "inner_text" (defArgs s_inner_text) (defBody s_inner_text) (defScope s_inner_text) .none kV3 dc3 pm3 an3 cd3 ct3), sl3⟩) (c3 : PySem.W.codeIn K cd3 "inner_text" = true) (k3 : PySem.W.keepIn K (.ref f3) = true)
    (a4 : PySem.W.nsIn K mainGlobals "closeness" = some (some (.ref f4))) (l4 : K.lookup f4 = some ⟨oc4, od4, .func (PySem.W.fnOf "closeness" "closeness" (defArgs s_closeness) (defBody s_closeness) (defScope s_closeness) .none kV4 dc4 pm4 an4 cd4 ct4), sl4⟩) (c4 : PySem.W.codeIn K cd4 "closeness" = true) (k4 : PySem.W.keepIn K (.ref f4) = true)
    (a5 : PySem.W.nsIn K mainGlobals "leaf_text" = some (some (.ref f5))) (l5 : K.lookup f5 = some ⟨oc5, od5, .func (PySem.W.fnOf "leaf_text" "leaf_text" (defArgs s_leaf_text) (defBody s_leaf_text) (defScope s_leaf_text) .none kV5 dc5 pm5 an5 cd5 ct5), sl5⟩) (c5 : PySem.W.codeIn K cd5 "leaf_text" = true) (k5 : PySem.W.keepIn K (.ref f5) = true)
    (a6 : PySem.W.nsIn K mainGlobals "item_text" = some (some (.ref f6))) (l6 : K.lookup f6 = some ⟨oc6, od6, .func (PySem.W.fnOf "item_text" "item_text" (defArgs s_item_text) (defBody s_item_text) (defScope s_item_text) .none kV6 dc6 pm6 an6 cd6 ct6), sl6⟩) (c6 : PySem.W.codeIn K cd6 "item_text" = true) (k6 : PySem.W.keepIn K (.ref f6) = true)
    (a7 : PySem.W.nsIn K mainGlobals "query_lines" = some (some (.ref f7))) (l7 : K.lookup f7 = some ⟨oc7, od7, .func (PySem.W.fnOf "query_lines" "query_lines" (defArgs s_query_lines) (defBody s_query_lines) (defScope s_query_lines) .none kV7 dc7 pm7 an7 cd7 ct7), sl7⟩) (c7 : PySem.W.codeIn K cd7 "query_lines" = true) (k7 : PySem.W.keepIn K (.ref f7) = true)
    (a8 : PySem.W.nsIn K mainGlobals "operand_text" = some (some (.ref f8))) (l8 : K.lookup f8 = some ⟨oc8, od8, .func (PySem.W.fnOf "operand_text" "operand_text" (defArgs s_operand_text) (defBody s_operand_text) (defScope s_operand_text) .none kV8 dc8 pm8 an8 cd8 ct8), sl8⟩) (c8 : PySem.W.codeIn K cd8 "operand_text" = true) (k8 : PySem.W.keepIn K (.ref f8) = true)
    (a9 : PySem.W.nsIn K mainGlobals "stage_text" = some (some (.ref f9))) (l9 : K.lookup f9 = some ⟨oc9, od9, .func (PySem.W.fnOf "stage_text" "stage_text" (defArgs s_stage_text) (defBody s_stage_text) (defScope s_stage_text) .none kV9 dc9 pm9 an9 cd9 ct9), sl9⟩) (c9 : PySem.W.codeIn K cd9 "stage_text" = true) (k9 : PySem.W.keepIn K (.ref f9) = true)
    (a10 : PySem.W.nsIn K mainGlobals "join_text" = some (some (.ref f10))) (l10 : K.lookup f10 = some ⟨oc10, od10, .func (PySem.W.fnOf "join_text" "join_text" (defArgs s_join_text) (defBody s_join_text) (defScope s_join_text) .none kV10 dc10 pm10 an10 cd10 ct10), sl10⟩) (c10 : PySem.W.codeIn K cd10 "join_text" = true) (k10 : PySem.W.keepIn K (.ref f10) = true)
    (a11 : PySem.W.nsIn K mainGlobals "group_text" = some (some (.ref f11))) (l11 : K.lookup f11 = some ⟨oc11, od11, .func (PySem.W.fnOf "group_text" "group_text" (defArgs s_group_text) (defBody s_group_text) (defScope s_group_text) .none kV11 dc11 pm11 an11 cd11 ct11), sl11⟩) (c11 : PySem.W.codeIn K cd11 "group_text" = true) (k11 : PySem.W.keepIn K (.ref f11) = true)
    (a12 : PySem.W.nsIn K mainGlobals "outputs_text" = some (some (.ref f12))) (l12 : K.lookup f12 = some ⟨oc12, od12, .func (PySem.W.fnOf "outputs_text" "outputs_text" (defArgs s_outputs_text) (defBody s_outputs_text) (defScope s_outputs_text) .none kV12 dc12 pm12 an12 cd12 ct12), sl12⟩) (c12 : PySem.W.codeIn K cd12 "outputs_text" = true) (k12 : PySem.W.keepIn K (.ref f12) = true)
    (a13 : PySem.W.nsIn K mainGlobals "output_text" = some (some (.ref f13))) (l13 : K.lookup f13 = some ⟨oc13, od13, .func (PySem.W.fnOf "output_text" "output_text" (defArgs s_output_text) (defBody s_output_text) (defScope s_output_text) .none kV13 dc13 pm13 an13 cd13 ct13), sl13⟩) (c13 : PySem.W.codeIn K cd13 "output_text" = true) (k13 : PySem.W.keepIn K (.ref f13) = true)
    (a14 : PySem.W.nsIn K mainGlobals "form_text" = some (some (.ref f14))) (l14 : K.lookup f14 = some ⟨oc14, od14, .func (PySem.W.fnOf "form_text" "form_text" (defArgs s_form_text) (defBody s_form_text) (defScope s_form_text) .none kV14 dc14 pm14 an14 cd14 ct14), sl14⟩) (c14 : PySem.W.codeIn K cd14 "form_text" = true) (k14 : PySem.W.keepIn K (.ref f14) = true)
    (a15 : PySem.W.nsIn K mainGlobals "_law_draw" = some (some (.ref f15))) (l15 : K.lookup f15 = some ⟨oc15, od15, .func (PySem.W.fnOf "_law_draw" "_law_draw" (defArgs s__law_draw) (defBody s__law_draw) (defScope s__law_draw) .none kV15 dc15 pm15 an15 cd15 ct15), sl15⟩) (c15 : PySem.W.codeIn K cd15 "_law_draw" = true) (k15 : PySem.W.keepIn K (.ref f15) = true)
    (a16 : PySem.W.nsIn K mainGlobals "_law_next" = some (some (.ref f16))) (l16 : K.lookup f16 = some ⟨oc16, od16, .func (PySem.W.fnOf "_law_next" "_law_next" (defArgs s__law_next) (defBody s__law_next) (defScope s__law_next) .none kV16 dc16 pm16 an16 cd16 ct16), sl16⟩) (c16 : PySem.W.codeIn K cd16 "_law_next" = true) (k16 : PySem.W.keepIn K (.ref f16) = true)
    (a17 : PySem.W.nsIn K mainGlobals "_law_reserved" = some (some (.ref f17))) (l17 : K.lookup f17 = some ⟨oc17, od17, .func (PySem.W.fnOf "_law_reserved" "_law_reserved" (defArgs s__law_reserved) (defBody s__law_reserved) (defScope s__law_reserved) .none kV17 dc17 pm17 an17 cd17 ct17), sl17⟩) (c17 : PySem.W.codeIn K cd17 "_law_reserved" = true) (k17 : PySem.W.keepIn K (.ref f17) = true)
    (a18 : PySem.W.nsIn K mainGlobals "_law_name" = some (some (.ref f18))) (l18 : K.lookup f18 = some ⟨oc18, od18, .func (PySem.W.fnOf "_law_name" "_law_name" (defArgs s__law_name) (defBody s__law_name) (defScope s__law_name) .none kV18 dc18 pm18 an18 cd18 ct18), sl18⟩) (c18 : PySem.W.codeIn K cd18 "_law_name" = true) (k18 : PySem.W.keepIn K (.ref f18) = true)
    (a19 : PySem.W.nsIn K mainGlobals "_law_string" = some (some (.ref f19))) (l19 : K.lookup f19 = some ⟨oc19, od19, .func (PySem.W.fnOf "_law_string" "_law_string" (defArgs s__law_string) (defBody s__law_string) (defScope s__law_string) .none kV19 dc19 pm19 an19 cd19 ct19), sl19⟩) (c19 : PySem.W.codeIn K cd19 "_law_string" = true) (k19 : PySem.W.keepIn K (.ref f19) = true)
    (a20 : PySem.W.nsIn K mainGlobals "_law_quoted" = some (some (.ref f20))) (l20 : K.lookup f20 = some ⟨oc20, od20, .func (PySem.W.fnOf "_law_quoted" "_law_quoted" (defArgs s__law_quoted) (defBody s__law_quoted) (defScope s__law_quoted) .none kV20 dc20 pm20 an20 cd20 ct20), sl20⟩) (c20 : PySem.W.codeIn K cd20 "_law_quoted" = true) (k20 : PySem.W.keepIn K (.ref f20) = true)
    (a21 : PySem.W.nsIn K mainGlobals "_law_number" = some (some (.ref f21))) (l21 : K.lookup f21 = some ⟨oc21, od21, .func (PySem.W.fnOf "_law_number" "_law_number" (defArgs s__law_number) (defBody s__law_number) (defScope s__law_number) .none kV21 dc21 pm21 an21 cd21 ct21), sl21⟩) (c21 : PySem.W.codeIn K cd21 "_law_number" = true) (k21 : PySem.W.keepIn K (.ref f21) = true)
    (a22 : PySem.W.nsIn K mainGlobals "_law_signs" = some (some (.ref f22))) (l22 : K.lookup f22 = some ⟨oc22, od22, .func (PySem.W.fnOf "_law_signs" "_law_signs" (defArgs s__law_signs) (defBody s__law_signs) (defScope s__law_signs) .none kV22 dc22 pm22 an22 cd22 ct22), sl22⟩) (c22 : PySem.W.codeIn K cd22 "_law_signs" = true) (k22 : PySem.W.keepIn K (.ref f22) = true)
    (a23 : PySem.W.nsIn K mainGlobals "_law_leaf" = some (some (.ref f23))) (l23 : K.lookup f23 = some ⟨oc23, od23, .func (PySem.W.fnOf "_law_leaf" "_law_leaf" (defArgs s__law_leaf) (defBody s__law_leaf) (defScope s__law_leaf) .none kV23 dc23 pm23 an23 cd23 ct23), sl23⟩) (c23 : PySem.W.codeIn K cd23 "_law_leaf" = true) (k23 : PySem.W.keepIn K (.ref f23) = true)
    (a24 : PySem.W.nsIn K mainGlobals "_law_expression" = some (some (.ref f24))) (l24 : K.lookup f24 = some ⟨oc24, od24, .func (PySem.W.fnOf "_law_expression" "_law_expression" (defArgs s__law_expression) (defBody s__law_expression) (defScope s__law_expression) .none kV24 dc24 pm24 an24 cd24 ct24), sl24⟩) (c24 : PySem.W.codeIn K cd24 "_law_expression" = true) (k24 : PySem.W.keepIn K (.ref f24) = true)
    (a25 : PySem.W.nsIn K mainGlobals "_law_level" = some (some (.ref f25))) (l25 : K.lookup f25 = some ⟨oc25, od25, .func (PySem.W.fnOf "_law_level" "_law_level" (defArgs s__law_level) (defBody s__law_level) (defScope s__law_level) .none kV25 dc25 pm25 an25 cd25 ct25), sl25⟩) (c25 : PySem.W.codeIn K cd25 "_law_level" = true) (k25 : PySem.W.keepIn K (.ref f25) = true)
    (a26 : PySem.W.nsIn K mainGlobals "_law_print_atom" = some (some (.ref f26))) (l26 : K.lookup f26 = some ⟨oc26, od26, .func (PySem.W.fnOf "_law_print_atom" "_law_print_atom" (defArgs s__law_print_atom) (defBody s__law_print_atom) (defScope s__law_print_atom) .none kV26 dc26 pm26 an26 cd26 ct26), sl26⟩) (c26 : PySem.W.codeIn K cd26 "_law_print_atom" = true) (k26 : PySem.W.keepIn K (.ref f26) = true)
    (a27 : PySem.W.nsIn K mainGlobals "_law_print" = some (some (.ref f27))) (l27 : K.lookup f27 = some ⟨oc27, od27, .func (PySem.W.fnOf "_law_print" "_law_print" (defArgs s__law_print) (defBody s__law_print) (defScope s__law_print) .none kV27 dc27 pm27 an27 cd27 ct27), sl27⟩) (c27 : PySem.W.codeIn K cd27 "_law_print" = true) (k27 : PySem.W.keepIn K (.ref f27) = true)
    (a28 : PySem.W.nsIn K mainGlobals "_law_outputs" = some (some (.ref f28))) (l28 : K.lookup f28 = some ⟨oc28, od28, .func (PySem.W.fnOf "_law_outputs" "_law_outputs" (defArgs s__law_outputs) (defBody s__law_outputs) (defScope s__law_outputs) .none kV28 dc28 pm28 an28 cd28 ct28), sl28⟩) (c28 : PySem.W.codeIn K cd28 "_law_outputs" = true) (k28 : PySem.W.keepIn K (.ref f28) = true)
    (a29 : PySem.W.nsIn K mainGlobals "_law_totals" = some (some (.ref f29))) (l29 : K.lookup f29 = some ⟨oc29, od29, .func (PySem.W.fnOf "_law_totals" "_law_totals" (defArgs s__law_totals) (defBody s__law_totals) (defScope s__law_totals) .none kV29 dc29 pm29 an29 cd29 ct29), sl29⟩) (c29 : PySem.W.codeIn K cd29 "_law_totals" = true) (k29 : PySem.W.keepIn K (.ref f29) = true)
    (a30 : PySem.W.nsIn K mainGlobals "_law_operand" = some (some (.ref f30))) (l30 : K.lookup f30 = some ⟨oc30, od30, .func (PySem.W.fnOf "_law_operand" "_law_operand" (defArgs s__law_operand) (defBody s__law_operand) (defScope s__law_operand) .none kV30 dc30 pm30 an30 cd30 ct30), sl30⟩) (c30 : PySem.W.codeIn K cd30 "_law_operand" = true) (k30 : PySem.W.keepIn K (.ref f30) = true)
    (a31 : PySem.W.nsIn K mainGlobals "_law_stage" = some (some (.ref f31))) (l31 : K.lookup f31 = some ⟨oc31, od31, .func (PySem.W.fnOf "_law_stage" "_law_stage" (defArgs s__law_stage) (defBody s__law_stage) (defScope s__law_stage) .none kV31 dc31 pm31 an31 cd31 ct31), sl31⟩) (c31 : PySem.W.codeIn K cd31 "_law_stage" = true) (k31 : PySem.W.keepIn K (.ref f31) = true)
    (a32 : PySem.W.nsIn K mainGlobals "_law_query" = some (some (.ref f32))) (l32 : K.lookup f32 = some ⟨oc32, od32, .func (PySem.W.fnOf "_law_query" "_law_query" (defArgs s__law_query) (defBody s__law_query) (defScope s__law_query) .none kV32 dc32 pm32 an32 cd32 ct32), sl32⟩) (c32 : PySem.W.codeIn K cd32 "_law_query" = true) (k32 : PySem.W.keepIn K (.ref f32) = true)
    (a33 : PySem.W.nsIn K mainGlobals "_law_print_output" = some (some (.ref f33))) (l33 : K.lookup f33 = some ⟨oc33, od33, .func (PySem.W.fnOf "_law_print_output" "_law_print_output" (defArgs s__law_print_output) (defBody s__law_print_output) (defScope s__law_print_output) .none kV33 dc33 pm33 an33 cd33 ct33), sl33⟩) (c33 : PySem.W.codeIn K cd33 "_law_print_output" = true) (k33 : PySem.W.keepIn K (.ref f33) = true)
    (a34 : PySem.W.nsIn K mainGlobals "_law_print_total" = some (some (.ref f34))) (l34 : K.lookup f34 = some ⟨oc34, od34, .func (PySem.W.fnOf "_law_print_total" "_law_print_total" (defArgs s__law_print_total) (defBody s__law_print_total) (defScope s__law_print_total) .none kV34 dc34 pm34 an34 cd34 ct34), sl34⟩) (c34 : PySem.W.codeIn K cd34 "_law_print_total" = true) (k34 : PySem.W.keepIn K (.ref f34) = true)
    (a35 : PySem.W.nsIn K mainGlobals "_law_print_operand" = some (some (.ref f35))) (l35 : K.lookup f35 = some ⟨oc35, od35, .func (PySem.W.fnOf "_law_print_operand" "_law_print_operand" (defArgs s__law_print_operand) (defBody s__law_print_operand) (defScope s__law_print_operand) .none kV35 dc35 pm35 an35 cd35 ct35), sl35⟩) (c35 : PySem.W.codeIn K cd35 "_law_print_operand" = true) (k35 : PySem.W.keepIn K (.ref f35) = true)
    (a36 : PySem.W.nsIn K mainGlobals "_law_print_stage" = some (some (.ref f36))) (l36 : K.lookup f36 = some ⟨oc36, od36, .func (PySem.W.fnOf "_law_print_stage" "_law_print_stage" (defArgs s__law_print_stage) (defBody s__law_print_stage) (defScope s__law_print_stage) .none kV36 dc36 pm36 an36 cd36 ct36), sl36⟩) (c36 : PySem.W.codeIn K cd36 "_law_print_stage" = true) (k36 : PySem.W.keepIn K (.ref f36) = true)
    (a37 : PySem.W.nsIn K mainGlobals "_law_print_query" = some (some (.ref f37))) (l37 : K.lookup f37 = some ⟨oc37, od37, .func (PySem.W.fnOf "_law_print_query" "_law_print_query" (defArgs s__law_print_query) (defBody s__law_print_query) (defScope s__law_print_query) .none kV37 dc37 pm37 an37 cd37 ct37), sl37⟩) (c37 : PySem.W.codeIn K cd37 "_law_print_query" = true) (k37 : PySem.W.keepIn K (.ref f37) = true)
    (a38 : PySem.W.nsIn K mainGlobals "_law_items" = some (some (.ref f38))) (l38 : K.lookup f38 = some ⟨oc38, od38, .func (PySem.W.fnOf "_law_items" "_law_items" (defArgs s__law_items) (defBody s__law_items) (defScope s__law_items) .none kV38 dc38 pm38 an38 cd38 ct38), sl38⟩) (c38 : PySem.W.codeIn K cd38 "_law_items" = true) (k38 : PySem.W.keepIn K (.ref f38) = true)
    (a39 : PySem.W.nsIn K mainGlobals "_law_print_item" = some (some (.ref f39))) (l39 : K.lookup f39 = some ⟨oc39, od39, .func (PySem.W.fnOf "_law_print_item" "_law_print_item" (defArgs s__law_print_item) (defBody s__law_print_item) (defScope s__law_print_item) .none kV39 dc39 pm39 an39 cd39 ct39), sl39⟩) (c39 : PySem.W.codeIn K cd39 "_law_print_item" = true) (k39 : PySem.W.keepIn K (.ref f39) = true)
    (a40 : PySem.W.nsIn K mainGlobals "law" = some (some (.ref f40))) (l40 : K.lookup f40 = some ⟨oc40, od40, .func (PySem.W.fnOf "law" "law" (defArgs s_law) (defBody s_law) (defScope s_law) .none kV40 dc40 pm40 an40 cd40 ct40), sl40⟩) (c40 : PySem.W.codeIn K cd40 "law" = true) (k40 : PySem.W.keepIn K (.ref f40) = true)
    {a_OPERATORS : Addr} {es_OPERATORS : Array DictEntry} {n_OPERATORS : Nat} (w_OPERATORS : PySem.W.nsIn K mainGlobals "OPERATORS" = some (some (.ref a_OPERATORS))) (v_OPERATORS : K.lookup a_OPERATORS = some ⟨.type "dict", none, .dict es_OPERATORS n_OPERATORS, #[]⟩) (k_OPERATORS : PySem.W.KeysLit w.params es_OPERATORS.toList) (lo_OPERATORS : (a_OPERATORS == sysModules) = false) {a_OPERATORS_0 : Addr} {dd_OPERATORS_0 : Option Addr} {n_OPERATORS_0 : Nat} {sl_OPERATORS_0 : Array (Option Value)} {tk_OPERATORS_0_0 tk_OPERATORS_0_1 tk_OPERATORS_0_2 : Tok} (w_OPERATORS_0 : PySem.W.nsIn K a_OPERATORS (PySem.Str.ofString "or") = some (some (.ref a_OPERATORS_0))) (v_OPERATORS_0 : K.lookup a_OPERATORS_0 = some ⟨.type "tuple", dd_OPERATORS_0, .seq #[.int 1 tk_OPERATORS_0_0, .int 1 tk_OPERATORS_0_1, .int 2 tk_OPERATORS_0_2] n_OPERATORS_0, sl_OPERATORS_0⟩) {a_OPERATORS_1 : Addr} {dd_OPERATORS_1 : Option Addr} {n_OPERATORS_1 : Nat} {sl_OPERATORS_1 : Array (Option Value)} {tk_OPERATORS_1_0 tk_OPERATORS_1_1 tk_OPERATORS_1_2 : Tok} (w_OPERATORS_1 : PySem.W.nsIn K a_OPERATORS (PySem.Str.ofString "and") = some (some (.ref a_OPERATORS_1))) (v_OPERATORS_1 : K.lookup a_OPERATORS_1 = some ⟨.type "tuple", dd_OPERATORS_1, .seq #[.int 2 tk_OPERATORS_1_0, .int 2 tk_OPERATORS_1_1, .int 3 tk_OPERATORS_1_2] n_OPERATORS_1, sl_OPERATORS_1⟩) {a_OPERATORS_2 : Addr} {dd_OPERATORS_2 : Option Addr} {n_OPERATORS_2 : Nat} {sl_OPERATORS_2 : Array (Option Value)} {tk_OPERATORS_2_0 tk_OPERATORS_2_1 tk_OPERATORS_2_2 : Tok} (w_OPERATORS_2 : PySem.W.nsIn K a_OPERATORS (PySem.Str.ofString "<") = some (some (.ref a_OPERATORS_2))) (v_OPERATORS_2 : K.lookup a_OPERATORS_2 = some ⟨.type "tuple", dd_OPERATORS_2, .seq #[.int 4 tk_OPERATORS_2_0, .int 5 tk_OPERATORS_2_1, .int 5 tk_OPERATORS_2_2] n_OPERATORS_2, sl_OPERATORS_2⟩) {a_OPERATORS_3 : Addr} {dd_OPERATORS_3 : Option Addr} {n_OPERATORS_3 : Nat} {sl_OPERATORS_3 : Array (Option Value)} {tk_OPERATORS_3_0 tk_OPERATORS_3_1 tk_OPERATORS_3_2 : Tok} (w_OPERATORS_3 : PySem.W.nsIn K a_OPERATORS (PySem.Str.ofString "<=") = some (some (.ref a_OPERATORS_3))) (v_OPERATORS_3 : K.lookup a_OPERATORS_3 = some ⟨.type "tuple", dd_OPERATORS_3, .seq #[.int 4 tk_OPERATORS_3_0, .int 5 tk_OPERATORS_3_1, .int 5 tk_OPERATORS_3_2] n_OPERATORS_3, sl_OPERATORS_3⟩) {a_OPERATORS_4 : Addr} {dd_OPERATORS_4 : Option Addr} {n_OPERATORS_4 : Nat} {sl_OPERATORS_4 : Array (Option Value)} {tk_OPERATORS_4_0 tk_OPERATORS_4_1 tk_OPERATORS_4_2 : Tok} (w_OPERATORS_4 : PySem.W.nsIn K a_OPERATORS (PySem.Str.ofString "=") = some (some (.ref a_OPERATORS_4))) (v_OPERATORS_4 : K.lookup a_OPERATORS_4 = some ⟨.type "tuple", dd_OPERATORS_4, .seq #[.int 4 tk_OPERATORS_4_0, .int 5 tk_OPERATORS_4_1, .int 5 tk_OPERATORS_4_2] n_OPERATORS_4, sl_OPERATORS_4⟩) {a_OPERATORS_5 : Addr} {dd_OPERATORS_5 : Option Addr} {n_OPERATORS_5 : Nat} {sl_OPERATORS_5 : Array (Option Value)} {tk_OPERATORS_5_0 tk_OPERATORS_5_1 tk_OPERATORS_5_2 : Tok} (w_OPERATORS_5 : PySem.W.nsIn K a_OPERATORS (PySem.Str.ofString "!=") = some (some (.ref a_OPERATORS_5))) (v_OPERATORS_5 : K.lookup a_OPERATORS_5 = some ⟨.type "tuple", dd_OPERATORS_5, .seq #[.int 4 tk_OPERATORS_5_0, .int 5 tk_OPERATORS_5_1, .int 5 tk_OPERATORS_5_2] n_OPERATORS_5, sl_OPERATORS_5⟩) {a_OPERATORS_6 : Addr} {dd_OPERATORS_6 : Option Addr} {n_OPERATORS_6 : Nat} {sl_OPERATORS_6 : Array (Option Value)} {tk_OPERATORS_6_0 tk_OPERATORS_6_1 tk_OPERATORS_6_2 : Tok} (w_OPERATORS_6 : PySem.W.nsIn K a_OPERATORS (PySem.Str.ofString ">=") = some (some (.ref a_OPERATORS_6))) (v_OPERATORS_6 : K.lookup a_OPERATORS_6 = some ⟨.type "tuple", dd_OPERATORS_6, .seq #[.int 4 tk_OPERATORS_6_0, .int 5 tk_OPERATORS_6_1, .int 5 tk_OPERATORS_6_2] n_OPERATORS_6, sl_OPERATORS_6⟩) {a_OPERATORS_7 : Addr} {dd_OPERATORS_7 : Option Addr} {n_OPERATORS_7 : Nat} {sl_OPERATORS_7 : Array (Option Value)} {tk_OPERATORS_7_0 tk_OPERATORS_7_1 tk_OPERATORS_7_2 : Tok} (w_OPERATORS_7 : PySem.W.nsIn K a_OPERATORS (PySem.Str.ofString ">") = some (some (.ref a_OPERATORS_7))) (v_OPERATORS_7 : K.lookup a_OPERATORS_7 = some ⟨.type "tuple", dd_OPERATORS_7, .seq #[.int 4 tk_OPERATORS_7_0, .int 5 tk_OPERATORS_7_1, .int 5 tk_OPERATORS_7_2] n_OPERATORS_7, sl_OPERATORS_7⟩) {a_OPERATORS_8 : Addr} {dd_OPERATORS_8 : Option Addr} {n_OPERATORS_8 : Nat} {sl_OPERATORS_8 : Array (Option Value)} {tk_OPERATORS_8_0 tk_OPERATORS_8_1 tk_OPERATORS_8_2 : Tok} (w_OPERATORS_8 : PySem.W.nsIn K a_OPERATORS (PySem.Str.ofString "+") = some (some (.ref a_OPERATORS_8))) (v_OPERATORS_8 : K.lookup a_OPERATORS_8 = some ⟨.type "tuple", dd_OPERATORS_8, .seq #[.int 5 tk_OPERATORS_8_0, .int 5 tk_OPERATORS_8_1, .int 6 tk_OPERATORS_8_2] n_OPERATORS_8, sl_OPERATORS_8⟩) {a_OPERATORS_9 : Addr} {dd_OPERATORS_9 : Option Addr} {n_OPERATORS_9 : Nat} {sl_OPERATORS_9 : Array (Option Value)} {tk_OPERATORS_9_0 tk_OPERATORS_9_1 tk_OPERATORS_9_2 : Tok} (w_OPERATORS_9 : PySem.W.nsIn K a_OPERATORS (PySem.Str.ofString "-") = some (some (.ref a_OPERATORS_9))) (v_OPERATORS_9 : K.lookup a_OPERATORS_9 = some ⟨.type "tuple", dd_OPERATORS_9, .seq #[.int 5 tk_OPERATORS_9_0, .int 5 tk_OPERATORS_9_1, .int 6 tk_OPERATORS_9_2] n_OPERATORS_9, sl_OPERATORS_9⟩) {a_OPERATORS_10 : Addr} {dd_OPERATORS_10 : Option Addr} {n_OPERATORS_10 : Nat} {sl_OPERATORS_10 : Array (Option Value)} {tk_OPERATORS_10_0 tk_OPERATORS_10_1 tk_OPERATORS_10_2 : Tok} (w_OPERATORS_10 : PySem.W.nsIn K a_OPERATORS (PySem.Str.ofString "*") = some (some (.ref a_OPERATORS_10))) (v_OPERATORS_10 : K.lookup a_OPERATORS_10 = some ⟨.type "tuple", dd_OPERATORS_10, .seq #[.int 6 tk_OPERATORS_10_0, .int 6 tk_OPERATORS_10_1, .int 7 tk_OPERATORS_10_2] n_OPERATORS_10, sl_OPERATORS_10⟩) {a_OPERATORS_11 : Addr} {dd_OPERATORS_11 : Option Addr} {n_OPERATORS_11 : Nat} {sl_OPERATORS_11 : Array (Option Value)} {tk_OPERATORS_11_0 tk_OPERATORS_11_1 tk_OPERATORS_11_2 : Tok} (w_OPERATORS_11 : PySem.W.nsIn K a_OPERATORS (PySem.Str.ofString "div") = some (some (.ref a_OPERATORS_11))) (v_OPERATORS_11 : K.lookup a_OPERATORS_11 = some ⟨.type "tuple", dd_OPERATORS_11, .seq #[.int 6 tk_OPERATORS_11_0, .int 6 tk_OPERATORS_11_1, .int 7 tk_OPERATORS_11_2] n_OPERATORS_11, sl_OPERATORS_11⟩) {a_OPERATORS_12 : Addr} {dd_OPERATORS_12 : Option Addr} {n_OPERATORS_12 : Nat} {sl_OPERATORS_12 : Array (Option Value)} {tk_OPERATORS_12_0 tk_OPERATORS_12_1 tk_OPERATORS_12_2 : Tok} (w_OPERATORS_12 : PySem.W.nsIn K a_OPERATORS (PySem.Str.ofString "mod") = some (some (.ref a_OPERATORS_12))) (v_OPERATORS_12 : K.lookup a_OPERATORS_12 = some ⟨.type "tuple", dd_OPERATORS_12, .seq #[.int 6 tk_OPERATORS_12_0, .int 6 tk_OPERATORS_12_1, .int 7 tk_OPERATORS_12_2] n_OPERATORS_12, sl_OPERATORS_12⟩) (m_OPERATORS_0 : PySem.W.nsIn K a_OPERATORS (PySem.Str.ofString "not") = some none) (m_OPERATORS_1 : PySem.W.nsIn K a_OPERATORS (PySem.Str.ofString "negate") = some none) (m_OPERATORS_2 : PySem.W.nsIn K a_OPERATORS (PySem.Str.ofString "missing") = some none) (m_OPERATORS_3 : PySem.W.nsIn K a_OPERATORS (PySem.Str.ofString "length") = some none) (m_OPERATORS_4 : PySem.W.nsIn K a_OPERATORS (PySem.Str.ofString "starts") = some none) (m_OPERATORS_5 : PySem.W.nsIn K a_OPERATORS (PySem.Str.ofString "coalesce") = some none) (m_OPERATORS_6 : PySem.W.nsIn K a_OPERATORS (PySem.Str.ofString "if") = some none) (m_OPERATORS_7 : PySem.W.nsIn K a_OPERATORS (PySem.Str.ofString "number") = some none) (m_OPERATORS_8 : PySem.W.nsIn K a_OPERATORS (PySem.Str.ofString "text") = some none) (m_OPERATORS_9 : PySem.W.nsIn K a_OPERATORS (PySem.Str.ofString "truth") = some none) (m_OPERATORS_10 : PySem.W.nsIn K a_OPERATORS (PySem.Str.ofString "null") = some none) (m_OPERATORS_11 : PySem.W.nsIn K a_OPERATORS (PySem.Str.ofString "name") = some none) (m_OPERATORS_12 : PySem.W.nsIn K a_OPERATORS (PySem.Str.ofString "field") = some none) {tk_NOT : Tok} (w_NOT : PySem.W.nsIn K mainGlobals "NOT" = some (some (.int 3 tk_NOT))) {tk_CLOSEST : Tok} (w_CLOSEST : PySem.W.nsIn K mainGlobals "CLOSEST" = some (some (.int 7 tk_CLOSEST))) {a_FUNCTIONS : Addr} {dd_FUNCTIONS : Option Addr} {n_FUNCTIONS : Nat} {sl_FUNCTIONS : Array (Option Value)} {tk_FUNCTIONS_0 tk_FUNCTIONS_1 tk_FUNCTIONS_2 tk_FUNCTIONS_3 tk_FUNCTIONS_4 : Tok} (w_FUNCTIONS : PySem.W.nsIn K mainGlobals "FUNCTIONS" = some (some (.ref a_FUNCTIONS))) (v_FUNCTIONS : K.lookup a_FUNCTIONS = some ⟨.type "tuple", dd_FUNCTIONS, .seq #[.str (PySem.Str.ofString "missing") tk_FUNCTIONS_0, .str (PySem.Str.ofString "length") tk_FUNCTIONS_1, .str (PySem.Str.ofString "starts") tk_FUNCTIONS_2, .str (PySem.Str.ofString "coalesce") tk_FUNCTIONS_3, .str (PySem.Str.ofString "if") tk_FUNCTIONS_4] n_FUNCTIONS, sl_FUNCTIONS⟩) (z_abs : PySem.W.nsIn K mainGlobals "abs" = some none) (z_int : PySem.W.nsIn K mainGlobals "int" = some none) (z_isinstance : PySem.W.nsIn K mainGlobals "isinstance" = some none) (z_len : PySem.W.nsIn K mainGlobals "len" = some none) (z_list : PySem.W.nsIn K mainGlobals "list" = some none) (z_range : PySem.W.nsIn K mainGlobals "range" = some none) (z_str : PySem.W.nsIn K mainGlobals "str" = some none) :
    ∃ fd : FuncData, (∀ (s : Shared) (v : Value), BindsTo s fd ⟨[v], []⟩ [("script", v)]) ∧ ∀ base : Heap, K.In base → base.Ns mainGlobals mg → FnOk l.prog w K mg base CX0 28 fa fd ["script"] (sp_law K) := by
  have e := hfa.symm.trans (PySem.W.mg_of X G a40)
  cases e
  have F_print_expression := fun_mk (st := s_print_expression) l0 c0 k0
  have b_print_expression := F_print_expression.binds (ps := ["expression"]) fun _ _ _ _ _ _ us hl => match us, hl with | [_], _ => rfl
  have g_print_expression := PySem.W.mg_of X G a0
  have F_print_query := fun_mk (st := s_print_query) l1 c1 k1
  have b_print_query := F_print_query.binds (ps := ["query"]) fun _ _ _ _ _ _ us hl => match us, hl with | [_], _ => rfl
  have g_print_query := PySem.W.mg_of X G a1
  have F_print_source := fun_mk (st := s_print_source) l2 c2 k2
  have b_print_source := F_print_source.binds (ps := ["items"]) fun _ _ _ _ _ _ us hl => match us, hl with | [_], _ => rfl
  have g_print_source := PySem.W.mg_of X G a2
  have F_inner_text := fun_mk (st := s_inner_text) l3 c3 k3
  have b_inner_text := F_inner_text.binds (ps := ["expression", "least"]) fun _ _ _ _ _ _ us hl => match us, hl with | [_, _], _ => rfl
  have g_inner_text := PySem.W.mg_of X G a3
  have F_closeness := fun_mk (st := s_closeness) l4 c4 k4
  have b_closeness := F_closeness.binds (ps := ["expression"]) fun _ _ _ _ _ _ us hl => match us, hl with | [_], _ => rfl
  have g_closeness := PySem.W.mg_of X G a4
  have F_leaf_text := fun_mk (st := s_leaf_text) l5 c5 k5
  have b_leaf_text := F_leaf_text.binds (ps := ["expression"]) fun _ _ _ _ _ _ us hl => match us, hl with | [_], _ => rfl
  have g_leaf_text := PySem.W.mg_of X G a5
  have F_item_text := fun_mk (st := s_item_text) l6 c6 k6
  have b_item_text := F_item_text.binds (ps := ["item"]) fun _ _ _ _ _ _ us hl => match us, hl with | [_], _ => rfl
  have g_item_text := PySem.W.mg_of X G a6
  have F_query_lines := fun_mk (st := s_query_lines) l7 c7 k7
  have b_query_lines := F_query_lines.binds (ps := ["query"]) fun _ _ _ _ _ _ us hl => match us, hl with | [_], _ => rfl
  have g_query_lines := PySem.W.mg_of X G a7
  have F_operand_text := fun_mk (st := s_operand_text) l8 c8 k8
  have b_operand_text := F_operand_text.binds (ps := ["operand"]) fun _ _ _ _ _ _ us hl => match us, hl with | [_], _ => rfl
  have g_operand_text := PySem.W.mg_of X G a8
  have F_stage_text := fun_mk (st := s_stage_text) l9 c9 k9
  have b_stage_text := F_stage_text.binds (ps := ["stage"]) fun _ _ _ _ _ _ us hl => match us, hl with | [_], _ => rfl
  have g_stage_text := PySem.W.mg_of X G a9
  have F_join_text := fun_mk (st := s_join_text) l10 c10 k10
  have b_join_text := F_join_text.binds (ps := ["stage"]) fun _ _ _ _ _ _ us hl => match us, hl with | [_], _ => rfl
  have g_join_text := PySem.W.mg_of X G a10
  have F_group_text := fun_mk (st := s_group_text) l11 c11 k11
  have b_group_text := F_group_text.binds (ps := ["stage"]) fun _ _ _ _ _ _ us hl => match us, hl with | [_], _ => rfl
  have g_group_text := PySem.W.mg_of X G a11
  have F_outputs_text := fun_mk (st := s_outputs_text) l12 c12 k12
  have b_outputs_text := F_outputs_text.binds (ps := ["outputs"]) fun _ _ _ _ _ _ us hl => match us, hl with | [_], _ => rfl
  have g_outputs_text := PySem.W.mg_of X G a12
  have F_output_text := fun_mk (st := s_output_text) l13 c13 k13
  have b_output_text := F_output_text.binds (ps := ["output"]) fun _ _ _ _ _ _ us hl => match us, hl with | [_], _ => rfl
  have g_output_text := PySem.W.mg_of X G a13
  have F_form_text := fun_mk (st := s_form_text) l14 c14 k14
  have b_form_text := F_form_text.binds (ps := ["form"]) fun _ _ _ _ _ _ us hl => match us, hl with | [_], _ => rfl
  have g_form_text := PySem.W.mg_of X G a14
  have F__law_draw := fun_mk (st := s__law_draw) l15 c15 k15
  have b__law_draw := F__law_draw.binds (ps := ["script"]) fun _ _ _ _ _ _ us hl => match us, hl with | [_], _ => rfl
  have g__law_draw := PySem.W.mg_of X G a15
  have F__law_next := fun_mk (st := s__law_next) l16 c16 k16
  have b__law_next := F__law_next.binds (ps := ["draw", "many"]) fun _ _ _ _ _ _ us hl => match us, hl with | [_, _], _ => rfl
  have g__law_next := PySem.W.mg_of X G a16
  have F__law_reserved := fun_mk (st := s__law_reserved) l17 c17 k17
  have b__law_reserved := F__law_reserved.binds (ps := []) fun _ _ _ _ _ _ us hl => match us, hl with | [], _ => rfl
  have g__law_reserved := PySem.W.mg_of X G a17
  have F__law_name := fun_mk (st := s__law_name) l18 c18 k18
  have b__law_name := F__law_name.binds (ps := ["draw"]) fun _ _ _ _ _ _ us hl => match us, hl with | [_], _ => rfl
  have g__law_name := PySem.W.mg_of X G a18
  have F__law_string := fun_mk (st := s__law_string) l19 c19 k19
  have b__law_string := F__law_string.binds (ps := ["draw"]) fun _ _ _ _ _ _ us hl => match us, hl with | [_], _ => rfl
  have g__law_string := PySem.W.mg_of X G a19
  have F__law_quoted := fun_mk (st := s__law_quoted) l20 c20 k20
  have b__law_quoted := F__law_quoted.binds (ps := ["value"]) fun _ _ _ _ _ _ us hl => match us, hl with | [_], _ => rfl
  have g__law_quoted := PySem.W.mg_of X G a20
  have F__law_number := fun_mk (st := s__law_number) l21 c21 k21
  have b__law_number := F__law_number.binds (ps := ["draw"]) fun _ _ _ _ _ _ us hl => match us, hl with | [_], _ => rfl
  have g__law_number := PySem.W.mg_of X G a21
  have F__law_signs := fun_mk (st := s__law_signs) l22 c22 k22
  have b__law_signs := F__law_signs.binds (ps := []) fun _ _ _ _ _ _ us hl => match us, hl with | [], _ => rfl
  have g__law_signs := PySem.W.mg_of X G a22
  have F__law_leaf := fun_mk (st := s__law_leaf) l23 c23 k23
  have b__law_leaf := F__law_leaf.binds (ps := ["draw"]) fun _ _ _ _ _ _ us hl => match us, hl with | [_], _ => rfl
  have g__law_leaf := PySem.W.mg_of X G a23
  have F__law_expression := fun_mk (st := s__law_expression) l24 c24 k24
  have b__law_expression := F__law_expression.binds (ps := ["draw", "depth"]) fun _ _ _ _ _ _ us hl => match us, hl with | [_, _], _ => rfl
  have g__law_expression := PySem.W.mg_of X G a24
  have F__law_level := fun_mk (st := s__law_level) l25 c25 k25
  have b__law_level := F__law_level.binds (ps := ["expression"]) fun _ _ _ _ _ _ us hl => match us, hl with | [_], _ => rfl
  have g__law_level := PySem.W.mg_of X G a25
  have F__law_print_atom := fun_mk (st := s__law_print_atom) l26 c26 k26
  have b__law_print_atom := F__law_print_atom.binds (ps := ["expression"]) fun _ _ _ _ _ _ us hl => match us, hl with | [_], _ => rfl
  have g__law_print_atom := PySem.W.mg_of X G a26
  have F__law_print := fun_mk (st := s__law_print) l27 c27 k27
  have b__law_print := F__law_print.binds (ps := ["expression", "wanted"]) fun _ _ _ _ _ _ us hl => match us, hl with | [_, _], _ => rfl
  have g__law_print := PySem.W.mg_of X G a27
  have F__law_outputs := fun_mk (st := s__law_outputs) l28 c28 k28
  have b__law_outputs := F__law_outputs.binds (ps := ["draw", "depth"]) fun _ _ _ _ _ _ us hl => match us, hl with | [_, _], _ => rfl
  have g__law_outputs := PySem.W.mg_of X G a28
  have F__law_totals := fun_mk (st := s__law_totals) l29 c29 k29
  have b__law_totals := F__law_totals.binds (ps := ["draw", "depth"]) fun _ _ _ _ _ _ us hl => match us, hl with | [_, _], _ => rfl
  have g__law_totals := PySem.W.mg_of X G a29
  have F__law_operand := fun_mk (st := s__law_operand) l30 c30 k30
  have b__law_operand := F__law_operand.binds (ps := ["draw", "inside", "depth"]) fun _ _ _ _ _ _ us hl => match us, hl with | [_, _, _], _ => rfl
  have g__law_operand := PySem.W.mg_of X G a30
  have F__law_stage := fun_mk (st := s__law_stage) l31 c31 k31
  have b__law_stage := F__law_stage.binds (ps := ["draw", "inside", "depth"]) fun _ _ _ _ _ _ us hl => match us, hl with | [_, _, _], _ => rfl
  have g__law_stage := PySem.W.mg_of X G a31
  have F__law_query := fun_mk (st := s__law_query) l32 c32 k32
  have b__law_query := F__law_query.binds (ps := ["draw", "inside", "depth"]) fun _ _ _ _ _ _ us hl => match us, hl with | [_, _, _], _ => rfl
  have g__law_query := PySem.W.mg_of X G a32
  have F__law_print_output := fun_mk (st := s__law_print_output) l33 c33 k33
  have b__law_print_output := F__law_print_output.binds (ps := ["output"]) fun _ _ _ _ _ _ us hl => match us, hl with | [_], _ => rfl
  have g__law_print_output := PySem.W.mg_of X G a33
  have F__law_print_total := fun_mk (st := s__law_print_total) l34 c34 k34
  have b__law_print_total := F__law_print_total.binds (ps := ["total"]) fun _ _ _ _ _ _ us hl => match us, hl with | [_], _ => rfl
  have g__law_print_total := PySem.W.mg_of X G a34
  have F__law_print_operand := fun_mk (st := s__law_print_operand) l35 c35 k35
  have b__law_print_operand := F__law_print_operand.binds (ps := ["operand"]) fun _ _ _ _ _ _ us hl => match us, hl with | [_], _ => rfl
  have g__law_print_operand := PySem.W.mg_of X G a35
  have F__law_print_stage := fun_mk (st := s__law_print_stage) l36 c36 k36
  have b__law_print_stage := F__law_print_stage.binds (ps := ["stage"]) fun _ _ _ _ _ _ us hl => match us, hl with | [_], _ => rfl
  have g__law_print_stage := PySem.W.mg_of X G a36
  have F__law_print_query := fun_mk (st := s__law_print_query) l37 c37 k37
  have b__law_print_query := F__law_print_query.binds (ps := ["query", "gap"]) fun _ _ _ _ _ _ us hl => match us, hl with | [_, _], _ => rfl
  have g__law_print_query := PySem.W.mg_of X G a37
  have F__law_items := fun_mk (st := s__law_items) l38 c38 k38
  have b__law_items := F__law_items.binds (ps := ["draw", "inside", "depth"]) fun _ _ _ _ _ _ us hl => match us, hl with | [_, _, _], _ => rfl
  have g__law_items := PySem.W.mg_of X G a38
  have F__law_print_item := fun_mk (st := s__law_print_item) l39 c39 k39
  have b__law_print_item := F__law_print_item.binds (ps := ["item"]) fun _ _ _ _ _ _ us hl => match us, hl with | [_], _ => rfl
  have g__law_print_item := PySem.W.mg_of X G a39
  have F_law := fun_mk (st := s_law) l40 c40 k40
  have M : Mg mg := ⟨PySem.W.mg_none_of X G z_abs, PySem.W.mg_none_of X G z_int, PySem.W.mg_none_of X G z_isinstance, PySem.W.mg_none_of X G z_len, PySem.W.mg_none_of X G z_list, PySem.W.mg_none_of X G z_range, PySem.W.mg_none_of X G z_str⟩
  exact ⟨PySem.W.fnOf "law" "law" (defArgs s_law) (defBody s_law) (defScope s_law) .none kV40 dc40 pm40 an40 cd40 ct40, fun s v => .of_eq rfl, fun base _ _ => by
  have GG : Gl K w mg a_OPERATORS a_FUNCTIONS es_OPERATORS n_OPERATORS := by
    refine ⟨⟨_, PySem.W.mg_of X G w_OPERATORS, rfl⟩, ⟨_, PySem.W.mg_of X G w_FUNCTIONS, rfl⟩, ⟨_, PySem.W.mg_of X G w_NOT, _, rfl⟩, ⟨_, PySem.W.mg_of X G w_CLOSEST, _, rfl⟩,
      fun H => .inr ⟨_, _, _, v_FUNCTIONS, rfl, rfl, by show 5 ≤ sizeLine; decide, .cons ⟨_, rfl⟩ (.cons ⟨_, rfl⟩ (.cons ⟨_, rfl⟩ (.cons ⟨_, rfl⟩ (.cons ⟨_, rfl⟩ .nil))))⟩, ?_, fun o => ?_, fun x hx => ?_⟩
    · exact ⟨v_OPERATORS, k_OPERATORS, lo_OPERATORS⟩
    · cases o with
      | or => exact ⟨_, w_OPERATORS_0, fun H => .inr ⟨_, _, _, v_OPERATORS_0, rfl, rfl, by show 3 ≤ sizeLine; decide, .cons ⟨_, rfl⟩ (.cons ⟨_, rfl⟩ (.cons ⟨_, rfl⟩ .nil))⟩⟩
      | and => exact ⟨_, w_OPERATORS_1, fun H => .inr ⟨_, _, _, v_OPERATORS_1, rfl, rfl, by show 3 ≤ sizeLine; decide, .cons ⟨_, rfl⟩ (.cons ⟨_, rfl⟩ (.cons ⟨_, rfl⟩ .nil))⟩⟩
      | lt => exact ⟨_, w_OPERATORS_2, fun H => .inr ⟨_, _, _, v_OPERATORS_2, rfl, rfl, by show 3 ≤ sizeLine; decide, .cons ⟨_, rfl⟩ (.cons ⟨_, rfl⟩ (.cons ⟨_, rfl⟩ .nil))⟩⟩
      | le => exact ⟨_, w_OPERATORS_3, fun H => .inr ⟨_, _, _, v_OPERATORS_3, rfl, rfl, by show 3 ≤ sizeLine; decide, .cons ⟨_, rfl⟩ (.cons ⟨_, rfl⟩ (.cons ⟨_, rfl⟩ .nil))⟩⟩
      | eq => exact ⟨_, w_OPERATORS_4, fun H => .inr ⟨_, _, _, v_OPERATORS_4, rfl, rfl, by show 3 ≤ sizeLine; decide, .cons ⟨_, rfl⟩ (.cons ⟨_, rfl⟩ (.cons ⟨_, rfl⟩ .nil))⟩⟩
      | ne => exact ⟨_, w_OPERATORS_5, fun H => .inr ⟨_, _, _, v_OPERATORS_5, rfl, rfl, by show 3 ≤ sizeLine; decide, .cons ⟨_, rfl⟩ (.cons ⟨_, rfl⟩ (.cons ⟨_, rfl⟩ .nil))⟩⟩
      | ge => exact ⟨_, w_OPERATORS_6, fun H => .inr ⟨_, _, _, v_OPERATORS_6, rfl, rfl, by show 3 ≤ sizeLine; decide, .cons ⟨_, rfl⟩ (.cons ⟨_, rfl⟩ (.cons ⟨_, rfl⟩ .nil))⟩⟩
      | gt => exact ⟨_, w_OPERATORS_7, fun H => .inr ⟨_, _, _, v_OPERATORS_7, rfl, rfl, by show 3 ≤ sizeLine; decide, .cons ⟨_, rfl⟩ (.cons ⟨_, rfl⟩ (.cons ⟨_, rfl⟩ .nil))⟩⟩
      | add => exact ⟨_, w_OPERATORS_8, fun H => .inr ⟨_, _, _, v_OPERATORS_8, rfl, rfl, by show 3 ≤ sizeLine; decide, .cons ⟨_, rfl⟩ (.cons ⟨_, rfl⟩ (.cons ⟨_, rfl⟩ .nil))⟩⟩
      | sub => exact ⟨_, w_OPERATORS_9, fun H => .inr ⟨_, _, _, v_OPERATORS_9, rfl, rfl, by show 3 ≤ sizeLine; decide, .cons ⟨_, rfl⟩ (.cons ⟨_, rfl⟩ (.cons ⟨_, rfl⟩ .nil))⟩⟩
      | mul => exact ⟨_, w_OPERATORS_10, fun H => .inr ⟨_, _, _, v_OPERATORS_10, rfl, rfl, by show 3 ≤ sizeLine; decide, .cons ⟨_, rfl⟩ (.cons ⟨_, rfl⟩ (.cons ⟨_, rfl⟩ .nil))⟩⟩
      | div => exact ⟨_, w_OPERATORS_11, fun H => .inr ⟨_, _, _, v_OPERATORS_11, rfl, rfl, by show 3 ≤ sizeLine; decide, .cons ⟨_, rfl⟩ (.cons ⟨_, rfl⟩ (.cons ⟨_, rfl⟩ .nil))⟩⟩
      | mod => exact ⟨_, w_OPERATORS_12, fun H => .inr ⟨_, _, _, v_OPERATORS_12, rfl, rfl, by show 3 ≤ sizeLine; decide, .cons ⟨_, rfl⟩ (.cons ⟨_, rfl⟩ (.cons ⟨_, rfl⟩ .nil))⟩⟩
    · simp only [List.mem_cons, List.not_mem_nil, or_false] at hx
      rcases hx with rfl | rfl | rfl | rfl | rfl | rfl | rfl | rfl | rfl | rfl | rfl | rfl | rfl
      · exact m_OPERATORS_0
      · exact m_OPERATORS_1
      · exact m_OPERATORS_2
      · exact m_OPERATORS_3
      · exact m_OPERATORS_4
      · exact m_OPERATORS_5
      · exact m_OPERATORS_6
      · exact m_OPERATORS_7
      · exact m_OPERATORS_8
      · exact m_OPERATORS_9
      · exact m_OPERATORS_10
      · exact m_OPERATORS_11
      · exact m_OPERATORS_12
  have N := FnOk.cl (P := l.prog) (w := w) (base := base) (ok_next F__law_next M) F__law_next g__law_next b__law_next
  have RE := FnOk.cl (P := l.prog) (w := w) (base := base) (mg := mg) (ok_res F__law_reserved) F__law_reserved g__law_reserved b__law_reserved
  have NA := FnOk.cl (ok_name F__law_name M N RE) F__law_name g__law_name b__law_name
  have NU := FnOk.cl (ok_number F__law_number M N) F__law_number g__law_number b__law_number
  have ST := FnOk.cl (ok_string F__law_string M N) F__law_string g__law_string b__law_string
  have QU := FnOk.cl (P := l.prog) (w := w) (base := base) (mg := mg) (ok_quoted F__law_quoted) F__law_quoted g__law_quoted b__law_quoted
  have SG := FnOk.cl (P := l.prog) (w := w) (base := base) (mg := mg) (ok_signs F__law_signs) F__law_signs g__law_signs b__law_signs
  have LF := FnOk.cl (ok_lleaf F__law_leaf M N NA NU ST) F__law_leaf g__law_leaf b__law_leaf
  have LX := cl_lex F__law_expression M g__law_expression b__law_expression N SG LF 3
  have LV := FnOk.cl (P := l.prog) (w := w) (base := base) (ok_level F__law_level M) F__law_level g__law_level b__law_level
  have LP := cl_lpr F__law_print F__law_print_atom M g__law_print b__law_print g__law_print_atom b__law_print_atom LV QU 3
  have CL := FnOk.cl (P := l.prog) (w := w) (base := base) (ok_close F_closeness GG) F_closeness g_closeness b_closeness
  have LE := FnOk.cl (P := l.prog) (w := w) (base := base) (ok_leaf F_leaf_text M) F_leaf_text g_leaf_text b_leaf_text
  have PR := cl_pr F_print_expression F_inner_text M GG g_print_expression b_print_expression g_inner_text b_inner_text LE CL 3
  have OUT := FnOk.cl (ok_out F_output_text M PR) F_output_text g_output_text b_output_text
  have OUTS := FnOk.cl (ok_outs F_outputs_text M OUT) F_outputs_text g_outputs_text b_outputs_text
  have FORM := FnOk.cl (ok_form F_form_text M PR) F_form_text g_form_text b_form_text
  have GRP := FnOk.cl (ok_group F_group_text M OUTS FORM) F_group_text g_group_text b_group_text
  have QL := cl_ql3 F_print_query F_operand_text F_join_text F_stage_text F_query_lines M g_print_query b_print_query g_operand_text b_operand_text g_join_text b_join_text g_stage_text b_stage_text g_query_lines b_query_lines GRP OUTS PR
  have IT := FnOk.cl (ok_it F_item_text M QL) F_item_text g_item_text b_item_text
  have SRC := FnOk.cl (ok_src F_print_source M IT) F_print_source g_print_source b_print_source
  have LO := FnOk.cl (ok_louts F__law_outputs M N NA LX) F__law_outputs g__law_outputs b__law_outputs
  have LT := FnOk.cl (ok_ltots F__law_totals M N NA LX) F__law_totals g__law_totals b__law_totals
  have LQ := cl_lq F__law_query F__law_operand F__law_stage M g__law_query b__law_query g__law_operand b__law_operand g__law_stage b__law_stage N NA LX LO LT 3
  have LPO := FnOk.cl (ok_lpo F__law_print_output M LP) F__law_print_output g__law_print_output b__law_print_output
  have LPT := FnOk.cl (ok_lpt F__law_print_total M LP) F__law_print_total g__law_print_total b__law_print_total
  have LPQ := cl_lpq F__law_print_query F__law_print_operand F__law_print_stage M g__law_print_query b__law_print_query g__law_print_operand b__law_print_operand g__law_print_stage b__law_print_stage LPO LPT LP 3
  have LI := FnOk.cl (ok_lits F__law_items M N NA LQ) F__law_items g__law_items b__law_items
  have LPI := FnOk.cl (ok_lpi F__law_print_item M LPQ) F__law_print_item g__law_print_item b__law_print_item
  exact ok_law F_law M (FnOk.cl (ok_draw F__law_draw M) F__law_draw g__law_draw b__law_draw) N LI SRC LPI⟩
end Lw
open PySem PySem.W PyProof.Rows
set_option maxHeartbeats 0 in
theorem PySem.Challenge.cw_lineworks_k09_sources_are_printed_holds : PySem.Challenge.rw_lineworks_k09_sources_are_printed.Holds := by
  w_on; o_law; k_head; (case hw => w_witness2)
  k_fill
  refine L2.walk_of (l := PySem.Challenge.rw_lineworks_k09_sources_are_printed) (n := 63) (k := 28) (x := "script") (CX := fun _ => L2.CX0) (sp := fun w => Lw.sp_law _) rfl (by decide) rfl ⟨rfl, by decide, by decide⟩ (fun w h Y => PySem.W.kIn_of Y) ?F (fun _ _ a ns hl _ hS => ⟨a, ns, rfl, hS, hl, fun _ => rfl⟩) (fun _ _ _ _ _ h => h)
  case F =>
    intro w mg fa h KX G hmg
    refine' Lw.all_mk KX G hmg ?a0 ?l0 ?c0 ?k0 ?a1 ?l1 ?c1 ?k1 ?a2 ?l2 ?c2 ?k2 ?a3 ?l3 ?c3 ?k3 ?a4 ?l4 ?c4 ?k4 ?a5 ?l5 ?c5 ?k5 ?a6 ?l6 ?c6 ?k6 ?a7 ?l7 ?c7 ?k7 ?a8 ?l8 ?c8 ?k8 ?a9 ?l9 ?c9 ?k9 ?a10 ?l10 ?c10 ?k10 ?a11 ?l11 ?c11 ?k11 ?a12 ?l12 ?c12 ?k12 ?a13 ?l13 ?c13 ?k13 ?a14 ?l14 ?c14 ?k14 ?a15 ?l15 ?c15 ?k15 ?a16 ?l16 ?c16 ?k16 ?a17 ?l17 ?c17 ?k17 ?a18 ?l18 ?c18 ?k18 ?a19 ?l19 ?c19 ?k19 ?a20 ?l20 ?c20 ?k20 ?a21 ?l21 ?c21 ?k21 ?a22 ?l22 ?c22 ?k22 ?a23 ?l23 ?c23 ?k23 ?a24 ?l24 ?c24 ?k24 ?a25 ?l25 ?c25 ?k25 ?a26 ?l26 ?c26 ?k26 ?a27 ?l27 ?c27 ?k27 ?a28 ?l28 ?c28 ?k28 ?a29 ?l29 ?c29 ?k29 ?a30 ?l30 ?c30 ?k30 ?a31 ?l31 ?c31 ?k31 ?a32 ?l32 ?c32 ?k32 ?a33 ?l33 ?c33 ?k33 ?a34 ?l34 ?c34 ?k34 ?a35 ?l35 ?c35 ?k35 ?a36 ?l36 ?c36 ?k36 ?a37 ?l37 ?c37 ?k37 ?a38 ?l38 ?c38 ?k38 ?a39 ?l39 ?c39 ?k39 ?a40 ?l40 ?c40 ?k40 ?w_OPERATORS ?v_OPERATORS ?k_OPERATORS ?lo_OPERATORS ?w_OPERATORS_0 ?v_OPERATORS_0 ?w_OPERATORS_1 ?v_OPERATORS_1 ?w_OPERATORS_2 ?v_OPERATORS_2 ?w_OPERATORS_3 ?v_OPERATORS_3 ?w_OPERATORS_4 ?v_OPERATORS_4 ?w_OPERATORS_5 ?v_OPERATORS_5 ?w_OPERATORS_6 ?v_OPERATORS_6 ?w_OPERATORS_7 ?v_OPERATORS_7 ?w_OPERATORS_8 ?v_OPERATORS_8 ?w_OPERATORS_9 ?v_OPERATORS_9 ?w_OPERATORS_10 ?v_OPERATORS_10 ?w_OPERATORS_11 ?v_OPERATORS_11 ?w_OPERATORS_12 ?v_OPERATORS_12 ?m_OPERATORS_0 ?m_OPERATORS_1 ?m_OPERATORS_2 ?m_OPERATORS_3 ?m_OPERATORS_4 ?m_OPERATORS_5 ?m_OPERATORS_6 ?m_OPERATORS_7 ?m_OPERATORS_8 ?m_OPERATORS_9 ?m_OPERATORS_10 ?m_OPERATORS_11 ?m_OPERATORS_12 ?w_NOT ?w_CLOSEST ?w_FUNCTIONS ?v_FUNCTIONS ?z_abs ?z_int ?z_isinstance ?z_len ?z_list ?z_range ?z_str
    (case a0 => k_is); (case l0 => k_is); (case c0 => k_is); (case k0 => k_is)
    (case a1 => k_is); (case l1 => k_is); (case c1 => k_is); (case k1 => k_is)
    (case a2 => k_is); (case l2 => k_is); (case c2 => k_is); (case k2 => k_is)
    (case a3 => k_is); (case l3 => k_is); (case c3 => k_is); (case k3 => k_is)
    (case a4 => k_is); (case l4 => k_is); (case c4 => k_is); (case k4 => k_is)
    (case a5 => k_is); (case l5 => k_is); (case c5 => k_is); (case k5 => k_is)
    (case a6 => k_is); (case l6 => k_is); (case c6 => k_is); (case k6 => k_is)
    (case a7 => k_is); (case l7 => k_is); (case c7 => k_is); (case k7 => k_is)
    (case a8 => k_is); (case l8 => k_is); (case c8 => k_is); (case k8 => k_is)
    (case a9 => k_is); (case l9 => k_is); (case c9 => k_is); (case k9 => k_is)
    (case a10 => k_is); (case l10 => k_is); (case c10 => k_is); (case k10 => k_is)
    (case a11 => k_is); (case l11 => k_is); (case c11 => k_is); (case k11 => k_is)
    (case a12 => k_is); (case l12 => k_is); (case c12 => k_is); (case k12 => k_is)
    (case a13 => k_is); (case l13 => k_is); (case c13 => k_is); (case k13 => k_is)
    (case a14 => k_is); (case l14 => k_is); (case c14 => k_is); (case k14 => k_is)
    (case a15 => k_is); (case l15 => k_is); (case c15 => k_is); (case k15 => k_is)
    (case a16 => k_is); (case l16 => k_is); (case c16 => k_is); (case k16 => k_is)
    (case a17 => k_is); (case l17 => k_is); (case c17 => k_is); (case k17 => k_is)
    (case a18 => k_is); (case l18 => k_is); (case c18 => k_is); (case k18 => k_is)
    (case a19 => k_is); (case l19 => k_is); (case c19 => k_is); (case k19 => k_is)
    (case a20 => k_is); (case l20 => k_is); (case c20 => k_is); (case k20 => k_is)
    (case a21 => k_is); (case l21 => k_is); (case c21 => k_is); (case k21 => k_is)
    (case a22 => k_is); (case l22 => k_is); (case c22 => k_is); (case k22 => k_is)
    (case a23 => k_is); (case l23 => k_is); (case c23 => k_is); (case k23 => k_is)
    (case a24 => k_is); (case l24 => k_is); (case c24 => k_is); (case k24 => k_is)
    (case a25 => k_is); (case l25 => k_is); (case c25 => k_is); (case k25 => k_is)
    (case a26 => k_is); (case l26 => k_is); (case c26 => k_is); (case k26 => k_is)
    (case a27 => k_is); (case l27 => k_is); (case c27 => k_is); (case k27 => k_is)
    (case a28 => k_is); (case l28 => k_is); (case c28 => k_is); (case k28 => k_is)
    (case a29 => k_is); (case l29 => k_is); (case c29 => k_is); (case k29 => k_is)
    (case a30 => k_is); (case l30 => k_is); (case c30 => k_is); (case k30 => k_is)
    (case a31 => k_is); (case l31 => k_is); (case c31 => k_is); (case k31 => k_is)
    (case a32 => k_is); (case l32 => k_is); (case c32 => k_is); (case k32 => k_is)
    (case a33 => k_is); (case l33 => k_is); (case c33 => k_is); (case k33 => k_is)
    (case a34 => k_is); (case l34 => k_is); (case c34 => k_is); (case k34 => k_is)
    (case a35 => k_is); (case l35 => k_is); (case c35 => k_is); (case k35 => k_is)
    (case a36 => k_is); (case l36 => k_is); (case c36 => k_is); (case k36 => k_is)
    (case a37 => k_is); (case l37 => k_is); (case c37 => k_is); (case k37 => k_is)
    (case a38 => k_is); (case l38 => k_is); (case c38 => k_is); (case k38 => k_is)
    (case a39 => k_is); (case l39 => k_is); (case c39 => k_is); (case k39 => k_is)
    (case a40 => k_is); (case l40 => k_is); (case c40 => k_is); (case k40 => k_is)
    (case w_OPERATORS => k_is)
    (case v_OPERATORS => k_is)
    (case k_OPERATORS => k_keys)
    (case lo_OPERATORS => first | rfl | decide | decide +kernel)
    (case w_OPERATORS_0 => k_is)
    (case v_OPERATORS_0 => k_is)
    (case w_OPERATORS_1 => k_is)
    (case v_OPERATORS_1 => k_is)
    (case w_OPERATORS_2 => k_is)
    (case v_OPERATORS_2 => k_is)
    (case w_OPERATORS_3 => k_is)
    (case v_OPERATORS_3 => k_is)
    (case w_OPERATORS_4 => k_is)
    (case v_OPERATORS_4 => k_is)
    (case w_OPERATORS_5 => k_is)
    (case v_OPERATORS_5 => k_is)
    (case w_OPERATORS_6 => k_is)
    (case v_OPERATORS_6 => k_is)
    (case w_OPERATORS_7 => k_is)
    (case v_OPERATORS_7 => k_is)
    (case w_OPERATORS_8 => k_is)
    (case v_OPERATORS_8 => k_is)
    (case w_OPERATORS_9 => k_is)
    (case v_OPERATORS_9 => k_is)
    (case w_OPERATORS_10 => k_is)
    (case v_OPERATORS_10 => k_is)
    (case w_OPERATORS_11 => k_is)
    (case v_OPERATORS_11 => k_is)
    (case w_OPERATORS_12 => k_is)
    (case v_OPERATORS_12 => k_is)
    (case m_OPERATORS_0 => k_is)
    (case m_OPERATORS_1 => k_is)
    (case m_OPERATORS_2 => k_is)
    (case m_OPERATORS_3 => k_is)
    (case m_OPERATORS_4 => k_is)
    (case m_OPERATORS_5 => k_is)
    (case m_OPERATORS_6 => k_is)
    (case m_OPERATORS_7 => k_is)
    (case m_OPERATORS_8 => k_is)
    (case m_OPERATORS_9 => k_is)
    (case m_OPERATORS_10 => k_is)
    (case m_OPERATORS_11 => k_is)
    (case m_OPERATORS_12 => k_is)
    (case w_NOT => k_is)
    (case w_CLOSEST => k_is)
    (case w_FUNCTIONS => k_is)
    (case v_FUNCTIONS => k_is)
    (case z_abs => k_is); (case z_int => k_is); (case z_isinstance => k_is); (case z_len => k_is); (case z_list => k_is); (case z_range => k_is); (case z_str => k_is)

