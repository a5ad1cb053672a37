import PyProof.Rows.All
import Wide.All
import OpenK.AllK
import Wide.FinOn
import HandS.ForMost
import HandS.Wide
import HandS.IsInst
import HandS.Codes
import HandS.More
import HandS.Star
import HandS.Deep
import HandS.Iter
import HandS.Strs
import HandS.StrMore
import HandS.FStr
import HandS.Nested
import HandS.Dict
import HandS.Exc
import HandS.ExcInit
import HandS.ExcField
import HandS.ExcOwn
import HandS.ExcIs
import HandS.WordsExc
import KE.LtSeq
import KE.LtData
import KE.DataCmp
import KE.KExcSuper
import KE.KSuper
import KE.KSuperObj
import KE.KExcMake
import KE.GoesComp
import PySem.Challenge.RW_lineworks_k12_expressions_are_compiled
set_option Elab.async false
set_option linter.all false
set_option maxRecDepth 100000
namespace Lw
open PySem PySem.Spec PyProof.Rows L2
def topS (i : Nat) : Stmt := PySem.Challenge.pw_lineworks_k12_expressions_are_compiled.main.body.getD i (.Pass ⟨0, 0, 0, 0⟩)
abbrev s_Problem___init__ : Stmt := inClass (topS 2) 0
abbrev s_compile_expression : Stmt := topS 10
abbrev N_compile_expression : List Str := ["columns", "expression", "plain", "kind", "size"]
theorem sc_compile_expression : FnScope N_compile_expression ["columns", "expression"] (defScope s_compile_expression) := ⟨rfl, rfl, rfl, by decide +kernel, rfl, by decide +kernel, by decide +kernel⟩
abbrev s_expect_kind : Stmt := topS 11
abbrev N_expect_kind : List Str := ["kind", "expected"]
theorem sc_expect_kind : FnScope N_expect_kind ["kind", "expected"] (defScope s_expect_kind) := ⟨rfl, rfl, rfl, by decide +kernel, rfl, by decide +kernel, by decide +kernel⟩
abbrev s_written_out : Stmt := topS 12
abbrev N_written_out : List Str := ["columns", "expression", "word", "operands", "result", "form", "part", "_", "kind", "plain", "size"]
theorem sc_written_out : FnScope N_written_out ["columns", "expression"] (defScope s_written_out) := ⟨rfl, rfl, rfl, by decide +kernel, rfl, by decide +kernel, by decide +kernel⟩
abbrev s_named_column : Stmt := topS 13
abbrev N_named_column : List Str := ["columns", "expression", "told", "places", "_", "kind", "at", "column"]
theorem sc_named_column : FnScope N_named_column ["columns", "expression"] (defScope s_named_column) := ⟨rfl, rfl, rfl, by decide +kernel, rfl, by decide +kernel, by decide +kernel⟩
abbrev s_is_named : Stmt := topS 14
abbrev N_is_named : List Str := ["column", "expression", "source", "name", "_"]
theorem sc_is_named : FnScope N_is_named ["column", "expression"] (defScope s_is_named) := ⟨rfl, rfl, rfl, by decide +kernel, rfl, by decide +kernel, by decide +kernel⟩
abbrev s_result_kind : Stmt := topS 15
abbrev N_result_kind : List Str := ["word", "kinds", "expected", "result", "kind", "common"]
theorem sc_result_kind : FnScope N_result_kind ["word", "kinds"] (defScope s_result_kind) := ⟨rfl, rfl, rfl, by decide +kernel, rfl, by decide +kernel, by decide +kernel⟩
abbrev s_common_kind : Stmt := topS 16
abbrev N_common_kind : List Str := ["first", "second"]
theorem sc_common_kind : FnScope N_common_kind ["first", "second"] (defScope s_common_kind) := ⟨rfl, rfl, rfl, by decide +kernel, rfl, by decide +kernel, by decide +kernel⟩
abbrev s_plain_form : Stmt := topS 17
abbrev N_plain_form : List Str := ["word", "parts", "first", "second"]
theorem sc_plain_form : FnScope N_plain_form ["word", "parts"] (defScope s_plain_form) := ⟨rfl, rfl, rfl, by decide +kernel, rfl, by decide +kernel, by decide +kernel⟩
abbrev s_result_size : Stmt := topS 18
abbrev N_result_size : List Str := ["word", "sizes"]
theorem sc_result_size : FnScope N_result_size ["word", "sizes"] (defScope s_result_size) := ⟨rfl, rfl, rfl, by decide +kernel, rfl, by decide +kernel, by decide +kernel⟩
abbrev s__law_draw : Stmt := topS 20
abbrev N__law_draw : List Str := ["script"]
theorem sc__law_draw : FnScope N__law_draw ["script"] (defScope s__law_draw) := ⟨rfl, rfl, rfl, by decide +kernel, rfl, by decide +kernel, by decide +kernel⟩
abbrev s__law_next : Stmt := topS 21
abbrev N__law_next : List Str := ["draw", "many", "found", "cell"]
theorem sc__law_next : FnScope N__law_next ["draw", "many"] (defScope s__law_next) := ⟨rfl, rfl, rfl, by decide +kernel, rfl, by decide +kernel, by decide +kernel⟩
abbrev s__law_named : Stmt := topS 22
abbrev N__law_named : List Str := ["draw", "columns", "kind", "fitting", "column", "alone", "other"]
theorem sc__law_named : FnScope N__law_named ["draw", "columns", "kind"] (defScope s__law_named) := ⟨rfl, rfl, rfl, by decide +kernel, rfl, by decide +kernel, by decide +kernel⟩
abbrev s__law_constant : Stmt := topS 23
abbrev N__law_constant : List Str := ["draw", "kind"]
theorem sc__law_constant : FnScope N__law_constant ["draw", "kind"] (defScope s__law_constant) := ⟨rfl, rfl, rfl, by decide +kernel, rfl, by decide +kernel, by decide +kernel⟩
abbrev s__law_typed : Stmt := topS 24
abbrev N__law_typed : List Str := ["draw", "columns", "kind", "depth", "form", "first", "test"]
theorem sc__law_typed : FnScope N__law_typed ["draw", "columns", "kind", "depth"] (defScope s__law_typed) := ⟨rfl, rfl, rfl, by decide +kernel, rfl, by decide +kernel, by decide +kernel⟩
abbrev s__law_typed_truth : Stmt := topS 25
abbrev N__law_typed_truth : List Str := ["draw", "columns", "form", "depth", "other", "first", "sign"]
theorem sc__law_typed_truth : FnScope N__law_typed_truth ["draw", "columns", "form", "depth"] (defScope s__law_typed_truth) := ⟨rfl, rfl, rfl, by decide +kernel, rfl, by decide +kernel, by decide +kernel⟩
abbrev s__law_kind : Stmt := topS 26
abbrev N__law_kind : List Str := ["tree", "columns", "word", "column", "first"]
theorem sc__law_kind : FnScope N__law_kind ["tree", "columns"] (defScope s__law_kind) := ⟨rfl, rfl, rfl, by decide +kernel, rfl, by decide +kernel, by decide +kernel⟩
abbrev s__law_key : Stmt := topS 27
abbrev N__law_key : List Str := ["value"]
theorem sc__law_key : FnScope N__law_key ["value"] (defScope s__law_key) := ⟨rfl, rfl, rfl, by decide +kernel, rfl, by decide +kernel, by decide +kernel⟩
abbrev s__law_bounded : Stmt := topS 28
abbrev N__law_bounded : List Str := ["number"]
theorem sc__law_bounded : FnScope N__law_bounded ["number"] (defScope s__law_bounded) := ⟨rfl, rfl, rfl, by decide +kernel, rfl, by decide +kernel, by decide +kernel⟩
abbrev s__law_count : Stmt := topS 29
abbrev N__law_count : List Str := ["word", "first", "second"]
theorem sc__law_count : FnScope N__law_count ["word", "first", "second"] (defScope s__law_count) := ⟨rfl, rfl, rfl, by decide +kernel, rfl, by decide +kernel, by decide +kernel⟩
abbrev s__law_logic : Stmt := topS 30
abbrev N__law_logic : List Str := ["word", "first", "second"]
theorem sc__law_logic : FnScope N__law_logic ["word", "first", "second"] (defScope s__law_logic) := ⟨rfl, rfl, rfl, by decide +kernel, rfl, by decide +kernel, by decide +kernel⟩
abbrev s__law_compare : Stmt := topS 31
abbrev N__law_compare : List Str := ["word", "first", "second", "one", "two", "known"]
theorem sc__law_compare : FnScope N__law_compare ["word", "first", "second"] (defScope s__law_compare) := ⟨rfl, rfl, rfl, by decide +kernel, rfl, by decide +kernel, by decide +kernel⟩
abbrev s__law_value : Stmt := topS 32
abbrev N__law_value : List Str := ["tree", "columns", "row", "word", "k", "parts", "part"]
theorem sc__law_value : FnScope N__law_value ["tree", "columns", "row"] (defScope s__law_value) := ⟨rfl, rfl, rfl, by decide +kernel, rfl, by decide +kernel, by decide +kernel⟩
abbrev s__law_cell_value : Stmt := topS 33
abbrev N__law_cell_value : List Str := ["draw", "kind"]
theorem sc__law_cell_value : FnScope N__law_cell_value ["draw", "kind"] (defScope s__law_cell_value) := ⟨rfl, rfl, rfl, by decide +kernel, rfl, by decide +kernel, by decide +kernel⟩
abbrev s__law_row : Stmt := topS 34
abbrev N__law_row : List Str := ["draw", "kinds", "kind"]
theorem sc__law_row : FnScope N__law_row ["draw", "kinds"] (defScope s__law_row) := ⟨rfl, rfl, rfl, by decide +kernel, rfl, by decide +kernel, by decide +kernel⟩
abbrev s__law_plain : Stmt := topS 35
abbrev N__law_plain : List Str := ["expression", "row", "form", "parts", "words", "part"]
theorem sc__law_plain : FnScope N__law_plain ["expression", "row"] (defScope s__law_plain) := ⟨rfl, rfl, rfl, by decide +kernel, rfl, by decide +kernel, by decide +kernel⟩
abbrev s__law_columns : Stmt := topS 36
abbrev N__law_columns : List Str := ["draw", "columns", "k", "name"]
theorem sc__law_columns : FnScope N__law_columns ["draw"] (defScope s__law_columns) := ⟨rfl, rfl, rfl, by decide +kernel, rfl, by decide +kernel, by decide +kernel⟩
abbrev s__law_same_value : Stmt := topS 37
abbrev N__law_same_value : List Str := ["actual", "due"]
theorem sc__law_same_value : FnScope N__law_same_value ["actual", "due"] (defScope s__law_same_value) := ⟨rfl, rfl, rfl, by decide +kernel, rfl, by decide +kernel, by decide +kernel⟩
abbrev s_law : Stmt := topS 38
abbrev N_law : List Str := ["script", "draw", "columns", "kept", "tree", "actual", "due", "k", "row", "column"]
theorem sc_law : FnScope N_law ["script"] (defScope s_law) := ⟨rfl, rfl, rfl, by decide +kernel, rfl, by decide +kernel, by decide +kernel⟩
/-! ### heaps and calls -/
theorem same_upd {H : Hp} {p : Addr} {o : HO} (h : H p = none) : Same H (upd H p o) := fun b x e => by
  rw [upd_ne (ne_of_none e h)]
  exact e
/-- what stood stands, but for the object at d -/
def Fd (d : Addr) (H H' : Hp) : Prop := ∀ b o, b ≠ d → H b = some o → H' b = some o
theorem Fd.refl (d : Addr) (H : Hp) : Fd d H H := fun _ _ _ e => e
theorem Fd.trans {d : Addr} {H H1 H2 : Hp} (a : Fd d H H1) (b : Fd d H1 H2) : Fd d H H2 := fun c o n e => b c o n (a c o n e)
theorem Fd.of {d : Addr} {H H' : Hp} (a : Same H H') : Fd d H H' := fun b o _ e => a b o e
theorem Fd.new {d : Addr} {H : Hp} {p : Addr} {o : HO} (h : H p = none) : Fd d H (upd H p o) := Fd.of (same_upd h)
theorem Fd.at {d : Addr} {H : Hp} {o : HO} : Fd d H (upd H d o) := fun b x n e => by
  rw [upd_ne n]
  exact e
/-- a def that may be called by its name -/
structure Cl (P : Program) (w : World) (K : PySem.W.Frag) (mg : Str → Option Value) (base : Heap) (k : Nat) (x : Str) (sp : Sp) : Prop where
  ex : ∃ (f : Addr) (fd : FuncData) (ps : List Str), FnOk P w K mg base CX0 k f fd ps sp ∧ mg x = some (.ref f) ∧ PySem.W.keepIn K (.ref f) = true ∧ Binds K fd ps []
section
variable {X : Cx} {k j : Nat} {x : Str} {sp : Sp} {p pos : Pos} {e : Expr} {es : List Expr} {t : TA}
theorem pe_u (c : Cl X.prog X.w X.K X.mg X.base k x sp) (hr : Room j X.A) (hk : k ≤ j) (hg : Gl X x) (ha : PA X (e :: es) t)
    (hdb : (x == ("__debug__" : Str)) = false := by decide) (he : starEach (e :: es) X.env = (false, eval e X.env) :: starEach es X.env := by rfl) (hpl : (backTo pos (starEach es X.env)).any (·.1) = false := by rfl) :
    PE X (.Call (.Name x p) (e :: es) [] pos) (tCall sp [] E0 t) := by
  obtain ⟨f, fd, ps, F, hm, kp, b⟩ := c.ex
  exact pe_call F (hr.mono hk) hg hm kp b .nil pass0 ha hdb he hpl
theorem pe_u0 (c : Cl X.prog X.w X.K X.mg X.base k x sp) (hr : Room j X.A) (hk : k ≤ j) (hg : Gl X x) (hdb : (x == ("__debug__" : Str)) = false := by decide) : PE X (.Call (.Name x p) [] [] pos) (tCall sp [] E0 tNil) := by
  obtain ⟨f, fd, ps, F, hm, kp, b⟩ := c.ex
  exact pe_call0 F (hr.mono hk) hg hm kp b .nil pass0 hdb
end
theorem FnOk.cl {P : Program} {w : World} {K : PySem.W.Frag} {mg : Str → Option Value} {base : Heap} {k : Nat} {x q : Str} {st : Stmt} {f : Addr} {fd : FuncData} {ps : List Str} {sp : Sp} (h : FnOk P w K mg base CX0 k f fd ps sp) (F : Fun K x q st f fd) (g : mg x = some (.ref f)) (b : Binds K fd ps []) : Cl P w K mg base k x sp := ⟨f, fd, ps, h, g, F.kp, b⟩
/-! ### rules with the written part named (within a comprehension) -/
section
variable {X : Cx} (K : PySem.W.Frag)
theorem ix_listK (h : X.K = K := by rfl) : IxR X (rIxL K) := by subst h; exact ix_list
theorem ix_tupK (h : X.K = K := by rfl) : IxR X (rIxT K) := by subst h; exact ix_tup
theorem ix_seqK (h : X.K = K := by rfl) : IxR X (rIx K) := by subst h; exact ix_seq
theorem len_seqK (h : X.K = K := by rfl) : CallR X (.builtin "len") (fun xs H Q => ∃ p ys, xs = [.ref p] ∧ (SqL K H p ys ∨ SqT K H p ys) ∧ Q (.int ys.length) H) := by subst h; exact call_len_seq
theorem isiK (h : X.K = K := by rfl) : CallR X (.builtin "isinstance") (rIsi K) := by subst h; exact call_isi
theorem isiTK (h : X.K = K := by rfl) : CallR X (.builtin "isinstance") (rIsiT K) := by subst h; exact call_isiT
theorem allK (hc : X.calm = true) (h : X.K = K := by rfl) : CallR X (.builtin "all") (rAll K) := by subst h; exact cr_all hc
theorem listK (h : X.K = K := by rfl) : CallR X (.type "list") (fun xs H Q => ∃ p ys, xs = [.ref p] ∧ (SqL K H p ys ∨ SqT K H p ys) ∧ ∀ l, H l = none → Q (.ref l) (upd H l (.lst ys))) := by subst h; exact call_list_of
theorem tupleK (h : X.K = K := by rfl) : CallR X (.type "tuple") (fun xs H Q => ∃ p ys, xs = [.ref p] ∧ ((SqL K H p ys ∧ ∀ l, H l = none → Q (.ref l) (upd H l (.tup ys))) ∨ (SqT K H p ys ∧ Q (.ref p) H))) := by subst h; exact call_tuple_of
theorem inK (h : X.K = K := by rfl) : OpR X (compareOp .In) (rIn K false) := by subst h; exact op_in_seq
theorem notInK (h : X.K = K := by rfl) : OpR X (compareOp .NotIn) (rIn K true) := by subst h; exact op_notIn_seq
theorem pe_bmK {T : String} {name : Str} {id : String} {r : V → List V → Hp → VK → Prop} {o e : Expr} {es : List Expr} {to : TE} {t : TA} {apos cpos : Pos} (pa : PlainAttrs T) (slot : Slot T name id) (hty : typeOf (.builtin id) = pure (.type "method_descriptor")) (hm : MtR X id r) (ho : PE X o to) (ha : PA X (e :: es) t) (hK : X.K = K := by rfl)
    (hbase : attributeBase o name X.env (eval o X.env) = eval o X.env := by rfl)
    (hfew : ((backTo cpos (starEach (e :: es) X.env)).all (fun x => !x.1) && (backToKw cpos (keywordEach [] X.env)).all (fun x => x.1.isSome)
      && decide ((e :: es).length + ([] : List Keyword).length + (if ([] : List Keyword).isEmpty then 0 else 1) < 30)) = true := by rfl)
    (hline : (apos.endLine == cpos.line) = true := by rfl) (hs : starEach (e :: es) X.env = (false, eval e X.env) :: starEach es X.env := by rfl) (hplain : (backTo cpos (starEach es X.env)).any (·.1) = false := by rfl) :
    PE X (.Call (.Attribute o name apos) (e :: es) [] cpos) (tBM K T r to t) := by subst hK; exact pe_bm pa slot hty hm ho ha hbase hfew hline hs hplain
theorem pt_truthK {a : Expr} {ta : TE} (ha : PE X a ta) (he : ∀ whole, isTrue a X.env whole = (do let v ← whole; standAt a.pos; holding [v] (truthy v))) (h : X.K = K := by rfl) : PT X a (fun σ H Q => ta σ H fun x H' => ∃ k, TruV K x H' k ∧ Q k H') := by subst h; exact pt_truth ha he
theorem eqDK (hu : X.A.units + 64 < cLine) (h : X.K = K := by rfl) : OpR X (compareOp .Eq) (rEqD K) := by subst h; exact op_eqD hu
theorem neDK (hu : X.A.units + 64 < cLine) (h : X.K = K := by rfl) : OpR X (compareOp .NotEq) (rNeD K) := by subst h; exact op_neD hu
end
/-- over the signs of a text -/
theorem for_strs {x : Str} {g : TG} {tb : TS} {D : Ends} {σ : L2.St} {H : Hp} (Pv : Nat → L2.St → Hp → Prop) (h0 : Pv 0 σ H)
    (hs : ∀ i c σ H, x.cps.toList[i]? = some c → Pv i σ H → g (.str ⟨#[c]⟩) σ H fun σ2 H2 => tb { D with nx := Pv (i + 1), ct := Pv (i + 1), bk := D.nx } σ2 H2) (hd : ∀ σ H, Pv x.cps.toList.length σ H → D.nx σ H) :
    ∃ W : Nat → Nat → L2.St → Hp → Prop, (∃ m, W 0 m σ H) ∧ ∀ i m σ H, W i m σ H →
      ((Its x).stop i H ∧ D.nx σ H) ∨ ((Its x).go i H ∧ ∃ N : L2.St → Hp → Prop, (∀ σ' H', N σ' H' → ∃ m', m' < m ∧ W (i + 1) m' σ' H') ∧ ∀ v H', (Its x).yld i H v H' → g v σ H' fun σ2 H2 => tb { D with nx := N, ct := N, bk := D.nx } σ2 H2) := by
  have es : x.cps.toList.length = x.cps.size := by simp
  refine ⟨fun i m σ H => m = x.cps.size - i ∧ i ≤ x.cps.size ∧ Pv i σ H, ⟨x.cps.size, by simp, Nat.zero_le _, h0⟩, ?_⟩
  rintro i m σ H ⟨rfl, hi, p⟩
  by_cases hlt : i < x.cps.size
  · refine .inr ⟨hlt, Pv (i + 1), fun σ' H' p' => ⟨x.cps.size - (i + 1), by omega, rfl, hlt, p'⟩, fun v H' y => ?_⟩
    obtain ⟨e, c, hc, rfl⟩ := y
    subst e
    exact hs i c σ _ (by rw [Array.getElem?_toList]; exact hc) p
  · have e : i = x.cps.size := by omega
    subst e
    exact .inl ⟨Nat.le_refl _, hd σ H (by rw [es]; exact p)⟩
theorem joinL0 : ∀ ps : List (List Nat), TL.joinL [] ps = ps.flatten
  | [] => rfl
  | [p] => by
    show p = p ++ []
    rw [List.append_nil]
  | p :: q :: r => by
    show p ++ ([] ++ TL.joinL [] (q :: r)) = p ++ (q :: r).flatten
    rw [joinL0 (q :: r), List.nil_append]
theorem join0 (ys : List Str) : Txt.join ⟨#[]⟩ ys = ⟨((ys.map TL.tl).flatten).toArray⟩ := by
  refine TL.ext_tl ?_
  rw [TL.join_eq, TL.tl_join]
  show TL.joinL [] _ = _
  rw [joinL0]
theorem flat_len : ∀ ys : List Str, ((ys.map TL.tl).flatten).length = (ys.map (·.length)).sum
  | [] => rfl
  | y :: ys => by
    rw [List.map_cons, List.flatten_cons, List.length_append, flat_len ys, List.map_cons, List.sum_cons]
    show y.cps.toList.length + _ = _
    rw [Array.length_toList]
    rfl
theorem S_len' (l : List Nat) : (⟨l.toArray⟩ : Str).length = l.length := by simp [Str.length]
theorem cut_to (l : List Nat) {o : Nat} (h : o ≤ l.length) : cutS ⟨l.toArray⟩ none (some (o : Int)) = ⟨(l.take o).toArray⟩ := by
  unfold cutS
  rw [HT.sIx_none, HT.sIx_nat, S_len', Nat.sub_zero, Nat.min_eq_left h]
  show (⟨((l.drop 0).take o).toArray⟩ : Str) = _
  rw [List.drop_zero]
theorem str1 (c : Nat) (d : Nat) : decide (V.str ⟨#[c]⟩ = V.str ⟨#[d]⟩) = decide (c = d) := by
  by_cases h : c = d
  · subst h
    rw [decide_eq_true rfl, decide_eq_true rfl]
  · rw [decide_eq_false h, decide_eq_false]
    intro e
    have e1 := V.str.inj e
    have e2 := Array.toList_inj.mpr (Str.mk.inj e1)
    exact h (by simpa using e2)
def tx (l : List Nat) : V := .str ⟨l.toArray⟩
/-- a comprehension's scope within another scope -/
def relS (scope sc : Scope) : Scope := { scope with names := scope.names.map fun (n, k) => if (k == .free && sc.kind == .function && sc.names.lookup n == some .cell) then (n, .cell) else (n, k) }
theorem anyK {X : Cx} (K : PySem.W.Frag) (hc : X.calm = true) (h : X.K = K := by rfl) : CallR X (.builtin "any") (rAny K) := by subst h; exact cr_any hc
theorem pi_listK {X : Cx} (K : PySem.W.Frag) {l tg : Expr} {tl : TE} (hl : PE X l tl) (h : X.K = K := by rfl) : PI X tg l (iList K tl) := by subst h; exact pi_list hl
theorem pi_tupK {X : Cx} (K : PySem.W.Frag) {l tg : Expr} {tl : TE} (hl : PE X l tl) (h : X.K = K := by rfl) : PI X tg l (iTup K tl) := by subst h; exact pi_tup hl

/-! ### an own error whose __init__ says super().__init__(e): its def by its body -/
theorem mw_push {h : Heap} {o : Obj} : ∀ b u, h.get? b = some u → (h.push o).get? b = some u := fun b u e => Heap.get?_push_of_some _ e
/-- the bound __init__ of ValueError, called -/
theorem call_mw {X : Cx} {pins : List (Addr × Obj)} {σ : L2.St} {H : Hp} {s : Shared} {a C u : Addr} {us : List Value} {A : Around} {E : Value → Shared → Prop} {Q : Value → Shared → Prop} (T : OexC X.K C) (I : Inv X pins σ H s) (e : H a = some (exo a C none)) (hu : s.heap.get? u = some (PySem.W.kxs_mw "ValueError.__init__" a)) (hl : us.length ≤ sizeLine) (h : ∀ s', Inv X pins σ H s' → Q .none s') :
    wpAny (model X.prog X.w) A (call (.ref u) us) Q E s := by
  obtain ⟨nm, q, N, bs, bm, sn, sub, ab, col, dd, k0, k1, k2, k3, k5, hC, hbm⟩ := T.cls
  obtain ⟨t1, ho⟩ := exo_at I.hok e
  obtain ⟨hp, g, d, t, os⟩ := s
  refine wpAny_call (codeAny_of_tree ?_)
  show wpAny _ A.in1 (callAny (.ref u) ⟨us, []⟩) _ _ _
  simp only [callAny]
  refine (wpAny_bind (wpAny_load hu ?_))
  simp only [PySem.W.kxs_mw, show (Value.type "method-wrapper" == Value.type "method" || Value.type "method-wrapper" == Value.type "builtin_function_or_method" || Value.type "method-wrapper" == Value.type "method-wrapper") = true by decide, if_true]
  refine PySem.W.KFB.if_so (by decide) ?_
  refine (wpAny_bind (PySem.W.check_bound_init PySem.F.excBase_ValueError.toExcCallFacts (I.kIn _ _ hC) ho rfl ?_))
  refine (wpAny_bind (wpAny_pure (wpAny_pure ?_)))
  refine ⟨plainId_quiet PySem.F.excBase_ValueError.init.plain _, codeAny_builtin PySem.F.excBase_ValueError.initEntry ?_⟩
  refine PySem.W.exc_init_tree (cls := .ref C) (t0 := t1) (dv := none) (c2 := .none) (c3 := .none) (b4 := .bool false) ho hl fun h' k hx ht => ?_
  have J := I.write (t' := t) (x := a) (e := a) (o := exo a C none) (by rw [e]; exact True.intro) (.inl rfl) k ⟨_, hx⟩ (exo_ok hx)
  have eu : upd H a (exo a C none) = H := by
    funext b
    by_cases hb : b = a
    · rw [hb, upd_same, e]
    · rw [upd_ne hb]
  rw [eu] at J
  exact h _ J
section
open NdefX
/-- what the written part says of such a class at C, of its __init__ F at f -/
structure SupC (P : Program) (K : PySem.W.Frag) (mg : Str → Option Value) (C f : Addr) (F : NF) (fd : FuncData) : Prop where
  lk : ∃ (oc : Value) (od : Option Addr) (osl : Array (Option Value)) (doc pm ct : Value), K.lookup f = some ⟨oc, od, .func fd, osl⟩ ∧ fd = F.fd doc pm ct
  hcd : PySem.W.codeIn K (.ref F.c) F.qual = true
  code : ∃ (ccl : Value) (cdd : Option Addr) (vs : Array Value) (ccs : Array (Option Value)) (file : Str) (tf : Tok), K.lookup F.c = some ⟨ccl, cdd, .fields vs, ccs⟩ ∧ vs[2]? = some (.str file tf) ∧ ((P.main.file : Str) == file) = true
  cell : ∃ (cc : Addr) (cl : Value) (cld : Option Addr) (csl : Array (Option Value)), F.cl = [(("__class__" : Str), cc)] ∧ K.lookup cc = some ⟨cl, cld, .cell (some (.ref C)), csl⟩
  cd : ∃ cd, PySem.W.clsIn K C = some cd
  sub : PySem.W.mroIn K C (.ref C) = some true
  noS : mg "super" = none
  top : (P.main.scope.names.lookup ("super" : Str)).isSome = false
  opq : PySem.W.nsIn K cStatics "thirdparty.any" = some none
  ini : PySem.W.ks_superIn K C C "__init__" = some (some (.builtin "ValueError.__init__"))
  isV : PySem.W.subIn K (.ref C) (.type "ValueError") = some true
  T : OexC K C
  hks : F.scope.names.lookup ("super" : Str) = some .globalImplicit
  hkc : F.scope.names.lookup ("__class__" : Str) = some .free
  hka : F.scope.names.lookup ("self" : Str) = some .local
  par : ∃ ar, (F.params.posonlyargs ++ F.params.args).head? = some ar ∧ ar.arg = "self"
theorem exo_none {C x : Addr} {h : Heap} {t1 : Addr} (he : h.get? x = some ({ cls := .ref C, dict := none, data := .fields #[.ref t1, .none, .none, .none, .bool false, .none] } : Obj)) : h.get? x = some (PySem.W.excObj C t1 none .none) := he
variable {P : Program} {w : World} {K : PySem.W.Frag} {mg : Str → Option Value} {base : Heap} {N ps : List Str} {F : NF} {f C : Addr} {k : Nat} {fd : FuncData} {sp : Sp} {e : Expr} {rest : List Stmt} {p0 p1 p2 p3 p4 : Pos}
set_option maxHeartbeats 2000000 in
theorem fn_super (U : SupC P K mg C f F fd) (S : NScope N ps ["__class__"] F.scope) (hb : F.body = .Expr (.Call (.Attribute (.Call (.Name "super" p0) [] [] p1) "__init__" p2) [e] [] p3) p4 :: rest) (hps : ps[0]? = some ("self" : Str))
    (hee : ∀ env : Env, ∃ pl : Sem Bool, eval (.Call (.Attribute (.Call (.Name "super" p0) [] [] p1) "__init__" p2) [e] [] p3) env = (do
      let ov ← attributeBase (.Call (.Name "super" p0) [] [] p1) "__init__" env (eval (.Call (.Name "super" p0) [] [] p1) env)
      standAt p2.atName
      let (f, first) ← holding [ov] (getMethod ov "__init__" pl)
      callWith p3 f first (backTo p3 (starEach [e] env)) []))
    (hst : ∀ env : Env, starEach [e] env = (false, eval e env) :: starEach [] env) (hsw : ∀ env : Env, swapsWith (.Call (.Attribute (.Call (.Name "super" p0) [] [] p1) "__init__" p2) [e] [] p3) none p4.line env = pure false)
    (len : ∀ vs H Q E, sp vs H Q E → vs.length = ps.length)
    (hbody : ∀ (A : Around) (outer : List Env) (s : Shared) (H : Hp) (vs : List V) (Q : VK) (E : XK), Room k (A.deeper (envF F f s.heap.objs.size)) → sp vs H Q E →
      ∃ te t, PE (ncx CX0 P w K mg base N F f A outer s H E) e te ∧ PSs (ncx CX0 P w K mg base N F f A outer s H E) rest t ∧
        ∃ a, vs[0]? = some (.ref a) ∧ H a = some (exo a C none) ∧ ∀ u H0, H u = none → Same H H0 → tCons te tNil (startF N vs [some (.ref C)]) H0 fun zs H1 => zs.length ≤ 1 ∧ H1 a = some (exo a C none) ∧ (∀ o, H0 u = some o → H1 u = some o) ∧ t { nx := fun _ H' => Q .non H', rt := Q } (startF N vs [some (.ref C)]) H1) :
    FnOk P w K mg base CX0 (k + 1) f fd ps sp := by
  refine ⟨len, fun A outer s H args us vs Q E hr e0 hbd r hsp => ?_⟩
  have hl := len _ _ _ _ hsp
  have KX : K.In s.heap := e0.mod.kin.keeps fun b o e => (e0.bs b o e).1
  have lim : s.heap.NoLimit := e0.mod.nolimit.keeps fun b o e => (e0.bs b o e).1
  obtain ⟨oc, od, osl, doc, pm, ct, lk, rfl⟩ := U.lk
  obtain ⟨ccl, cdd, fvs, ccs, file, tf, lkc, hfile, hmain⟩ := U.code
  obtain ⟨cc, cl, cld, csl, hcl, lkcc⟩ := U.cell
  obtain ⟨cd, hcd⟩ := U.cd
  obtain ⟨ar, har, hara⟩ := U.par
  obtain ⟨nm, q, Nn, bs, bm, sn, sub, ab, col, dd, k0, k1, k2, k3, k5, hC, hbm⟩ := U.T.cls
  obtain ⟨te, t, he, ht, a, hva, ha, hq⟩ := hbody A outer s H vs Q E (hr.deeper _) hsp
  -- the cell
  have base_at : ∀ {b : Addr} {o : Obj}, K.lookup b = some o → H b = none ∧ s.heap.get? b = some o := fun {b o} z => by
    have z1 := e0.mod.kin _ _ z
    exact ⟨(e0.bs _ _ z1).2, (e0.bs _ _ z1).1⟩
  have CA : CellsAt F.cl ["__class__"] [some (.ref C)] s.heap H := by
    rw [hcl]
    refine ⟨rfl, fun y c h => ?_, fun x y c h1 h2 => ?_, fun i y h => ?_⟩
    · obtain rfl : c = cc := by
        have := PySem.mem_of_lookup h
        exact (Prod.mk.inj (List.mem_singleton.mp this)).2
      exact ⟨(base_at lkcc).1, _, _, (base_at lkcc).2, rfl⟩
    · have e1 := (Prod.mk.inj (List.mem_singleton.mp (PySem.mem_of_lookup h1))).1
      have e2 := (Prod.mk.inj (List.mem_singleton.mp (PySem.mem_of_lookup h2))).1
      rw [e1, e2]
    · cases i with
      | zero =>
        cases h
        refine ⟨cc, by rw [List.lookup_cons, beq_self_eq_true], fun v hv => ?_⟩
        cases hv
        exact ⟨.ref C, rfl, _, (base_at lkcc).2, rfl⟩
      | succ i => cases h
  refine codeAny_call_function hr.depth (KX _ _ lk) rfl S.co S.gen rfl (PySem.W.codeRec_of KX U.hcd) (hbd _ _ _ _ ?_)
  refine wpAny_newFunctionEnv S.nocell (fun ⟨n, _⟩ hy => S.par n (List.of_mem_zip hy).1) (fun h₁ hns hsb => ⟨lim.fresh _ hsb, ?_⟩) S.kind
  show codeAny _ _ (.func F.body (envF F f s.heap.objs.size)) _ _
  have kp : ∀ b o, s.heap.get? b = some o → h₁.get? b = some o := fun b o e => hsb.extBut b o (Nat.ne_of_lt (Heap.lt_size e)) (Heap.get?_push_of_some _ e)
  have I : Inv (ncx CX0 P w K mg base N F f A outer s H E) [] (startF N vs [some (.ref C)]) H { s with heap := h₁, toks := s.toks + (ps.zip us).length } := inv_startN S hr.hd e0 hl r CA hns kp
  refine PySem.ks_codeAny_funcAt ?_
  rw [hb]
  obtain ⟨pl, hee⟩ := hee (envF F f s.heap.objs.size)
  refine PySem.ks_wpAt_execs_cons (PySem.ks_wpAt_Expr_any (PySem.ks_wpAt_MethodCall (pl := pl) ?_ hee) (hi := I.quiet) (hs := hsw _))
  -- super()
  have hu0 : us[0]? = some (.ref a) := by
    obtain ⟨u, hu, rv⟩ := r.get hva
    obtain rfl : u = Value.ref a := rv
    exact hu
  have hself : (ps.zip us).reverse.lookup ("self" : Str) = some (.ref a) := zip_look (by
    have q := S.nd.sublist (List.take_sublist (ps.length + [("__class__" : Str)].length) N)
    rw [S.pre] at q
    exact (List.nodup_append.mp q).1) hps hu0
  have K1 : ∀ {b : Addr} {o : Obj}, K.lookup b = some o → h₁.get? b = some o := fun z => kp _ _ (KX _ _ z)
  obtain ⟨mb, b1, b2⟩ := I.mod.blt
  obtain ⟨t1, hx1⟩ := exo_at I.hok ha
  have hx1 : h₁.get? a = some ({ cls := .ref C, dict := none, data := .fields #[.ref t1, .none, .none, .none, .bool false, .none] } : Obj) := hx1
  have hC1 := K1 hC
  obtain ⟨oD, hD1, hD2⟩ : ∃ oD, h₁.get? C = some oD ∧ oD.data = .cls cd := by
    have hcd := hcd
    unfold PySem.W.clsIn at hcd
    rw [hC] at hcd
    cases hcd
    exact ⟨_, hC1, rfl⟩
  refine PySem.ks_wpAt_super_base (env := envF F f s.heap.objs.size) U.hks U.hkc (by decide) rfl (K1 lk) rfl har rfl (K1 lkc) rfl hfile hmain U.top ?_
  refine PySem.W.ks_loadName_global S.kind U.hks (Calls.loadGlobal_builtin (env := envF F f s.heap.objs.size) (I.mod.glob.keeps I.bk) U.noS (b1.keeps I.bk) ((b2 "super" (by decide)).trans (by decide +kernel : bootBuiltins "super" = some (.type "super"))) ⟨rfl, ?_⟩)
  refine wpAny_loadName_free S.kind U.hkc (c := cc) (v := .ref C) (by show F.cl.lookup _ = _; rw [hcl, List.lookup_cons, beq_self_eq_true]) ⟨_, K1 lkcc, rfl⟩ ?_
  rw [hara]
  refine wpAny_loadName_local S.kind U.hka hns hself ?_
  refine PySem.ks_wpAny_isType_cls hD1 hD2 ⟨rfl, ?_⟩
  refine PySem.ks_wpAny_call_super hD1 hD2 hx1 rfl (fun c z => by cases z) (PySem.W.looks_mroIn (KX.keeps kp) U.sub) (fun h2 hso k2 => ?_)
  have I2 : Inv (ncx CX0 P w K mg base N F f A outer s H E) [] (startF N vs [some (.ref C)]) H { s with heap := h2, toks := s.toks + (ps.zip us).length } := I.kept (t' := s.toks + (ps.zip us).length) k2
  have X2 : K.In h2 := (KX.keeps kp).keeps k2
  have IA : PySem.W.InstAt h2 a { cls := .ref C, dict := none, data := .fields #[.ref t1, .none, .none, .none, .bool false, .none] } C none := ⟨k2 _ _ hx1, rfl, rfl, trivial⟩
  have hini : PySem.W.alongIn K "__init__" ((cd.mro.dropWhile (· != .ref C)).drop 1) = some (some (.builtin "ValueError.__init__")) := by
    have z := U.ini
    unfold PySem.W.ks_superIn at z
    rw [hcd] at z
    exact z
  have haC : a ≠ C := fun z => by
    have := (base_at hC).1
    rw [← z, ha] at this
    cases this
  refine PySem.W.kxs_getMethod PySem.W.kxs_ValueError hso (PySem.W.looks_opaque X2 U.opq) (l₀ := cd.mro) (fun A Q E s k q => wpAny_bind ((PySem.W.looks_clsIn X2 hcd) A _ E s k (wpAny_pure q))) rfl X2 hini (IA.type.andThen (PySem.W.looks_subIn X2 U.isV)) haC (by decide) ?_
  have nu : H h2.objs.size = none := I2.hok.fresh (Nat.le_refl _)
  have I3 := I2.laid (o := .ext fun h => h.get? h2.objs.size = some (PySem.W.kxs_mw "ValueError.__init__" a)) (h' := h2.push (PySem.W.kxs_mw "ValueError.__init__" a)) (t' := s.toks + (ps.zip us).length + 1) mw_push (Nat.le_refl _) ⟨Heap.get?_push_size _ rfl, ⟨_, Heap.get?_push_size _ rfl⟩, fun h1 h2 z g => g _ z⟩
  have q0 := hq h2.objs.size _ nu (same_upd nu (o := .ext fun h => h.get? h2.objs.size = some (PySem.W.kxs_mw "ValueError.__init__" a)))
  have ev := (pa_cons (X := ncx CX0 P w K mg base N F f A outer s H E) he pa_nil (hs := hst _)).run p3 [] _ _ _ _ I3 q0
  show wpAny _ _ (callWith p3 (.ref h2.objs.size) [] (backTo p3 (starEach [e] (envF F f s.heap.objs.size))) []) _ _ _
  rw [hst]
  rw [show starEach [e] (ncx CX0 P w K mg base N F f A outer s H E).env = (false, eval e (envF F f s.heap.objs.size)) :: starEach [] (envF F f s.heap.objs.size) from hst _] at ev
  refine PySem.W.kxs_callWith (i := "ValueError.__init__") (x := a) rfl (Calls.evalArgs_plain (thn ev fun us' s4 ⟨vs', H1, I4, r4, l4, e4, k4, q4⟩ => ?_))
  have hu4 : s4.heap.get? h2.objs.size = some (PySem.W.kxs_mw "ValueError.__init__" a) := (I4.hok _ _ (k4 _ upd_same)).1
  refine ⟨hu4, call_mw (X := ncx CX0 P w K mg base N F f A outer s H E) U.T I4 e4 hu4 (by show us'.length ≤ _; rw [← r4.length]; exact Nat.le_trans l4 (by decide)) fun s5 I5 => ?_⟩
  refine wpAt_of_wpAny (wpAny_mono (ht.run [] s5 _ H1 _ I5 q4) (fun fl s' hs => ?_) fun e s' hs => hs)
  have fin : ∀ {σ' : L2.St} {H' : Hp} {v : V} {u : Value}, Inv (ncx CX0 P w K mg base N F f A outer s H E) [] σ' H' s' → L2.RelV v u → Q v H' → CE outer P w H s Q u s' := fun {σ' H' v u} J rv q => ⟨v, H', J.os, J.bare, J.base, J.hok, rv, q⟩
  cases fl with
  | ret u =>
    obtain ⟨v, σ', H', J, rv, q⟩ := hs
    exact fin J rv q
  | next =>
    obtain ⟨σ', H', J, q⟩ := hs
    exact fin (v := V.non) (u := Value.none) J rfl q
  | brk =>
    obtain ⟨_, _, _, q⟩ := hs
    exact False.elim q
  | cont =>
    obtain ⟨_, _, _, q⟩ := hs
    exact False.elim q
end

/-! ### the program's problem: an error with a message alone -/
def fs1 (m : Str) : List (Str × V) := [("message", .str m)]
def sp_pinit (C : Addr) : Sp := fun vs H Q _ => ∃ (a : Addr) (m : Str), vs = [.ref a, .str m] ∧ H a = some (exo a C none) ∧ m.length ≤ 1000 ∧ ∀ H' d, (∀ b o, b ≠ a → H b = some o → H' b = some o) → H' a = some (exo a C (some d)) → H' d = some (exd d (fs1 m)) → H d = none → d ≠ a → Q .non H'
theorem ns_pinit : NdefX.nscB ["self", "message", "__class__"] ["self", "message"] ["__class__"] (defScope s_Problem___init__) = true := by decide +kernel
section
open NdefX
variable {P : Program} {w : World} {K : PySem.W.Frag} {mg : Str → Option Value} {base : Heap} {C f : Addr} {fd : FuncData}
abbrev pF (cc cda : Addr) : NF := ⟨"__init__", "Problem.__init__", defArgs s_Problem___init__, defBody s_Problem___init__, defScope s_Problem___init__, [("__class__", cc)], cda⟩
theorem ok_pinit {cc cda : Addr} (U : SupC P K mg C f (pF cc cda) fd) (n1 : PySem.W.findIn K (.ref C) "message" = some none) : FnOk P w K mg base CX0 1 f fd ["self", "message"] (sp_pinit C) := by
  refine fn_super (N := ["self", "message", "__class__"]) (F := pF cc cda) U (nscope_by ns_pinit) rfl rfl (fun env => ⟨_, rfl⟩) (fun env => rfl) (fun env => rfl) (fun vs H Q E h => ?_) (fun A outer s H vs Q E hr h => ?_)
  · obtain ⟨a, m, rfl, _⟩ := h
    rfl
  · obtain ⟨a, m, rfl, ha, hm, q⟩ := h
    refine ⟨_, _, pv 1, pss_one (ps_ost (pv 0) (pv 1)), a, rfl, ha, fun u H0 hu s0 => ?_⟩
    refine ⟨_, rfl, Nat.le_refl _, s0 _ _ ha, fun o e => e, ?_⟩
    refine ⟨_, rfl, _, rfl, a, C, rfl, U.T, n1, .inl ⟨s0 _ _ ha, fun dx nx nxa => ?_⟩⟩
    have nxH : H dx = none := by
      cases e : H dx with
      | none => rfl
      | some o => rw [s0 _ _ e] at nx; cases nx
    refine q _ dx (fun b o nb e => ?_) upd_same (by rw [upd_ne nxa, upd_same]; rfl) nxH nxa
    rw [upd_ne nb, upd_ne (ne_of_none (s0 _ _ e) nx)]
    exact s0 _ _ e
end
/-- all that a def that raises it needs -/
structure PrbE (P : Program) (w : World) (K : PySem.W.Frag) (mg : Str → Option Value) (base : Heap) (C : Addr) : Prop where
  T : OexC K C
  nm : mg "Problem" = some (.ref C)
  ini : ∃ (fI : Addr) (fd : FuncData), PySem.W.findIn K (.ref C) "__init__" = some (some (.ref fI)) ∧ PySem.W.typeIn K (.ref fI) = some (.type "function") ∧ FnOk P w K mg base CX0 1 fI fd ["self", "message"] (sp_pinit C) ∧ Binds K fd ["self", "message"] []
/-- Problem(m) -/
def tMkM (C : Addr) (ta : TA) : L2.St → Hp → XK → Prop := fun σ H Q => ta σ H fun vs H1 => ∃ m : Str, vs = [.str m] ∧ m.length ≤ 1000 ∧ ∀ d H', H1 d = none → Same H1 H' → H' d = some (.xd (fs1 m)) → Q (.ref C) (some d) H'
theorem pmk_prb {X : Cx} {C : Addr} {k : Nat} {ta : TA} {e : Expr} {es : List Expr} {p pos : Pos} (S : PrbE X.prog X.w X.K X.mg X.base C) (hr : Room k X.A) (hk : 2 ≤ k) (hg : L2.Gl X "Problem") (ha : PA X (e :: es) ta)
    (he : starEach (e :: es) X.env = (false, eval e X.env) :: starEach es X.env := by rfl) (hpl : (backTo pos (starEach es X.env)).any (·.1) = false := by rfl) : PMk X (.Call (.Name "Problem" p) (e :: es) [] pos) (tMkM C ta) := by
  obtain ⟨fI, fd, iC, tI, F1, hb⟩ := S.ini
  have ha' : PA X (e :: es) (fun σ H Q => ∃ Q0 : List V → Hp → Prop, ta σ H Q0 ∧ ∀ vs H1, Q0 vs H1 → Q vs H1) := ⟨fun pos pins s σ H Q I ⟨Q0, a, m⟩ => wpAny_mono (ha.run pos pins s σ H Q0 I a) (fun us s' ⟨vs, H', J, r, q⟩ => ⟨vs, H', J, r, m _ _ q⟩) fun _ _ z => z⟩
  have go := pmk_oex (p := p) (pos := pos) (dvs := []) S.T iC tI F1 (hr.mono hk) hb .nil pass0 hg S.nm ha' (by decide) he hpl
  intro pins s σ H Q I h
  refine go pins s σ H Q I ⟨_, h, fun vs H1 hv => ?_⟩
  obtain ⟨m, rfl, hm, q⟩ := hv
  refine ⟨by show 1 ≤ 1000; decide, fun a na => ⟨a, m, rfl, upd_same, hm, fun H' d kp ea ed nd nda => ⟨rfl, d, _, ea, ed, ?_, ?_⟩⟩⟩
  · rw [upd_ne nda] at nd
    exact nd
  · rw [upd_ne nda] at nd
    refine q d _ nd (fun b o e => ?_) upd_same
    have nb := ne_of_none e na
    rw [upd_ne (ne_of_none e nd), del_ne nb]
    exact kp b o nb (by rw [upd_ne nb]; exact e)
/-- raise Problem(m), out of a def -/
theorem ps_raiseM {X : Cx} {C : Addr} {k : Nat} {ta : TA} {W : WX} {e : Expr} {es : List Expr} {p pos pos' : Pos} (S : PrbE X.prog X.w X.K X.mg X.base C) (hc : X.calm = true) (tk : Takes X W) (hr : Room k X.A) (hk : 2 ≤ k) (hg : L2.Gl X "Problem") (ha : PA X (e :: es) ta)
    (he : starEach (e :: es) X.env = (false, eval e X.env) :: starEach es X.env := by rfl) (hpl : (backTo pos (starEach es X.env)).any (·.1) = false := by rfl) : PS X (.Raise (some (.Call (.Name "Problem" p) (e :: es) [] pos)) none pos') (fun _ σ H => tMkM C ta σ H fun cls d H' => W cls d σ H') :=
  ps_raise hc tk (pmk_prb S hr hk hg ha he hpl)
/-- the problem with this message -/
def Pf (C : Addr) (m : Str) (E : XK) (H : Hp) : Prop := ∀ d H', H d = none → Same H H' → H' d = some (.xd (fs1 m)) → E (.ref C) (some d) H'
theorem Pf.ext {C : Addr} {m : Str} {E : XK} {H H2 : Hp} (s : Same H H2) (h : Pf C m E H) : Pf C m E H2 := fun d H' nd s' e => h d H' (by
  cases z : H d with
  | none => rfl
  | some o => rw [s _ _ z] at nd; cases nd) (s.trans s') e
/-- d.get(key, value), d a written dict -/
def tKGet2 (K : PySem.W.Frag) (w : World) (td ty tx : TE) : TE := fun σ H Q => td σ H fun x H1 => ∃ (p : Addr) (es : Array DictEntry) (n : Nat), x = .ref p ∧ KDict K w p es n ∧ ty σ H1 fun y H2 => tx σ H2 fun z H3 => ∃ (k : Str) (r : Option Value) (v : V), y = .str k ∧ PySem.W.nsIn K p k = some r ∧ (∀ u, r = some u → RelV v u) ∧ (r = none → v = z) ∧ Q v H3
theorem pe_kget2 {X : Cx} {o e f : Expr} {apos cpos : Pos} {td ty tx : TE} (ho : PE X o td) (he : PE X e ty) (hf : PE X f tx) (m : M2 X o "get" apos e f cpos) : PE X (.Call (.Attribute o "get" apos) [e, f] [] cpos) (tKGet2 X.K X.w td ty tx) := by
  refine ⟨fun pins s σ H Q I h => ?_⟩
  refine wpAny_Call_method m.base m.few m.line PySem.F.plainAttrs_dict PySem.F.slot_dict_get PySem.F.type_dict_get (thn (ho.run pins s σ H _ I h) fun u s1 ⟨x, H1, I1, rx, a, es, n, ex, D, q1⟩ => ?_)
  subst ex
  obtain rfl : u = Value.ref a := rx
  have hm1 := PySem.W.mapOf_K (prog := X.prog) (w := X.w) I1.kIn D.at_ D.lit
  refine ⟨hm1.typeIs, hm1.noDict, ?_⟩
  rw [m.trees]
  refine wpAny_dict_get2 (knd := strKind X.prog X.w) D.low (thn (he.run pins s1 σ H1 _ I1 q1) fun iv s2 ⟨y, H2, I2, ry, q2⟩ => thn (hf.run pins s2 σ H2 _ I2 q2) fun fv s3 ⟨z, H3, I3, rz, k, r, v, ey, en, h1, h2, q3⟩ => ?_)
  subst ey
  obtain ⟨t, rfl⟩ := ry
  refine ⟨k, _, PySem.strKind_is X.prog X.w k t, PySem.W.mapOf_K (prog := X.prog) (w := X.w) I3.kIn D.at_ D.lit, ⟨v, H3, I3.tok _, ?_, q3⟩⟩
  rw [PySem.W.find_K D.at_ en]
  cases r with
  | some u => exact h1 u rfl
  | none => rw [h2 rfl]; exact rz
/-- an error of the class at S is what «except S» names -/
theorem exm_self {K : PySem.W.Frag} {S : Addr} (h1 : PySem.W.subIn K (.ref S) (.type "BaseException") = some true) (h2 : PySem.W.isClsIn K S = true) (h3 : PySem.W.typeIn K (.ref S) = some (.type "type")) (h4 : PySem.W.subIn K (.ref S) (.ref S) = some true) : PySem.W.exmOne K (.ref S) (.ref S) = some true := by
  unfold PySem.W.isClsIn at h2
  unfold PySem.W.exmOne PySem.W.kitCls
  simp only [h1, h2, h3, h4, beq_self_eq_true, Bool.and_self, if_true]

structure ClX (P : Program) (w : World) (K : PySem.W.Frag) (mg : Str → Option Value) (base : Heap) (k : Nat) (x : Str) (sp : Sp) : Prop where
  ex : ∃ (f : Addr) (fd : FuncData) (ps : List Str), FnOk P w K mg base (L2.CX P w) k f fd ps sp ∧ mg x = some (.ref f) ∧ PySem.W.keepIn K (.ref f) = true ∧ Binds K fd ps []
theorem FnOk.clx {P : Program} {w : World} {K : PySem.W.Frag} {mg : Str → Option Value} {base : Heap} {k : Nat} {x q : Str} {st : Stmt} {f : Addr} {fd : FuncData} {ps : List Str} {sp : Sp} (h : FnOk P w K mg base (L2.CX P w) k f fd ps sp) (F : Fun K x q st f fd) (g : mg x = some (.ref f)) (b : Binds K fd ps []) : ClX P w K mg base k x sp := ⟨f, fd, ps, h, g, F.kp, b⟩
theorem passX {X : Cx} {E : XK} (tk : Takes X (fun cls d _ H => E cls d H)) : Passes (L2.CX X.prog X.w) X E := fun pins σ H s e s' I c => passAt (W := fun cls d _ H => E cls d H) tk σ pins H s e s' I c
section
variable {X : Cx} {k j : Nat} {x : Str} {sp : Sp} {E : XK} {p pos : Pos} {e : Expr} {es : List Expr} {t : TA}
theorem pe_ux (c : ClX X.prog X.w X.K X.mg X.base k x sp) (hr : Room j X.A) (hk : k ≤ j) (hp : Passes (L2.CX X.prog X.w) X E) (hg : L2.Gl X x) (ha : PA X (e :: es) t)
    (hdb : (x == ("__debug__" : Str)) = false := by decide) (he : starEach (e :: es) X.env = (false, eval e X.env) :: starEach es X.env := by rfl) (hpl : (backTo pos (starEach es X.env)).any (·.1) = false := by rfl) :
    PE X (.Call (.Name x p) (e :: es) [] pos) (tCall sp [] E t) := by
  obtain ⟨f, fd, ps, F, hm, kp, b⟩ := c.ex
  exact pe_call F (hr.mono hk) hg hm kp b .nil hp ha hdb he hpl
end
section
variable {X : Cx} {k j : Nat} {x : Str} {sp : Sp} {E : L2.St → XK} {p pos : Pos} {e : Expr} {es : List Expr} {t : TA}
/-- within a try -/
theorem pe_uS (c : ClX X.prog X.w X.K X.mg X.base k x sp) (hr : Room j X.A) (hk : k ≤ j) (hx : ∀ σ, PassesAt (L2.CX X.prog X.w) X σ (E σ)) (hg : L2.Gl X x) (ha : PA X (e :: es) t)
    (hdb : (x == ("__debug__" : Str)) = false := by decide) (he : starEach (e :: es) X.env = (false, eval e X.env) :: starEach es X.env := by rfl) (hpl : (backTo pos (starEach es X.env)).any (·.1) = false := by rfl) :
    PE X (.Call (.Name x p) (e :: es) [] pos) (tCallS sp E t) := by
  obtain ⟨f, fd, ps, F, hm, kp, b⟩ := c.ex
  exact pe_callS F (hr.mono hk) hg hm kp b hx ha hdb he hpl
end

/-! ### comprehensions out of which an element's call may raise -/
abbrev blkx (X : Cx) (s : Shared) (H : Hp) (scope : Scope) (cenv : Env) (fp : List Addr) (xe : Value → Shared → Prop) : Cx := (X.blk s H scope cenv fp).tr [] xe
theorem ff_move {B B2 h1 h2 : Heap} : ∀ {l : List Env}, h1.FunFrames B l → (∀ L ∈ frs l, B2.get? L = none ∧ h2.get? L = h1.get? L) → h2.FunFrames B2 l
  | [], _, _ => trivial
  | e :: l, h, k => by
    obtain ⟨hk, ⟨L, o, hf, _, ho, hd⟩, hr⟩ := h
    have z := k L (List.mem_filterMap.mpr ⟨e, List.mem_cons_self, hf⟩)
    refine ⟨hk, ⟨L, o, hf, z.1, by rw [z.2]; exact ho, hd⟩, ff_move hr fun b hb => k b ?_⟩
    obtain ⟨e2, he2, q⟩ := List.mem_filterMap.mp hb
    exact List.mem_filterMap.mpr ⟨e2, List.mem_cons_of_mem _ he2, q⟩
section
variable {X : Cx}
/-- a call's exception within the block: noted, the block's names let go, and on -/
theorem cmp_out {E : XK} {pins : List (Addr × Obj)} {σ : L2.St} {H : Hp} {s s' : Shared} {u : Value} {ce : Env} (hst : X.stack = X.env :: X.outer) (hfr : X.env.frame = some X.env.locals) (tk : Takes X (fun cls d _ H => E cls d H)) (hce : ce.frame = X.env.frame) (I : Inv X pins σ H s) (hC : FpOk X pins H ce.locals) (hNs : ∃ m, s.heap.Ns ce.locals m)
    (c : L2.CX X.prog X.w X.stack H s E u s') : wpAny (model X.prog X.w) X.A (noteFrame u ce) (fun _ s2 => CompFails (model X.prog X.w) X.A X.xe ce u s2) (fun e s2 => CompFails (model X.prog X.w) X.A X.xe ce e s2) s' := by
  obtain ⟨a, B, H2, cls, d, rfl, fl, hok, ub, na, os, ag, hE⟩ := c
  obtain ⟨L, hL⟩ : ∃ L, L = X.env.locals := ⟨_, rfl⟩
  obtain ⟨C, hCe⟩ : ∃ C, C = ce.locals := ⟨_, rfl⟩
  rw [← hCe] at hC hNs
  have hfrs : X.A.frames = some (X.env :: X.outer) := by rw [I.ok.frames, hst]
  have hCf : C ∉ frs X.stack := fun z => by
    rcases List.mem_cons.mp (I.stkSub C z) with q | q
    · exact hC.2.1 q
    · exact hC.2.2.1 q
  obtain ⟨m0, oC, es0, ep0, hoC, rC⟩ := hNs
  have hBC : B.get? C = some oC := ub.keep C oC hoC hC.1 hCf
  have fl' := fl
  rw [hst] at fl'
  show wpAny _ _ (noteFrame (.ref a) { X.env with frame := ce.frame }) _ _ _
  rw [hce]
  refine HandSPX.looks_onZ Zc.steady hfrs hfr fl' fun h1 hh1 up1 => ?_
  rw [← hst] at hh1
  obtain ⟨kb1, kn1, kf1, tr1⟩ := hh1
  refine ⟨m0, ⟨oC, es0, ep0, by rw [← hCe]; exact kb1 _ _ hBC, rC⟩, fun h2 m2 hN2 sb => ?_⟩
  rw [← hCe] at sb hN2
  have sbo := sb.2
  obtain ⟨B2, b1, b2⟩ := L2.restrict h2 fun b => (B.get? b).isSome
  have sB2 : B2.StaysIn h2 := fun b o e => by
    cases q : (B.get? b).isSome with
    | false => rw [b2 b q] at e; cases e
    | true => rw [b1 b q] at e; exact e
  have nB2 : ∀ b, B.get? b = none → B2.get? b = none := fun b e => b2 b (by rw [e]; rfl)
  have tr2 : HandSPX.HeldZ B2 X.stack a (Zc cls d) L h2 := by
    refine ⟨sB2, nB2 _ kn1, ff_move kf1 fun b hb => ⟨nB2 _ (kf1.mem hb).1, sbo b fun z => hCf (by rw [← z]; exact hb)⟩, ?_⟩
    obtain ⟨oe, vs, T, oT, ts, he, hz, hd, g1, hnT, hTe, hT, hdT, g3⟩ := tr1
    exact ⟨oe, vs, T, oT, ts, (sbo a fun z => by rw [z, hBC] at kn1; cases kn1).trans he, hz, hd, g1, nB2 _ hnT, hTe, (sbo T fun z => by rw [z, hBC] at hnT; cases hnT).trans hT, hdT, by rw [hL]; exact g3⟩
  obtain ⟨oe, vs, T, oT, ts, he, hz, hd, g1, hnT, hTe, hT, hdT, g3⟩ := id tr2.2.2.2
  unfold PySem.passOn
  refine wpAny_bind (wpAny_field he hd g1 ?_)
  rw [if_neg (by simp)]
  rw [hce, hfr, ← hL]
  refine wpAny_bind (HandSPX.setFlight_onZ tr2 fun h3 hh3 up3 => wpAny_throw ?_)
  -- what X wants of it
  obtain ⟨G, r1, r2⟩ := L2.restrict h3 fun b => (B2.get? b).isSome || decide (b ∈ frs X.stack)
  have gB : ∀ b o, B2.get? b = some o → G.get? b = some o := fun b o e => (r1 b (by rw [e]; rfl)).trans (hh3.1 b o e)
  have gF : ∀ b, b ∈ frs X.stack → G.get? b = h3.get? b := fun b hb => r1 b (by simp [hb])
  have gO : ∀ b o, G.get? b = some o → h3.get? b = some o ∧ (b ∉ frs X.stack → B2.get? b = some o) := fun b o e => by
    cases q : ((B2.get? b).isSome || decide (b ∈ frs X.stack)) with
    | false => rw [r2 b q] at e; cases e
    | true =>
      rw [r1 b q] at e
      refine ⟨e, fun nb => ?_⟩
      have : (B2.get? b).isSome = true := by simpa [nb] using q
      obtain ⟨o', q'⟩ := Option.isSome_iff_exists.mp this
      rw [hh3.1 b o' q'] at e
      rw [q']
      exact e
  have bB : ∀ b o, b ≠ C → B.get? b = some o → B2.get? b = some o := fun b o hb e => by
    rw [b1 b (by rw [e]; rfl), sbo b hb]
    exact kb1 b o e
  have slots : ∀ b o, s.heap.get? b = some o → b ∈ frs X.stack → ∃ sl, G.get? b = some { o with slots := sl } := fun b o e hb => by
    obtain ⟨_, o0, e0, nf⟩ := I.stack.mem hb
    rw [e] at e0
    cases e0
    obtain ⟨l1, q1⟩ := ub.slot b o e hb
    obtain ⟨l2, q2⟩ := up1 b _ q1 nf
    have q3 := (sbo b fun z => hCf (by rw [← z]; exact hb)).trans q2
    obtain ⟨l4, q4⟩ := up3 b _ q3 nf
    exact ⟨l4, by rw [gF b hb]; exact q4⟩
  have J : Inv X pins σ H2 { s with heap := G, gens := s'.gens, drawn := s'.drawn, toks := s'.toks } := by
    refine I.call (ch := [C]) ⟨fun b o e n hb hc => ?_, fun b o e n hb _ => slots b o e hb, fun b o e n _ => ub.free b o e n, fun b o e hc => ?_, ub.tups, ub.frzs, ub.tbls⟩ (fun b o e => (hok b o e).stay (fun x v hx q => gB _ _ (bB _ _ (fun z => ?_) q)) (fun _ q => q) fun _ _ q => q) ag (fun b hb => ?_)
    · exact gB _ _ (bB _ _ (fun z => hc (by rw [z]; exact List.mem_singleton.mpr rfl)) (ub.keep b o e n hb))
    · by_cases hb : b ∈ frs X.stack
      · obtain ⟨sl, q⟩ := slots b o e hb
        exact ⟨_, q⟩
      · obtain ⟨o', q⟩ := ub.there b o e hb
        exact ⟨o', gB _ _ (bB _ _ (fun z => hc (by rw [z]; exact List.mem_singleton.mpr rfl)) q)⟩
    · have nC := ub.free C oC hoC hC.1
      rcases hx with hx | hx
      · rw [hx] at z
        rw [z, nC] at e
        cases e
      · rw [z, nC] at hx
        cases hx
    · rw [List.mem_singleton.mp hb]
      exact ⟨hC.2.2.2.1, hC.2.1, hC.2.2.2.2.1, hC.2.2.2.2.2⟩
  exact tk _ _ ⟨a, B2, _, pins, σ, H2, cls, d, rfl, J, fun b o e nb => (gO b o e).2 nb, Heap.UpToSlots.of_keeps fun b o e => (gO b o e).1, .inr (.inr (by rw [← hL]; exact hh3)), na, os, ag, hE⟩
end
section
variable {X : Cx}
theorem lcx_core {pins : List (Addr × Obj)} {s : Shared} {σ : L2.St} {H : Hp} {Q : VK} {E : XK} {elt tg iter : Expr} {ifs : List Expr} {scope : Scope} {own : List (Str × Nat)} {pos pos' : Pos} {wi : TI} {g : TG} {tt : TT} {te : TE} {use : Option (Value → Sem Unit)} {Qf : Value → Shared → Prop}
    (hc : X.calm = true) (hN : X.N.Nodup) (hst : X.stack = X.env :: X.outer) (hfr : X.env.frame = some X.env.locals) (tk : Takes X (fun cls d _ H => E cls d H)) (I : Inv X pins σ H s) (hi : PI X tg iter wi) (ok : BlkOk X.N X.env.scope scope own)
    (hg : ∀ s H C cl fp xe, PG (blkx X s H scope (compEnvC scope cl C X.env) fp xe) tg g) (ht : ∀ s H C cl fp xe, PTs (blkx X s H scope (compEnvC scope cl C X.env) fp xe) ifs tt)
    (he : ∀ s H C cl fp xe, Passes (L2.CX X.prog X.w) (blkx X s H scope (compEnvC scope cl C X.env) fp xe) E → PE (blkx X s H scope (compEnvC scope cl C X.env) fp xe) elt te) (hs : ∀ x, foldedSetIterable iter X.env x = pure x)
    (h : tLc wi g tt te (own.map (·.2)) σ H Q)
    (hRR : ∀ D ce s' m H', Inv X pins σ H' s' → Q (.ref D) H' → s'.heap.Ns ce.locals m → FpOk X pins H' ce.locals → compEnds (model X.prog X.w) X.A X.xe use Qf (.ref D) ce (.ok .next) s') :
    wpAny (model X.prog X.w) X.A (comprehension (.ListComp elt [⟨tg, iter, ifs, 0⟩] scope pos) scope X.env pos' (newList []) false (eval iter X.env) use) Qf X.xe s := by
  have hfree : ∀ y ∈ scope.names, y.2 = .free → ∃ c, X.env.cells.lookup y.1 = some c := fun y hy e => (ok.free y hy e).elim (fun k => I.ok.has _ (.inl k)) fun k => I.ok.has _ (.inr k)
  refine comprehension_at (use := use) rfl hs (closure_ok hfree) ok.kind (fun y hy e => by rw [ok.uniq y hy, e]) (thn (hi.run pins s σ H _ I h) fun xv s1 hx => thn hx fun itv s2 h2 => ?_)
  obtain ⟨it, fp, tn, J, H2, rfl, I2, T, st2, f2, q⟩ := h2
  refine wpAny_newObj_type (newEnv_comp ?_) (by show 0 ≤ sizeLine; decide)
  obtain ⟨D, hD⟩ : ∃ D, D = s2.heap.objs.size := ⟨_, rfl⟩
  rw [← hD]
  have hDn : H2 D = none := I2.hok.fresh (Nat.le_of_eq hD.symm)
  obtain ⟨W, ⟨m0, w0⟩, turn⟩ := q D hDn
  obtain ⟨u3, hu3⟩ : ∃ u3 : Shared, u3 = { s2 with heap := s2.heap.push { cls := .type "list", data := .seq ([] : List Value).toArray } } := ⟨_, rfl⟩
  have e3 : u3.heap = s2.heap.push { cls := .type "list", data := .seq ([] : List Value).toArray } := by rw [hu3]
  have I3 : Inv X pins σ (upd H2 D (.lst [])) u3 := by
    rw [hu3]
    refine I2.laid (t' := s2.toks) (fun _ _ e => Heap.get?_push_of_some _ e) (Nat.le_of_eq hD.symm) ⟨Nat.zero_le _, [], 0, .nil, ?_⟩
    rw [hD]
    exact Heap.get?_push_size _ rfl
  have f3 : ∀ b ∈ fp, FpOk X pins (upd H2 D (.lst [])) b ∧ b < u3.heap.objs.size := fun b hb => by
    obtain ⟨o, e, _⟩ := T.obj _ _ st2 b hb
    have lt := Heap.lt_size e
    refine ⟨⟨?_, (f2 b hb).2⟩, by rw [e3, Heap.size_push]; exact Nat.lt_succ_of_lt lt⟩
    rw [upd_ne (by rw [hD]; exact Nat.ne_of_lt lt)]
    exact (f2 b hb).1
  have st3 : tn 0 u3.heap := T.keep _ _ _ st2 fun b _ o e => by rw [e3]; exact Heap.get?_push_of_some _ e
  have I4 := (block_start I3 ok hN f3)
  obtain ⟨ce, hce⟩ : ∃ ce, ce = compEnvC scope (cellsFrom (u3.heap.objs.size + 1) scope.names (cloFrom X.env.cells scope.names [])) u3.heap.objs.size X.env := ⟨_, rfl⟩
  have cL : ce.locals = u3.heap.objs.size := by rw [hce]; rfl
  have cF : ce.frame = X.env.frame := by rw [hce]; rfl
  rw [← hu3]
  show codeAny _ _ (.compStart (.ListComp elt [⟨tg, iter, ifs, 0⟩] scope pos) 0 (.ref it) (.ref D) (compEnvC scope (cellsFrom (u3.heap.objs.size + 1) scope.names (cloFrom X.env.cells scope.names [])) u3.heap.objs.size X.env)) (compEnds (model X.prog X.w) X.A X.xe use Qf (.ref D) (compEnvC scope (cellsFrom (u3.heap.objs.size + 1) scope.names (cloFrom X.env.cells scope.names [])) u3.heap.objs.size X.env)) { u3 with heap := pushCells (u3.heap.push { cls := .type "dict", data := .dict #[] }) scope.names }
  obtain ⟨xe, hxe⟩ : ∃ xe : Value → Shared → Prop, xe = notedBy (model X.prog X.w) X.A ce fun e s' => compEnds (model X.prog X.w) X.A X.xe use Qf (.ref D) ce (.error e) s' := ⟨_, rfl⟩
  have pg := hg u3 (upd H2 D (.lst [])) u3.heap.objs.size (cellsFrom (u3.heap.objs.size + 1) scope.names (cloFrom X.env.cells scope.names [])) fp xe
  have pt := ht u3 (upd H2 D (.lst [])) u3.heap.objs.size (cellsFrom (u3.heap.objs.size + 1) scope.names (cloFrom X.env.cells scope.names [])) fp xe
  have pe := he u3 (upd H2 D (.lst [])) u3.heap.objs.size (cellsFrom (u3.heap.objs.size + 1) scope.names (cloFrom X.env.cells scope.names [])) fp xe
  rw [← hce] at I4 pg pt pe ⊢
  have nfp : ∀ b ∈ fp, (upd H2 D (.lst [])) b = none := fun b hb => (f3 b hb).1.1
  obtain ⟨H3, hH3⟩ : ∃ H3, H3 = upd H2 D (.lst []) := ⟨_, rfl⟩
  rw [← hH3] at I3 I4 pg pt pe w0 nfp
  have fpk : ∀ b ∈ fp, (b ∈ X.ex ∨ X.s_0.heap.objs.size ≤ b) ∧ b ≠ X.env.locals ∧ (∀ x c, X.env.cells.lookup x = some c → c ≠ b) ∧ ∀ p ∈ X.pn ++ pins, p.1 ≠ b := fun b hb => ⟨(f3 b hb).1.2.2.2.1, (f3 b hb).1.2.1, (f3 b hb).1.2.2.2.2.1, (f3 b hb).1.2.2.2.2.2⟩
  -- back in the def's context
  have back : ∀ {pins' : List (Addr × Obj)} {σ' : L2.St} {H' : Hp} {s' : Shared}, Inv (blkx X u3 H3 scope ce fp xe) pins' σ' H' s' → Inv X pins σ H' s' ∧ FpOk X pins H' ce.locals ∧ ∃ m, s'.heap.Ns ce.locals m := fun {pins' σ' H' s'} J' => by
    have nC : H' ce.locals = none := J'.free
    obtain ⟨m, hn, _⟩ := J'.loc
    exact ⟨I3.call' (ch := fp) J'.os J'.base J'.hok J'.bare fpk, I3.fpOk (by rw [cL]; exact Nat.le_refl _) nC, m, hn⟩
  have pe := pe fun pins' σ' H' s' u s'' J' c => by
    obtain ⟨J1, J2, J3⟩ := back J'
    have out := cmp_out (ce := ce) hst hfr tk cF J1 J2 J3 c
    show xe u s''
    rw [hxe]
    refine wpAny_mono out (fun _ s3 z => ?_) (fun _ s3 z => ?_) <;> (cases use <;> exact z)
  obtain ⟨u4, hu4⟩ : ∃ u4 : Shared, u4 = { u3 with heap := pushCells (u3.heap.push { cls := .type "dict", data := .dict #[] }) scope.names } := ⟨_, rfl⟩
  rw [← hu4] at I4 ⊢
  have I4 : Inv (blkx X u3 H3 scope ce fp xe) [] (wipe σ (own.map (·.2))) H3 u4 := Inv.toTry I4 xe
  have st4 : tn 0 u4.heap := T.keep _ _ _ st3 fun b _ o e => by rw [hu4]; exact pushCells_keeps _ _ _ _ (Heap.get?_push_of_some _ e)
  have stat : ∀ {σ' : L2.St} {H' : Hp} {s' : Shared}, Inv (blkx X u3 H3 scope ce fp xe) [] σ' H' s' → (∀ b ∈ fp, H' b = none) → ∀ b ∈ fp, FpOk (blkx X u3 H3 scope ce fp xe) [] H' b := fun {σ' H' s'} J' hn b hb =>
    ⟨hn b hb, (J'.ok.exf b hb).1, J'.ok.exfs b hb, .inl hb, fun x c e => (J'.ok.exf b hb).2 x c e, fun p hp => by cases hp⟩
  have loop : codeAny (model X.prog X.w) X.A (.compLoop (.ListComp elt [⟨tg, iter, ifs, 0⟩] scope pos) 0 (.ref it) (.ref D) ce) (compEnds (model X.prog X.w) X.A X.xe use Qf (.ref D) ce) u4 := by
    refine compLoop_any (fun n s' => ∃ i H', Inv (blkx X u3 H3 scope ce fp xe) [] (wipe σ (own.map (·.2))) H' s' ∧ tn i s'.heap ∧ (∀ b ∈ fp, H' b = none) ∧ W i n H') ?_ m0 ⟨0, H3, I4, st4, nfp, w0⟩
    intro n s5 ⟨i, H5, I5, st5, n5, w5⟩
    rw [← hxe]
    rcases turn i n H5 w5 with ⟨stop, qq⟩ | ⟨go, Nx, hNx, step⟩
    · refine thnF (T.done (blkx X u3 H3 scope ce fp xe) rfl rfl rfl hc i [] s5 _ H5 (fun _ _ => False) I5 (stat I5 n5) st5 stop) fun r s6 ⟨hr, I6⟩ => ?_
      cases hr
      obtain ⟨J1, J2, m, J3⟩ := back I6
      exact hRR D ce s6 m H5 J1 qq J3 J2
    · refine thnF (T.item (blkx X u3 H3 scope ce fp xe) rfl rfl rfl hc i [] s5 _ H5 (fun _ _ => False) I5 (stat I5 n5) st5 go) fun r s6 ⟨u, hr, h6⟩ => ?_
      cases hr
      refine thnF h6 fun _ s7 ⟨x, H7, I7, r7, y7, st7, n7⟩ => ?_
      have I7' := I7.pinned (stat I7 n7) (T.obj _ _ st7)
      refine thn (pg.run _ s7 _ H7 x u _ I7' r7 (step x H7 y7)) fun _ s8 ⟨σ8, H8, I8, hw8, q8⟩ => ?_
      refine thn (pt.run _ s8 σ8 H8 _ I8 q8) fun b s9 ⟨H9, I9, q9⟩ => ?_
      have fin : ∀ {s' : Shared} {H' : Hp}, Inv (blkx X u3 H3 scope ce fp xe) ([] ++ pinsAt fp s7.heap) σ8 H' s' → Nx H' → ∃ m, m < n ∧ ∃ i H', Inv (blkx X u3 H3 scope ce fp xe) [] (wipe σ (own.map (·.2))) H' s' ∧ tn i s'.heap ∧ (∀ b ∈ fp, H' b = none) ∧ W i m H' := fun {s' H'} J' nx => by
        obtain ⟨m', hm, w'⟩ := hNx H' nx
        have pin' : ∀ b ∈ fp, ∀ o, s7.heap.get? b = some o → s'.heap.get? b = some o ∧ H' b = none := fun b hb o e =>
          let z := J'.pin (b, o) (List.mem_append_right _ (List.mem_append_right _ (mem_pinsAt hb e)))
          ⟨z.1, z.2.1⟩
        have hl : (wipe σ (own.map (·.2))).length = σ8.length := by rw [← hw8, wipe_length]
        refine ⟨m', hm, i + 1, H', (J'.unpinned (pins := [])).weak hl (fun j v e => ?_), T.keep _ _ _ st7 fun b hb o e => (pin' b hb o e).1, fun b hb => ?_, w'⟩
        · rw [← hw8] at e
          exact (wipe_some e).1
        · obtain ⟨o, e, _⟩ := T.obj _ _ st7 b hb
          exact (pin' b hb o e).2
      cases b with
      | false =>
        simp only [Bool.false_eq_true, if_false] at q9 ⊢
        exact fin I9 q9
      | true =>
        simp only [if_true] at q9 ⊢
        refine thn (pe.run _ s9 σ8 H9 _ I9 q9) fun z s10 ⟨yv, H10, I10, r10, acc, hD10, hz10, nx⟩ => ?_
        exact app_ok (X := blkx X u3 H3 scope ce fp xe) I10 hD10 hz10 r10 fun s11 I11 => fin I11 nx
  exact codeAny_compStart_list loop (T.self X.A 0 _ _ _ st4 loop)
/-- y = [..], whose elements may raise -/
theorem ps_setLcx {i : Nat} {y : Str} {py : Pos} {E : XK} {elt tg iter : Expr} {ifs : List Expr} {scope : Scope} {own : List (Str × Nat)} {pos spos : Pos} {wi : TI} {g : TG} {tt : TT} {te : TE} (hc : X.calm = true) (hN : X.N.Nodup) (hst : X.stack = X.env :: X.outer) (hfr : X.env.frame = some X.env.locals) (tk : Takes X (fun cls d _ H => E cls d H)) (hy : X.N[i]? = some y) (hyl : X.env.scope.names.lookup y = some .local)
    (hsw : swapsWith (.ListComp elt [⟨tg, iter, ifs, 0⟩] scope pos) (some (.Name y py)) spos.line X.env = pure true) (hi : PI X tg iter wi) (ok : BlkOk X.N X.env.scope scope own)
    (hg : ∀ s H C cl fp xe, PG (blkx X s H scope (compEnvC scope cl C X.env) fp xe) tg g) (ht : ∀ s H C cl fp xe, PTs (blkx X s H scope (compEnvC scope cl C X.env) fp xe) ifs tt)
    (he : ∀ s H C cl fp xe, Passes (L2.CX X.prog X.w) (blkx X s H scope (compEnvC scope cl C X.env) fp xe) E → PE (blkx X s H scope (compEnvC scope cl C X.env) fp xe) elt te) (hs : ∀ x, foldedSetIterable iter X.env x = pure x := by intro _; rfl) :
    PS X (.Assign [.Name y py] (.ListComp elt [⟨tg, iter, ifs, 0⟩] scope pos) spos) (tAsg (tLc wi g tt te (own.map (·.2))) (gName i)) := by
  refine ⟨fun pins s σ H D I h => ?_⟩
  rw [exec_Assign_Name_used _ _ _ _ hsw]
  refine wpAny_bind (wpAny_standAt (wpAny_bind ?_))
  show wpAny _ X.A (comprehension (.ListComp elt [⟨tg, iter, ifs, 0⟩] scope pos) scope X.env (firstIterPos [⟨tg, iter, ifs, 0⟩] pos) (newList []) false (eval iter X.env) (some (assign (.Name y py) X.env)) >>= fun _ => pure ()) _ _ s
  have h : tLc wi g tt te (own.map (·.2)) σ H (fun x H1 => gName i x σ H1 D.nx) := h
  refine wpAny_bind (thn (lcx_core (Qf := fun _ s' => SP X pins D .next s') hc hN hst hfr tk I hi ok hg ht he hs h fun L ce s' m H' I' q hn f => ?_) fun _ s' hq => wpAny_pure (wpAny_pure hq))
  show wpAny _ _ (assign (.Name y py) X.env (.ref L)) _ _ _
  refine wpAny_assign_Name (store_ok2 (v := V.ref L) I' hN hy (.inl hyl) rfl (fun s2 I2 ⟨a, sb, ha⟩ => ?_) (.inr hyl))
  obtain ⟨f0, f1, f2, f3, f4, f5⟩ := f
  have haC : ce.locals ≠ a := ha.elim (fun z => by rw [z]; exact f1) fun z e => f4 y a z e.symm
  exact ⟨m, hn.sameBut sb haC, fun h3 sb3 => ⟨_, H', I2.turned (t' := s2.toks) (fun b o hb e => (sb3.2 b hb).trans e) f0 f1 f3 f4 f5, q⟩⟩
end

structure Mg (mg : Str → Option Value) : Prop where
  abs : mg "abs" = none
  bool : mg "bool" = none
  enumerate : mg "enumerate" = none
  int : mg "int" = none
  isinstance : mg "isinstance" = none
  len : mg "len" = none
  list : mg "list" = none
  range : mg "range" = none
  str : mg "str" = none
  sum : mg "sum" = none
  tuple : mg "tuple" = none
/-! ### the law's draws: a list of the script's copy, a place in it, what is left of a great number, a seed -/
def Dr (H : Hp) (d c : Addr) : Prop := c ≠ d ∧ ∃ (ns : List Int) (pos rest seed : Int), H d = some (.lst [.ref c, .int pos, .int rest, .int seed]) ∧ H c = some (.lst (ns.map V.int)) ∧ 0 ≤ pos ∧ 0 ≤ rest ∧ 0 ≤ seed ∧ seed < 2147483647
theorem Dr.ext {H H' : Hp} {d c : Addr} (h : Dr H d c) (e : Same H H') : Dr H' d c := by
  obtain ⟨n, ns, pos, rest, seed, h1, h2, r⟩ := h
  exact ⟨n, ns, pos, rest, seed, e _ _ h1, e _ _ h2, r⟩
theorem Dr.upd {H : Hp} {d c p : Addr} {o : HO} (h : Dr H d c) (n1 : p ≠ d) (n2 : p ≠ c) : Dr (upd H p o) d c := by
  obtain ⟨n, ns, pos, rest, seed, h1, h2, r⟩ := h
  exact ⟨n, ns, pos, rest, seed, by rw [upd_ne n1.symm]; exact h1, by rw [upd_ne n2.symm]; exact h2, r⟩
theorem Dr.nd {H : Hp} {d c p : Addr} (h : Dr H d c) (n : H p = none) : p ≠ d := by
  obtain ⟨_, ns, pos, rest, seed, h1, _⟩ := h
  exact (ne_of_none h1 n).symm
theorem Dr.nc {H : Hp} {d c p : Addr} (h : Dr H d c) (n : H p = none) : p ≠ c := by
  obtain ⟨_, ns, pos, rest, seed, _, h2, _⟩ := h
  exact (ne_of_none h2 n).symm
theorem Dr.lst {H : Hp} {d c : Addr} (h : Dr H d c) : ∃ zs, H d = some (.lst zs) := by
  obtain ⟨_, ns, pos, rest, seed, h1, _⟩ := h
  exact ⟨_, h1⟩
theorem Dr.lift {H H' : Hp} {d c d' c' : Addr} (_h : Dr H d c) (h' : Dr H' d' c') : Dr H' d' c' := h'
def sp_draw (K : PySem.W.Frag) : Sp := fun vs H Q _ => ∃ (a : Addr) (ns : List Int), vs = [.ref a] ∧ SqL K H a (ns.map V.int) ∧ ∀ H' d c, Same H H' → H d = none → Dr H' d c → Q (.ref d) H'
/-- a draw: some number below many -/
def sp_next : Sp := fun vs H Q _ => ∃ (d c : Addr) (many : Int), vs = [.ref d, .int many] ∧ Dr H d c ∧ 1 ≤ many ∧ many < 2 ^ 64 ∧ ∀ H' r, Fd d H H' → (∀ p, p ≠ d → H' p = H p) → Dr H' d c → 0 ≤ r → r < many → Q (.int r) H'
section
variable {P : Program} {w : World} {K : PySem.W.Frag} {mg : Str → Option Value} {base : Heap}
theorem ok_draw {f : Addr} {fd : FuncData} (F : Fun K "_law_draw" "_law_draw" s__law_draw f fd) (M : Mg mg) : FnOk P w K mg base CX0 1 f fd ["script"] (sp_draw K) := by
  refine F.ok sc__law_draw (fun vs H Q E h => ?_) (fun cdv A outer s H vs Q E hr h => ?_)
  · obtain ⟨a, ns, rfl, _⟩ := h
    rfl
  · obtain ⟨a, ns, rfl, hS, q⟩ := h
    refine ⟨_, (pss_one (ps_ret (pe_lst (pa_cons (pe_callTy (listK K) (by rfl) M.list (by decide +kernel) (pa_cons (pv 0) pa_nil)) (pa_cons pe_int (pa_cons pe_int (pa_cons pe_int pa_nil))))))), ?_⟩
    refine ⟨_, rfl, a, _, rfl, .inl hS, fun c nc => ?_⟩
    refine ⟨by show 4 ≤ sizeLine; decide, fun d nd => ?_⟩
    have hc : (upd H c (.lst (ns.map V.int))) c = some (.lst (ns.map V.int)) := upd_same
    have ncd : c ≠ d := ne_of_none hc nd
    have s1 := (same_upd nc (o := .lst (ns.map V.int))).trans (same_upd nd (o := .lst [.ref c, .int 0, .int 0, .int 17]))
    refine q _ d c s1 ((same_upd nc).free nd) ⟨ncd, ns, 0, 0, 17, upd_same, ?_, by decide, by decide, by decide, by decide⟩
    rw [upd_ne ncd]
    exact hc
theorem next_aux {H : Hp} {d c : Addr} {xs' : List V} {pos rest seed : Int} {ns : List Int} (hn : c ≠ d) (h2 : H c = some (.lst (ns.map V.int))) (hx : xs' = [.ref c, .int pos, .int rest, .int seed]) (h0 : 0 ≤ pos) (h1 : 0 ≤ rest) (h3 : 0 ≤ seed) (h4 : seed < 2147483647) : Dr (upd H d (.lst xs')) d c := by
  subst hx
  refine ⟨hn, ns, pos, rest, seed, upd_same, ?_, h0, h1, h3, h4⟩
  rw [upd_ne hn]
  exact h2
theorem ok_next {f : Addr} {fd : FuncData} (F : Fun K "_law_next" "_law_next" s__law_next f fd) (M : Mg mg) : FnOk P w K mg base CX0 1 f fd ["draw", "many"] sp_next := by
  refine F.ok sc__law_next (fun vs H Q E h => ?_) (fun cdv A outer s H vs Q E hr h => ?_)
  · obtain ⟨d, c, many, rfl, _⟩ := h
    rfl
  · obtain ⟨d, c, many, rfl, ⟨ncd, ns, pos, rest, seed, h1, h2, h0, h3, h4, h5⟩, hm1, hm2, q⟩ := h
    have hdv : ∀ x : Int, CDivW x many := fun x => wide_div (b := 64) (by omega) (by omega) (by decide) (by decide)
    have hcd : d ≠ c := ncd.symm
    have L0 : SqL K H d [.ref c, .int pos, .int rest, .int seed] := .of h1
    have at0 : ∀ (a b e g : V), atI [a, b, e, g] (0 : Int) = some a := fun a b e g => atI_nat (j := 0) rfl
    have at1 : ∀ (a b e g : V), atI [a, b, e, g] (1 : Int) = some b := fun a b e g => atI_nat (j := 1) rfl
    have at2 : ∀ (a b e g : V), atI [a, b, e, g] (2 : Int) = some e := fun a b e g => atI_nat (j := 2) rfl
    have at3 : ∀ (a b e g : V), atI [a, b, e, g] (3 : Int) = some g := fun a b e g => atI_nat (j := 3) rfl
    have fr : ∀ (H0 : Hp) (o : HO), (∀ p, p ≠ d → H0 p = H p) → (∀ p, p ≠ d → (upd H0 d o) p = H p) := fun H0 o e p n => by rw [upd_ne n]; exact e p n
    have fF : ∀ (H0 : Hp), (∀ p, p ≠ d → H0 p = H p) → Fd d H H0 := fun H0 e b o n h => by rw [e b n]; exact h
    -- the last row's value
    have last : ∀ (seed' : Int), 0 ≤ seed' → seed' < 2147483647 → ∀ H0 : Hp, (∀ p, p ≠ d → H0 p = H p) → (∃ pos rest, H0 d = some (.lst [.ref c, .int pos, .int rest, .int seed']) ∧ 0 ≤ pos ∧ 0 ≤ rest) → Q (.int ((seed' * 69621 % 2147483629 / 7) % many)) H0 := by
      intro seed' g0 g1 H0 e ⟨pos', rest', g2, g3, g4⟩
      exact q H0 _ (fF _ e) e ⟨ncd, ns, pos', rest', seed', g2, by rw [e c ncd]; exact h2, g3, g4, g0, g1⟩ (Int.emod_nonneg _ (by omega)) (Int.emod_lt_of_pos _ (by omega))
    refine ⟨_, (pss_cons (ps_if (pt_cmpR op_gt (pe_ix (ix_listK K) (pv 0) pe_int (fun _ _ => rfl)) pe_int (nomark _)) (pss_cons (ps_set (i := 2) sc__law_next.nd rfl (.inl rfl) (pe_op op_mod (pe_callTy call_int1 (by rfl) M.int (by decide +kernel) (pa_cons (pe_ix (ix_listK K) (pv 0) pe_int (fun _ _ => rfl)) pa_nil)) (pv 1)))
      (pss_cons (ps_asg (pe_op op_fdivW (pe_ix (ix_listK K) (pv 0) pe_int (fun _ _ => rfl)) (pv 1)) (pg_sub (pv 0) pe_int set_list))
      (pss_one (ps_ret (pv 2))))) pss_nil)
      (pss_cons (ps_if (pt_cmpR op_lt (pe_ix (ix_listK K) (pv 0) pe_int (fun _ _ => rfl)) (pe_callB (len_seqK K) (by rfl) M.len PySem.boot_len (pa_cons (pe_ix (ix_listK K) (pv 0) pe_int (fun _ _ => rfl)) pa_nil)) (nomark _)) (pss_cons (ps_set (i := 3) sc__law_next.nd rfl (.inl rfl) (pe_callB call_abs (by rfl) M.abs (by decide +kernel) (pa_cons (pe_ix (ix_listK K) (pe_ix (ix_listK K) (pv 0) pe_int (fun _ _ => rfl)) (pe_ix (ix_listK K) (pv 0) pe_int (fun _ _ => rfl)) (fun _ _ => rfl)) pa_nil)))
      (pss_cons (ps_asg (pe_op op_add (pe_ix (ix_listK K) (pv 0) pe_int (fun _ _ => rfl)) pe_int) (pg_sub (pv 0) pe_int set_list))
      (pss_cons (ps_if (pt_cmpR op_ge (pv 3) (pe_op op_pow pe_int pe_int) (nomark _)) (pss_cons (ps_asg (pe_op op_fdivW (pv 3) (pv 1)) (pg_sub (pv 0) pe_int set_list))
      (pss_one (ps_ret (pe_op op_mod (pe_callTy call_int1 (by rfl) M.int (by decide +kernel) (pa_cons (pv 3) pa_nil)) (pv 1))))) pss_nil)
      (pss_one (ps_asg (pe_op op_mod (pe_callTy call_int1 (by rfl) M.int (by decide +kernel) (pa_cons (pe_op op_add (pe_op op_add (pe_op op_mul (pe_ix (ix_listK K) (pv 0) pe_int (fun _ _ => rfl)) pe_int) (pv 3)) pe_int) pa_nil)) pe_int) (pg_sub (pv 0) pe_int set_list)))))) (pss_one (ps_asg (pe_op op_mod (pe_callTy call_int1 (by rfl) M.int (by decide +kernel) (pa_cons (pe_op op_add (pe_op op_mul (pe_ix (ix_listK K) (pv 0) pe_int (fun _ _ => rfl)) pe_int) pe_int) pa_nil)) pe_int) (pg_sub (pv 0) pe_int set_list))))
      (pss_one (ps_ret (pe_op op_mod (pe_op op_fdivW (pe_callTy call_int1 (by rfl) M.int (by decide +kernel) (pa_cons (pe_op op_mod (pe_op op_mul (pe_ix (ix_listK K) (pv 0) pe_int (fun _ _ => rfl)) pe_int) pe_int) pa_nil)) pe_int) (pv 1)))))), ?_⟩
    refine ⟨_, rfl, d, _, 2, .int rest, rfl, rfl, L0, at2 .., ?_⟩
    refine ⟨_, _, rfl, rfl, _, rfl, ite2 (fun e => ?_) (fun e => ?_)⟩
    · -- draw[2] > 0
      have hr0 : 0 < rest := of_decide_eq_true e
      refine ⟨_, rfl, d, _, 2, .int rest, rfl, rfl, L0, at2 .., .inl ⟨_, rfl, ?_⟩⟩
      refine ⟨_, rfl, _, _, rfl, rfl, by omega, ?_⟩
      refine ⟨_, rfl, d, _, 2, .int rest, rfl, rfl, L0, at2 .., ?_⟩
      refine ⟨_, rfl, _, _, rfl, rfl, hdv _, ?_⟩
      refine ⟨_, rfl, d, _, 2, 2, rfl, rfl, h1, rfl, ?_⟩
      refine ⟨_, rfl, ?_⟩
      have e1 := fr H (.lst ([.ref c, .int pos, .int rest, .int seed].set 2 (.int (rest / many)))) (fun _ _ => rfl)
      exact q _ _ (fF _ e1) e1 (next_aux ncd h2 rfl h0 (Int.ediv_nonneg h3 (by omega)) h4 h5) (Int.emod_nonneg _ (by omega)) (Int.emod_lt_of_pos _ (by omega))
    · refine ⟨_, rfl, d, _, 1, .int pos, rfl, rfl, L0, at1 .., ?_⟩
      refine ⟨_, rfl, d, _, 0, .ref c, rfl, rfl, L0, at0 .., ?_⟩
      refine ⟨c, _, rfl, .inl (.of h2), ?_⟩
      refine ⟨_, _, rfl, rfl, _, rfl, ite2 (fun e2 => ?_) (fun e2 => ?_)⟩
      · have hp : pos < ((ns.map V.int).length : Int) := of_decide_eq_true e2
        rw [List.length_map] at hp
        obtain ⟨i, rfl⟩ := Int.eq_ofNat_of_zero_le h0
        have hi : i < ns.length := by omega
        have hat : atI (ns.map V.int) ((i : Nat) : Int) = some (.int ns[i]) := atI_nat (by rw [List.getElem?_map, List.getElem?_eq_getElem hi]; rfl)
        -- cell = abs(..)
        refine ⟨_, rfl, d, _, 0, .ref c, rfl, rfl, L0, at0 .., ?_⟩
        refine ⟨_, rfl, d, _, 1, _, rfl, rfl, L0, at1 .., ?_⟩
        refine ⟨c, _, _, _, rfl, rfl, .of h2, hat, ?_⟩
        refine ⟨_, rfl, ?_⟩
        have hcell : (0 : Int) ≤ (if ns[i] < 0 then -ns[i] else ns[i]) := by split <;> omega
        generalize (if ns[i] < 0 then -ns[i] else ns[i]) = cell at hcell
        -- draw[1] = draw[1] + 1
        refine ⟨_, rfl, d, _, 1, _, rfl, rfl, L0, at1 .., ?_⟩
        refine ⟨_, _, rfl, rfl, ?_⟩
        refine ⟨_, rfl, d, _, 1, 1, rfl, rfl, h1, rfl, ?_⟩
        have hd1 : (upd H d (.lst ([.ref c, .int ((i : Nat) : Int), .int rest, .int seed].set 1 (.int ((i : Nat) + 1))))) d = some (.lst [.ref c, .int ((i : Nat) + 1), .int rest, .int seed]) := upd_same
        have e1 := fr H (.lst ([.ref c, .int ((i : Nat) : Int), .int rest, .int seed].set 1 (.int ((i : Nat) + 1)))) (fun _ _ => rfl)
        generalize upd H d (.lst ([.ref c, .int ((i : Nat) : Int), .int rest, .int seed].set 1 (.int ((i : Nat) + 1)))) = H1 at hd1 e1
        have h2' : H1 c = some (.lst (ns.map V.int)) := by rw [e1 c ncd]; exact h2
        -- cell >= 10 ** 18
        refine ⟨_, rfl, _, _, rfl, rfl, ⟨by decide, by decide, by decide⟩, ?_⟩
        refine ⟨_, _, rfl, rfl, _, rfl, ite2 (fun e3 => ?_) (fun e3 => ?_)⟩
        · refine ⟨_, rfl, _, rfl, _, _, rfl, rfl, hdv _, ?_⟩
          refine ⟨_, rfl, d, _, 2, 2, rfl, rfl, hd1, rfl, ?_⟩
          refine ⟨_, rfl, .inl ⟨_, rfl, ?_⟩⟩
          refine ⟨_, rfl, _, _, rfl, rfl, by omega, ?_⟩
          have e5 := fr H1 (.lst ([.ref c, .int ((i : Nat) + 1), .int rest, .int seed].set 2 (.int (cell / many)))) e1
          exact q _ _ (fF _ e5) e5 (next_aux ncd h2' rfl (by omega) (Int.ediv_nonneg hcell (by omega)) h4 h5) (Int.emod_nonneg _ (by omega)) (Int.emod_lt_of_pos _ (by omega))
        · -- draw[3] = ..
          refine ⟨_, rfl, d, _, 3, .int seed, rfl, rfl, .of hd1, at3 .., ?_⟩
          refine ⟨_, _, rfl, rfl, .inl ⟨by omega, by omega⟩, ?_⟩
          refine ⟨_, rfl, _, _, rfl, rfl, ?_⟩
          refine ⟨_, _, rfl, rfl, .inl ⟨_, rfl, ?_⟩⟩
          refine ⟨_, _, rfl, rfl, by show (0 : Int) < 2147483647; decide, ?_⟩
          refine ⟨_, rfl, d, _, 3, 3, rfl, rfl, hd1, rfl, ?_⟩
          have hs0 : 0 ≤ (seed * 48271 + cell + 11) % 2147483647 := Int.emod_nonneg _ (by decide)
          have hs1 : (seed * 48271 + cell + 11) % 2147483647 < 2147483647 := Int.emod_lt_of_pos _ (by decide)
          have e5 := fr H1 (.lst ([.ref c, .int ((i : Nat) + 1), .int rest, .int seed].set 3 (.int ((seed * 48271 + cell + 11) % 2147483647)))) e1
          have hd5 : (upd H1 d (.lst ([.ref c, .int ((i : Nat) + 1), .int rest, .int seed].set 3 (.int ((seed * 48271 + cell + 11) % 2147483647))))) d = some (.lst [.ref c, .int ((i : Nat) + 1), .int rest, .int ((seed * 48271 + cell + 11) % 2147483647)]) := upd_same
          dsimp only
          generalize (seed * 48271 + cell + 11) % 2147483647 = seed' at hs0 hs1 e5 hd5 ⊢
          refine ⟨_, rfl, d, _, 3, .int seed', rfl, rfl, .of hd5, at3 .., ?_⟩
          refine ⟨_, _, rfl, rfl, .inl ⟨by omega, by omega⟩, ?_⟩
          refine ⟨_, _, rfl, rfl, by show (0 : Int) < 2147483629; decide, .inl ⟨_, rfl, ?_⟩⟩
          refine ⟨_, _, rfl, rfl, ⟨by decide, by decide⟩, ?_⟩
          refine ⟨_, rfl, _, _, rfl, rfl, by omega, ?_⟩
          exact last seed' hs0 hs1 _ e5 ⟨_, _, hd5, by omega, h3⟩
      · -- draw[3] = ..
        refine ⟨_, rfl, d, _, 3, .int seed, rfl, rfl, L0, at3 .., ?_⟩
        refine ⟨_, _, rfl, rfl, .inl ⟨by omega, by omega⟩, ?_⟩
        refine ⟨_, _, rfl, rfl, .inl ⟨_, rfl, ?_⟩⟩
        refine ⟨_, _, rfl, rfl, by show (0 : Int) < 2147483647; decide, ?_⟩
        refine ⟨_, rfl, d, _, 3, 3, rfl, rfl, h1, rfl, ?_⟩
        have hs0 : 0 ≤ (seed * 48271 + 12345) % 2147483647 := Int.emod_nonneg _ (by decide)
        have hs1 : (seed * 48271 + 12345) % 2147483647 < 2147483647 := Int.emod_lt_of_pos _ (by decide)
        have e5 := fr H (.lst ([.ref c, .int pos, .int rest, .int seed].set 3 (.int ((seed * 48271 + 12345) % 2147483647)))) (fun _ _ => rfl)
        have hd5 : (upd H d (.lst ([.ref c, .int pos, .int rest, .int seed].set 3 (.int ((seed * 48271 + 12345) % 2147483647))))) d = some (.lst [.ref c, .int pos, .int rest, .int ((seed * 48271 + 12345) % 2147483647)]) := upd_same
        dsimp only
        generalize (seed * 48271 + 12345) % 2147483647 = seed' at hs0 hs1 e5 hd5 ⊢
        refine ⟨_, rfl, d, _, 3, .int seed', rfl, rfl, .of hd5, at3 .., ?_⟩
        refine ⟨_, _, rfl, rfl, .inl ⟨by omega, by omega⟩, ?_⟩
        refine ⟨_, _, rfl, rfl, by show (0 : Int) < 2147483629; decide, .inl ⟨_, rfl, ?_⟩⟩
        refine ⟨_, _, rfl, rfl, ⟨by decide, by decide⟩, ?_⟩
        refine ⟨_, rfl, _, _, rfl, rfl, by omega, ?_⟩
        exact last seed' hs0 hs1 _ e5 ⟨_, _, hd5, h0, h3⟩
end

/-! ### data in the heap -/
theorem SqT.ext {K : PySem.W.Frag} {H H' : Hp} {a : Addr} {xs : List V} (e : Same H H') (h : SqT K H a xs) : SqT K H' a xs := by
  rcases h with (h | ⟨o, h⟩) | h
  · exact .inl (.inl (e _ _ h))
  · exact .inl (.inr ⟨o, e _ _ h⟩)
  · exact .inr h
mutual
theorem Dp.ext {K : PySem.W.Frag} {H H' : Hp} (e : Same H H') : ∀ (d : PyData) (v : V), Dp K H v d → Dp K H' v d
  | .none, _, h => by cases h; exact .non
  | .bool b, _, h => by cases h; exact .bl b
  | .int i, _, h => by cases h; exact .int i
  | .str x, _, h => by cases h; exact .str x
  | .list ds, _, h => by
    cases h with
    | lst hs ha => exact .lst (e.seq hs) (DpAll.ext e ds _ ha)
  | .tuple ds, _, h => by
    cases h with
    | tup hs ha => exact .tup (SqT.ext e hs) (DpAll.ext e ds _ ha)
  | .dict _, _, h => by cases h
theorem DpAll.ext {K : PySem.W.Frag} {H H' : Hp} (e : Same H H') : ∀ (ds : List PyData) (vs : List V), DpAll K H vs ds → DpAll K H' vs ds
  | [], _, h => by cases h; exact .nil
  | d :: ds, _, h => by
    cases h with
    | cons h1 h2 => exact .cons (Dp.ext e d _ h1) (DpAll.ext e ds _ h2)
end
theorem DpAll.len {K : PySem.W.Frag} {H : Hp} : ∀ {ds : List PyData} {vs : List V}, DpAll K H vs ds → vs.length = ds.length
  | [], _, h => by cases h; rfl
  | d :: ds, _, h => by
    cases h with
    | cons h1 h2 => exact congrArg (· + 1) (DpAll.len h2)
theorem DpAll.get {K : PySem.W.Frag} {H : Hp} : ∀ {ds : List PyData} {vs : List V} {i : Nat} {d : PyData}, DpAll K H vs ds → ds[i]? = some d → ∃ v, vs[i]? = some v ∧ Dp K H v d
  | [], _, _, _, _, e => by simp at e
  | x :: ds, _, 0, d, h, e => by
    cases h with
    | cons h1 h2 =>
      have e1 : x = d := Option.some.inj e
      subst e1
      exact ⟨_, rfl, h1⟩
  | x :: ds, _, i + 1, d, h, e => by
    cases h with
    | cons h1 h2 =>
      obtain ⟨v, hv, hd⟩ := DpAll.get (i := i) h2 (by simpa using e)
      exact ⟨v, by simpa using hv, hd⟩
theorem tyL {K : PySem.W.Frag} {H : Hp} {a : Addr} {xs : List V} (h : SqL K H a xs) : TyX K H (.ref a) (.type "list") := by
  rcases h with (h | ⟨o, h⟩) | ⟨o, its, n, h, c, _⟩
  · exact .base (.lst h)
  · exact .base (.frz h)
  · exact .kList h c
theorem tyT {K : PySem.W.Frag} {H : Hp} {a : Addr} {xs : List V} (h : SqT K H a xs) : TyX K H (.ref a) (.type "tuple") := by
  rcases h with (h | ⟨o, h⟩) | ⟨o, its, n, h, c, _⟩
  · exact .base (.tup h)
  · exact .fTuple h
  · exact .kTuple h c
mutual
/-- no list within -/
def tupOnly : PyData → Bool
  | .list _ => false
  | .dict _ => false
  | .tuple ds => tupOnlys ds
  | _ => true
def tupOnlys : List PyData → Bool
  | [] => true
  | d :: ds => tupOnly d && tupOnlys ds
end
mutual
theorem Dp.away {K : PySem.W.Frag} {H : Hp} {D : Addr} {zs : List V} {o : HO} (hD : H D = some (.lst zs)) : ∀ (d : PyData) (v : V), tupOnly d = true → Dp K H v d → Dp K (upd H D o) v d
  | .none, _, _, h => by cases h; exact .non
  | .bool b, _, _, h => by cases h; exact .bl b
  | .int i, _, _, h => by cases h; exact .int i
  | .str x, _, _, h => by cases h; exact .str x
  | .list ds, _, e, _ => by unfold tupOnly at e; cases e
  | .tuple ds, _, e, h => by
    unfold tupOnly at e
    cases h with
    | @tup a _ _ hs ha =>
      refine .tup ?_ (DpAll.away hD ds _ e ha)
      rcases hs with (hs | ⟨o', hs⟩) | hs
      · exact .inl (.inl (by rw [upd_ne (ne_of hs hD (fun z => nomatch z))]; exact hs))
      · exact .inl (.inr ⟨o', by rw [upd_ne (ne_of hs hD (fun z => nomatch z))]; exact hs⟩)
      · exact .inr hs
  | .dict _, _, _, h => by cases h
theorem DpAll.away {K : PySem.W.Frag} {H : Hp} {D : Addr} {zs : List V} {o : HO} (hD : H D = some (.lst zs)) : ∀ (ds : List PyData) (vs : List V), tupOnlys ds = true → DpAll K H vs ds → DpAll K (upd H D o) vs ds
  | [], _, _, h => by cases h; exact .nil
  | d :: ds, _, e, h => by
    unfold tupOnlys at e
    rw [Bool.and_eq_true] at e
    cases h with
    | cons h1 h2 => exact .cons (Dp.away hD d _ e.1 h1) (DpAll.away hD ds _ e.2 h2)
end
theorem DpAll.snoc {K : PySem.W.Frag} {H : Hp} : ∀ {ds : List PyData} {xs : List V} {v : V} {d : PyData}, DpAll K H xs ds → Dp K H v d → DpAll K H (xs ++ [v]) (ds ++ [d])
  | [], _, _, _, h, h2 => by cases h; exact .cons h2 .nil
  | _ :: ds, _, _, _, h, h2 => by
    cases h with
    | cons a b => exact .cons a (DpAll.snoc b h2)
theorem at_0 {α : Type} {xs : List α} {i : Nat} {v : α} (h : xs[i]? = some v) : atI xs (0 + (i : Int)) = some v := by
  rw [Int.zero_add]
  exact atI_nat h
mutual
/-- what is made of tuples stands when another list is changed -/
theorem Dp.fd {K : PySem.W.Frag} {H H' : Hp} {D : Addr} (hD : ∃ zs, H D = some (.lst zs)) (e : Fd D H H') : ∀ (d : PyData) (v : V), tupOnly d = true → Dp K H v d → Dp K H' v d
  | .none, _, _, h => by cases h; exact .non
  | .bool b, _, _, h => by cases h; exact .bl b
  | .int i, _, _, h => by cases h; exact .int i
  | .str x, _, _, h => by cases h; exact .str x
  | .list ds, _, e, _ => by unfold tupOnly at e; cases e
  | .tuple ds, _, e', h => by
    unfold tupOnly at e'
    obtain ⟨zs, hz⟩ := hD
    cases h with
    | @tup a _ _ hs ha =>
      refine .tup ?_ (DpAll.fd ⟨zs, hz⟩ e ds _ e' ha)
      rcases hs with (hs | ⟨o', hs⟩) | hs
      · exact .inl (.inl (e _ _ (ne_of hs hz (fun z => nomatch z)) hs))
      · exact .inl (.inr ⟨o', e _ _ (ne_of hs hz (fun z => nomatch z)) hs⟩)
      · exact .inr hs
  | .dict _, _, _, h => by cases h
theorem DpAll.fd {K : PySem.W.Frag} {H H' : Hp} {D : Addr} (hD : ∃ zs, H D = some (.lst zs)) (e : Fd D H H') : ∀ (ds : List PyData) (vs : List V), tupOnlys ds = true → DpAll K H vs ds → DpAll K H' vs ds
  | [], _, _, h => by cases h; exact .nil
  | d :: ds, _, e', h => by
    unfold tupOnlys at e'
    rw [Bool.and_eq_true] at e'
    cases h with
    | cons h1 h2 => exact .cons (Dp.fd hD e d _ e'.1 h1) (DpAll.fd hD e ds _ e'.2 h2)
end

/-- over a list's items with their places, into a list -/
theorem lc_enum {K : PySem.W.Frag} {a : Addr} {xs : List V} {g : TG} {tt : TT} {te : TE} {vs : List Nat} {σ : L2.St} {H1 : Hp} {D : Addr} {Qd : Hp → Prop} (Pv : Nat → Hp → Prop) (h0 : Pv 0 (upd H1 D (.lst []))) (hl : ∀ i H, i ≤ xs.length → Pv i H → SqL K H a xs)
    (hs : ∀ i x H T, xs[i]? = some x → Pv i H → H T = none → g (.ref T) (wipe σ vs) (upd H T (.tup [.int ((i : Nat) : Int), x])) fun σ2 H2 => wipe σ2 vs = wipe σ vs ∧ tt σ2 H2 fun b H3 =>
      if b = true then te σ2 H3 fun y H4 => ∃ acc, H4 D = some (.lst acc) ∧ acc.length < sizeLine ∧ Pv (i + 1) (upd H4 D (.lst (acc ++ [y]))) else Pv (i + 1) H3) (hd : ∀ H, Pv xs.length H → Qd H) :
    ∃ W : Nat → Nat → Hp → Prop, (∃ m, W 0 m (upd H1 D (.lst []))) ∧ ∀ i m H, W i m H →
      ((Ite K a).stop i H ∧ Qd H) ∨ ((Ite K a).go i H ∧ ∃ Nx : Hp → Prop, (∀ H', Nx H' → ∃ m', m' < m ∧ W (i + 1) m' H') ∧ ∀ x H', (Ite K a).yld i H x H' → g x (wipe σ vs) H' fun σ2 H2 => wipe σ2 vs = wipe σ vs ∧ tt σ2 H2 fun b H3 =>
        if b = true then te σ2 H3 fun y H4 => ∃ acc, H4 D = some (.lst acc) ∧ acc.length < sizeLine ∧ Nx (upd H4 D (.lst (acc ++ [y]))) else Nx H3) := by
  refine ⟨fun i m H => m = xs.length - i ∧ i ≤ xs.length ∧ Pv i H, ⟨xs.length, by simp, Nat.zero_le _, h0⟩, ?_⟩
  rintro i m H ⟨rfl, hi, p⟩
  have q := hl i H hi p
  by_cases hlt : i < xs.length
  · refine .inr ⟨⟨xs, xs[i], q, by simp [hlt]⟩, Pv (i + 1), fun H' p' => ⟨xs.length - (i + 1), by omega, rfl, hlt, p'⟩, fun x H' y => ?_⟩
    obtain ⟨T, z, rfl, nT, rfl, hz⟩ := y
    exact hs i z H T (hz xs q) p nT
  · have e : i = xs.length := by omega
    subst e
    exact .inl ⟨⟨xs, q, Nat.le_refl _⟩, hd H p⟩

/-! ### the kinds of expressions, and their forms -/
inductive Kd where | int | text | truth
deriving DecidableEq
def Kd.s : Kd → String | .int => "int" | .text => "text" | .truth => "truth"
def kdV : Option Kd → V | none => .non | some k => .str (Str.ofString k.s)
def kdD : Option Kd → PyData | none => .none | some k => .str (Str.ofString k.s)
inductive Ow where | neg | nt | or | and | lt | le | eq | ne | ge | gt | add | sub | mul | div | mod | missing | length | starts | coalesce | ite
deriving DecidableEq
def Ow.s : Ow → String
  | .neg => "negate" | .nt => "not" | .or => "or" | .and => "and" | .lt => "<" | .le => "<=" | .eq => "=" | .ne => "!=" | .ge => ">=" | .gt => ">" | .add => "+" | .sub => "-" | .mul => "*" | .div => "div" | .mod => "mod" | .missing => "missing" | .length => "length" | .starts => "starts" | .coalesce => "coalesce" | .ite => "if"
def Ow.w (o : Ow) : Str := Str.ofString o.s
def Ow.ar : Ow → Nat | .neg => 1 | .nt => 1 | .missing => 1 | .length => 1 | .ite => 3 | _ => 2
def tld (l : List Str) : Str := Txt.join (Str.ofString ".") l
inductive Et where
  | num (i : Int) | text (x : Str) | truth (i : Int) | null | name (x : Str) | field (x y : Str) | op1 (o : Ow) (a : Et) | op2 (o : Ow) (a b : Et) | op3 (o : Ow) (a b c : Et)
def Et.d : Et → PyData
  | .num i => .tuple [.str "number", .int i]
  | .text x => .tuple [.str "text", .str x]
  | .truth i => .tuple [.str "truth", .int i]
  | .null => .tuple [.str "null"]
  | .name x => .tuple [.str "name", .str x]
  | .field x y => .tuple [.str "field", .str x, .str y]
  | .op1 o a => .tuple [.str o.w, a.d]
  | .op2 o a b => .tuple [.str o.w, a.d, b.d]
  | .op3 o a b c => .tuple [.str o.w, a.d, b.d, c.d]
def Et.ht : Et → Nat
  | .op1 _ a => a.ht + 1
  | .op2 _ a b => max a.ht b.ht + 1
  | .op3 _ a b c => max a.ht (max b.ht c.ht) + 1
  | _ => 0
def Et.ok : Et → Prop
  | .num i => -1000000000000000 ≤ i ∧ i ≤ 1000000000000000
  | .text x => x.length ≤ 100 ∧ PyData.strOk x = true
  | .truth i => i = 0 ∨ i = 1
  | .name x => x.length ≤ 100 ∧ (tld [x]).length ≤ 900 ∧ PyData.strOk x = true
  | .field x y => x.length ≤ 100 ∧ y.length ≤ 100 ∧ (tld [x, y]).length ≤ 900 ∧ PyData.strOk x = true ∧ PyData.strOk y = true
  | .op1 o a => o.ar = 1 ∧ a.ok
  | .op2 o a b => o.ar = 2 ∧ a.ok ∧ b.ok
  | .op3 o a b c => o.ar = 3 ∧ a.ok ∧ b.ok ∧ c.ok
  | _ => True
structure Col where
  src : Option Str
  nm : Str
  kd : Option Kd
def Col.ok (c : Col) : Prop := PyData.strOk c.nm = true ∧ ∀ x, c.src = some x → PyData.strOk x = true
def srcD : Option Str → PyData | none => .none | some x => .str x
def Col.d (c : Col) : PyData := .tuple [srcD c.src, .str c.nm, kdD c.kd]
/-- the plain form, the kind, the size -/
abbrev Cr := PyData × Option Kd × Nat
def need (k : Kd) (x : Option Kd) : Bool := decide (x = none) || decide (x = some k)
def exM : Kd → Str | .int => "expected an integer" | .text => "expected a text" | .truth => "expected a truth value"
def common (a b : Option Kd) : Except Str (Option Kd) :=
  match a with
  | none => .ok b
  | some k => if need k b = true then .ok (some k) else .error "different kinds"
/-- what an operator wants of its operands, and what it gives -/
def Ow.want : Ow → Option (Kd × Kd)
  | .neg => some (.int, .int) | .add => some (.int, .int) | .sub => some (.int, .int) | .mul => some (.int, .int) | .div => some (.int, .int) | .mod => some (.int, .int)
  | .nt => some (.truth, .truth) | .and => some (.truth, .truth) | .or => some (.truth, .truth) | .length => some (.text, .int) | .starts => some (.text, .truth) | _ => none
def Ow.cmp : Ow → Bool
  | .lt => true | .le => true | .eq => true | .ne => true | .ge => true | .gt => true | _ => false
def opK (o : Ow) (ks : List (Option Kd)) : Except Str (Option Kd) :=
  match o.want with
  | some (x, r) => if ks.all (need x) = true then .ok (some r) else .error (exM x)
  | none =>
    match o, ks with
    | .missing, _ => .ok (some .truth)
    | .ite, [a, b, c] => if need .truth a = true then common b c else .error (exM .truth)
    | o, [a, b] => (common a b).map fun c => if o.cmp = true then some .truth else c
    | _, _ => .ok none
def Ow.plain : Ow → String
  | .add => "add" | .sub => "subtract" | .mul => "multiply" | .div => "divide" | .mod => "remainder" | .lt => "less" | .eq => "equal" | .ite => "choose" | o => o.s
def opF (o : Ow) (ps : List PyData) : PyData :=
  match o, ps with
  | .le, [a, b] => .tuple [.str "not", .tuple [.str "less", b, a]]
  | .ne, [a, b] => .tuple [.str "not", .tuple [.str "equal", a, b]]
  | .ge, [a, b] => .tuple [.str "not", .tuple [.str "less", a, b]]
  | .gt, [a, b] => .tuple [.str "less", b, a]
  | .coalesce, [a, b] => .tuple [.str "choose", .tuple [.str "missing", a], b, a]
  | o, ps => .tuple (.str (Str.ofString o.plain) :: ps)
def opZ (o : Ow) (ss : List Nat) : Nat :=
  match o, ss with
  | .coalesce, [a, b] => 2 + 2 * a + b
  | .le, ss => 2 + ss.sum
  | .ne, ss => 2 + ss.sum
  | .ge, ss => 2 + ss.sum
  | _, ss => 1 + ss.sum
def seqE {α : Type} : List (Except Str α) → Except Str (List α)
  | [] => .ok []
  | .error m :: _ => .error m
  | .ok x :: l => match seqE l with | .ok xs => .ok (x :: xs) | .error m => .error m
def opC (o : Ow) (rs : List (Except Str Cr)) : Except Str Cr :=
  match seqE rs with
  | .error m => .error m
  | .ok xs => match opK o (xs.map (·.2.1)) with | .error m => .error m | .ok k => .ok (opF o (xs.map (·.1)), k, opZ o (xs.map (·.2.2)))
def plcs (cols : List Col) (p : Col → Bool) : List Nat := (List.range cols.length).filter fun i => (cols[i]?.map p).getD false
def namedC (cols : List Col) (told : Str) (p : Col → Bool) : Except Str Cr :=
  match plcs cols p with
  | [] => .error ((Str.empty ++ Str.ofString "unknown name: ") ++ told)
  | [i] => .ok (.tuple [.str "column", .int (i : Nat)], (cols[i]?.map (·.kd)).getD none, 1)
  | _ => .error ((Str.empty ++ Str.ofString "ambiguous name: ") ++ told)
def comp (cols : List Col) : Et → Except Str Cr
  | .num i => .ok (.tuple [.str "constant", .int i], some .int, 1)
  | .text x => .ok (.tuple [.str "constant", .str x], some .text, 1)
  | .truth i => .ok (.tuple [.str "constant", .int i], some .truth, 1)
  | .null => .ok (.tuple [.str "constant", .none], none, 1)
  | .name x => namedC cols (tld [x]) fun c => decide (c.nm = x)
  | .field x y => namedC cols (tld [x, y]) fun c => decide (c.src = some x) && decide (c.nm = y)
  | .op1 o a => opC o [comp cols a]
  | .op2 o a b => opC o [comp cols a, comp cols b]
  | .op3 o a b c => opC o [comp cols a, comp cols b, comp cols c]
theorem wne (a b : String) (h : (Str.ofString a == Str.ofString b) = false) : decide (V.str (Str.ofString a) = V.str (Str.ofString b)) = false := by
  refine decide_eq_false fun e => ?_
  rw [V.str.inj e] at h
  have : (Str.ofString b == Str.ofString b) = true := beq_self_eq_true _
  rw [this] at h
  cases h
theorem weq (a : Str) : decide (V.str a = V.str a) = true := decide_eq_true rfl
theorem ow_missing (o : Ow) : decide (V.str o.w = V.str "missing") = decide (o = .missing) := by cases o <;> first | exact weq _ | exact wne _ _ (by decide)
theorem ow_if (o : Ow) : decide (V.str o.w = V.str "if") = decide (o = .ite) := by cases o <;> first | exact weq _ | exact wne _ _ (by decide)
theorem ow_le (o : Ow) : decide (V.str o.w = V.str "<=") = decide (o = .le) := by cases o <;> first | exact weq _ | exact wne _ _ (by decide)
theorem ow_ne (o : Ow) : decide (V.str o.w = V.str "!=") = decide (o = .ne) := by cases o <;> first | exact weq _ | exact wne _ _ (by decide)
theorem ow_ge (o : Ow) : decide (V.str o.w = V.str ">=") = decide (o = .ge) := by cases o <;> first | exact weq _ | exact wne _ _ (by decide)
theorem ow_gt (o : Ow) : decide (V.str o.w = V.str ">") = decide (o = .gt) := by cases o <;> first | exact weq _ | exact wne _ _ (by decide)
theorem ow_coalesce (o : Ow) : decide (V.str o.w = V.str "coalesce") = decide (o = .coalesce) := by cases o <;> first | exact weq _ | exact wne _ _ (by decide)
theorem ow_null (o : Ow) : decide (V.str o.w = V.str "null") = false := by cases o <;> exact wne _ _ (by decide)
theorem ow_number (o : Ow) : decide (V.str o.w = V.str "number") = false := by cases o <;> exact wne _ _ (by decide)
theorem ow_names (o : Ow) : inV (.str o.w) [.str "name", .str "field"] = false := by cases o <;> decide +kernel
theorem ow_texts (o : Ow) : inV (.str o.w) [.str "text", .str "truth"] = false := by cases o <;> decide +kernel
theorem ow_cmp (o : Ow) : inV (.str o.w) (["<", "<=", "=", "!=", ">=", ">"].map fun s => V.str (Str.ofString s)) = o.cmp := by cases o <;> decide +kernel
def Ow.lrg : Ow → Bool | .le => true | .ne => true | .ge => true | _ => false
theorem ow_lrg (o : Ow) : inV (.str o.w) (["<=", "!=", ">="].map fun s => V.str (Str.ofString s)) = o.lrg := by cases o <;> decide +kernel
theorem need_in (x : Kd) (k : Option Kd) : inV (kdV k) [.non, .str (Str.ofString x.s)] = need x k := by
  cases k with
  | none => cases x <;> decide +kernel
  | some k => cases k <;> cases x <;> decide +kernel
theorem kd_flat (k : Option Kd) : flatV (kdV k) = true := by cases k <;> rfl
theorem kd_non (k : Option Kd) : decide (kdV k = .non) = decide (k = none) := by
  cases k with
  | none => rfl
  | some k => exact (decide_eq_false fun z => nomatch z).trans (decide_eq_false fun z => nomatch z).symm
theorem dp_kd {K : PySem.W.Frag} {H : Hp} (k : Option Kd) : Dp K H (kdV k) (kdD k) := by
  cases k with
  | none => exact .non
  | some k => exact .str _
theorem exM_len (x : Kd) : (exM x).length ≤ 1000 := by cases x <;> decide +kernel
theorem dp_tup {K : PySem.W.Frag} {H : Hp} {p : V} {ds : List PyData} (h : Dp K H p (.tuple ds)) : ∃ a xs, p = .ref a ∧ SqT K H a xs ∧ DpAll K H xs ds := by
  cases h with
  | tup hs ha => exact ⟨_, _, rfl, hs, ha⟩
/-! ### operands and results -/
def crD (r : Cr) : PyData := .tuple [r.1, kdD r.2.1, .int ((r.2.2 : Nat) : Int)]
theorem seqE_snoc {α : Type} : ∀ {l : List (Except Str α)} {rs : List α} {x : α}, seqE l = .ok rs → seqE (l ++ [.ok x]) = .ok (rs ++ [x])
  | [], rs, x, h => by
    cases h
    rfl
  | .error m :: l, rs, x, h => by cases h
  | .ok y :: l, rs, x, h => by
    unfold seqE at h
    cases e : seqE l with
    | error m => rw [e] at h; cases h
    | ok ys =>
      rw [e] at h
      cases h
      show (match seqE (l ++ [.ok x]) with | .ok xs => _ | .error m => _) = _
      rw [seqE_snoc e]
      rfl
theorem seqE_err {α : Type} {m : Str} : ∀ {l r : List (Except Str α)} {rs : List α}, seqE l = .ok rs → seqE (l ++ .error m :: r) = .error m
  | [], r, rs, h => rfl
  | .error m :: l, r, rs, h => by cases h
  | .ok y :: l, r, rs, h => by
    unfold seqE at h
    cases e : seqE l with
    | error m => rw [e] at h; cases h
    | ok ys =>
      show (match seqE (l ++ .error m :: r) with | .ok xs => _ | .error m => _) = _
      rw [seqE_err e]
theorem seqE_len {α : Type} : ∀ {l : List (Except Str α)} {rs : List α}, seqE l = .ok rs → rs.length = l.length
  | [], rs, h => by
    cases h
    rfl
  | .error m :: l, rs, h => by cases h
  | .ok y :: l, rs, h => by
    unfold seqE at h
    cases e : seqE l with
    | error m => rw [e] at h; cases h
    | ok ys =>
      rw [e] at h
      cases h
      rw [List.length_cons, List.length_cons, seqE_len e]
theorem seqE_mem {α : Type} : ∀ {l : List (Except Str α)} {rs : List α}, seqE l = .ok rs → ∀ x ∈ rs, Except.ok x ∈ l
  | [], rs, h, x, hx => by
    cases h
    cases hx
  | .error m :: l, rs, h, x, hx => by cases h
  | .ok y :: l, rs, h, x, hx => by
    unfold seqE at h
    cases e : seqE l with
    | error m => rw [e] at h; cases h
    | ok ys =>
      rw [e] at h
      cases h
      rcases List.mem_cons.mp hx with rfl | hx
      · exact List.mem_cons_self
      · exact List.mem_cons_of_mem _ (seqE_mem e x hx)
theorem only_all : ∀ {ds : List PyData}, (∀ d ∈ ds, tupOnly d = true) → tupOnlys ds = true
  | [], _ => rfl
  | d :: ds, h => by
    unfold tupOnlys
    rw [h d List.mem_cons_self, only_all fun x hx => h x (List.mem_cons_of_mem _ hx)]
    rfl
theorem only_tup {ds : List PyData} (h : ∀ d ∈ ds, tupOnly d = true) : tupOnly (.tuple ds) = true := by
  unfold tupOnly
  exact only_all h
theorem opF_only (o : Ow) {ps : List PyData} (h : ∀ d ∈ ps, tupOnly d = true) : tupOnly (opF o ps) = true := by
  have plain : tupOnly (.tuple (.str (Str.ofString o.plain) :: ps)) = true := only_tup fun d hd => by
    rcases List.mem_cons.mp hd with rfl | hd
    · rfl
    · exact h d hd
  have two : ∀ {a b : PyData}, ps = [a, b] → tupOnly a = true ∧ tupOnly b = true := fun e => by
    rw [e] at h
    exact ⟨h _ List.mem_cons_self, h _ (List.mem_cons_of_mem _ List.mem_cons_self)⟩
  have three : ∀ {a b c : PyData}, tupOnly a = true → tupOnly b = true → tupOnly c = true → tupOnly (.tuple [a, b, c]) = true := fun ha hb hc => only_tup fun d hd => by
    simp only [List.mem_cons, List.not_mem_nil, or_false] at hd
    rcases hd with rfl | rfl | rfl <;> assumption
  have pair : ∀ {a b : PyData}, tupOnly a = true → tupOnly b = true → tupOnly (.tuple [a, b]) = true := fun ha hb => only_tup fun d hd => by
    simp only [List.mem_cons, List.not_mem_nil, or_false] at hd
    rcases hd with rfl | rfl <;> assumption
  unfold opF
  split
  · obtain ⟨h1, h2⟩ := two rfl
    exact pair rfl (three rfl h2 h1)
  · obtain ⟨h1, h2⟩ := two rfl
    exact pair rfl (three rfl h1 h2)
  · obtain ⟨h1, h2⟩ := two rfl
    exact pair rfl (three rfl h1 h2)
  · obtain ⟨h1, h2⟩ := two rfl
    exact three rfl h2 h1
  · obtain ⟨h1, h2⟩ := two rfl
    exact only_tup fun d hd => by
      simp only [List.mem_cons, List.not_mem_nil, or_false] at hd
      rcases hd with rfl | rfl | rfl | rfl
      · rfl
      · exact pair rfl h1
      · exact h2
      · exact h1
  · exact plain
theorem namedC_only {cols : List Col} {told : Str} {p : Col → Bool} {r : Cr} (h : namedC cols told p = .ok r) : tupOnly r.1 = true := by
  unfold namedC at h
  split at h
  · cases h
  · cases h
    rfl
  · cases h
theorem opC_inv {o : Ow} {l : List (Except Str Cr)} {r : Cr} (h : opC o l = .ok r) : ∃ xs k, seqE l = .ok xs ∧ opK o (xs.map (·.2.1)) = .ok k ∧ r = (opF o (xs.map (·.1)), k, opZ o (xs.map (·.2.2))) := by
  unfold opC at h
  cases e : seqE l with
  | error m => rw [e] at h; cases h
  | ok xs =>
    rw [e] at h
    dsimp only at h
    cases e2 : opK o (xs.map (·.2.1)) with
    | error m => rw [e2] at h; cases h
    | ok k =>
      rw [e2] at h
      cases h
      exact ⟨xs, k, rfl, e2, rfl⟩
theorem opC_only {o : Ow} {l : List (Except Str Cr)} {r : Cr} (h : opC o l = .ok r) (hl : ∀ x, Except.ok x ∈ l → tupOnly x.1 = true) : tupOnly r.1 = true := by
  obtain ⟨xs, k, e1, _, rfl⟩ := opC_inv h
  refine opF_only o fun d hd => ?_
  obtain ⟨x, hx, rfl⟩ := List.mem_map.mp hd
  exact hl x (seqE_mem e1 x hx)
theorem comp_only (cols : List Col) : ∀ (e : Et) (r : Cr), comp cols e = .ok r → tupOnly r.1 = true
  | .num i, r, h => by cases h; rfl
  | .text i, r, h => by cases h; rfl
  | .truth i, r, h => by cases h; rfl
  | .null, r, h => by cases h; rfl
  | .name x, r, h => namedC_only h
  | .field x y, r, h => namedC_only h
  | .op1 o a, r, h => opC_only h fun x hx => by
    rw [List.mem_singleton] at hx
    exact comp_only cols a x hx.symm
  | .op2 o a b, r, h => opC_only h fun x hx => by
    simp only [List.mem_cons, List.not_mem_nil, or_false] at hx
    rcases hx with hx | hx
    · exact comp_only cols a x hx.symm
    · exact comp_only cols b x hx.symm
  | .op3 o a b c, r, h => opC_only h fun x hx => by
    simp only [List.mem_cons, List.not_mem_nil, or_false] at hx
    rcases hx with hx | hx | hx
    · exact comp_only cols a x hx.symm
    · exact comp_only cols b x hx.symm
    · exact comp_only cols c x hx.symm
theorem crD_only {r : Cr} (h : tupOnly r.1 = true) : tupOnly (crD r) = true := only_tup fun d hd => by
  simp only [List.mem_cons, List.not_mem_nil, or_false] at hd
  rcases hd with rfl | rfl | rfl
  · exact h
  · cases r.2.1 <;> rfl
  · rfl
/-- an operator with its operands -/
theorem op_view (cols : List Col) (e : Et) (h : e.ok) : (∃ i, e = .num i) ∨ (∃ x, e = .text x) ∨ (∃ i, e = .truth i) ∨ e = .null ∨ (∃ told p, (∃ x, e = .name x ∧ p = (fun c : Col => decide (c.nm = x)) ∧ told = tld [x]) ∧ comp cols e = namedC cols told p) ∨ (∃ told p, (∃ x y, e = .field x y ∧ p = (fun c : Col => decide (c.src = some x) && decide (c.nm = y)) ∧ told = tld [x, y]) ∧ comp cols e = namedC cols told p) ∨
    ∃ (o : Ow) (kids : List Et), e.d = .tuple (.str o.w :: kids.map Et.d) ∧ kids.length = o.ar ∧ comp cols e = opC o (kids.map (comp cols)) ∧ ∀ k ∈ kids, k.ok ∧ k.ht < e.ht := by
  cases e with
  | num i => exact .inl ⟨i, rfl⟩
  | text x => exact .inr (.inl ⟨x, rfl⟩)
  | truth i => exact .inr (.inr (.inl ⟨i, rfl⟩))
  | null => exact .inr (.inr (.inr (.inl rfl)))
  | name x => exact .inr (.inr (.inr (.inr (.inl ⟨_, _, ⟨x, rfl, rfl, rfl⟩, rfl⟩))))
  | field x y => exact .inr (.inr (.inr (.inr (.inr (.inl ⟨_, _, ⟨x, y, rfl, rfl, rfl⟩, rfl⟩)))))
  | op1 o a => exact .inr (.inr (.inr (.inr (.inr (.inr ⟨o, [a], rfl, h.1.symm, rfl, fun k hk => by
      rw [List.mem_singleton.mp hk]
      exact ⟨h.2, Nat.lt_succ_self _⟩⟩)))))
  | op2 o a b => exact .inr (.inr (.inr (.inr (.inr (.inr ⟨o, [a, b], rfl, h.1.symm, rfl, fun k hk => by
      simp only [List.mem_cons, List.not_mem_nil, or_false] at hk
      show _ ∧ _ < max a.ht b.ht + 1
      rcases hk with rfl | rfl
      · exact ⟨h.2.1, by omega⟩
      · exact ⟨h.2.2, by omega⟩⟩)))))
  | op3 o a b c => exact .inr (.inr (.inr (.inr (.inr (.inr ⟨o, [a, b, c], rfl, h.1.symm, rfl, fun k hk => by
      simp only [List.mem_cons, List.not_mem_nil, or_false] at hk
      show _ ∧ _ < max a.ht (max b.ht c.ht) + 1
      rcases hk with rfl | rfl | rfl
      · exact ⟨h.2.1, by omega⟩
      · exact ⟨h.2.2.1, by omega⟩
      · exact ⟨h.2.2.2, by omega⟩⟩)))))
theorem dp_kdV {K : PySem.W.Frag} {H : Hp} {v : V} {k : Option Kd} (h : Dp K H v (kdD k)) : v = kdV k := by
  cases k with
  | none => cases h; rfl
  | some k => cases h; rfl
theorem dp_cr {K : PySem.W.Frag} {H : Hp} {v : V} {r : Cr} (h : Dp K H v (crD r)) : ∃ t pv, v = .ref t ∧ SqT K H t [pv, kdV r.2.1, .int ((r.2.2 : Nat) : Int)] ∧ Dp K H pv r.1 := by
  obtain ⟨t, xs, rfl, ht, hx⟩ := dp_tup h
  cases hx with
  | cons g1 g2 =>
  cases g2 with
  | cons g2 g3 =>
  cases g3 with
  | cons g3 g4 =>
  cases g3
  cases g4
  rw [dp_kdV g2] at ht
  exact ⟨t, _, rfl, ht, g1⟩

/-! ### compile_expression -/
/-- the constants of the module -/
structure Kg (K : PySem.W.Frag) (w : World) (mg : Str → Option Value) (aO aC aE aP aL : Addr) (eO eE eP : Array DictEntry) (nO nE nP : Nat) : Prop where
  OPERATORS : ∃ u, mg "OPERATORS" = some u ∧ RelV (.ref aO) u
  COMPARISONS : ∃ u, mg "COMPARISONS" = some u ∧ RelV (.ref aC) u
  EXPECTED : ∃ u, mg "EXPECTED" = some u ∧ RelV (.ref aE) u
  PLAIN_WORDS : ∃ u, mg "PLAIN_WORDS" = some u ∧ RelV (.ref aP) u
  LARGER : ∃ u, mg "LARGER" = some u ∧ RelV (.ref aL) u
  MOST_SIZE : ∃ u, mg "MOST_SIZE" = some u ∧ RelV (.int 200) u
  OPERATORS_D : KDict K w aO eO nO
  EXPECTED_D : KDict K w aE eE nE
  PLAIN_WORDS_D : KDict K w aP eP nP
  cmp : ∀ H : Hp, SqT K H aC (["<", "<=", "=", "!=", ">=", ">"].map fun s => V.str (Str.ofString s))
  lrg : ∀ H : Hp, SqT K H aL (["<=", "!=", ">="].map fun s => V.str (Str.ofString s))
  ex : ∀ x : Kd, ∃ u, PySem.W.nsIn K aE (Str.ofString x.s) = some (some u) ∧ RelV (.str (exM x)) u
  opI : ∀ (o : Ow) (x r : Kd), o.want = some (x, r) → ∃ t : Addr, PySem.W.nsIn K aO o.w = some (some (.ref t)) ∧ ∀ H : Hp, SqT K H t [.str (Str.ofString x.s), .str (Str.ofString r.s)]
  opM : ∀ o : Ow, o.want = none → PySem.W.nsIn K aO o.w = some none
  pl : ∀ o : Ow, (o.lrg || decide (o = .gt) || decide (o = .coalesce)) = false → (∃ u, PySem.W.nsIn K aP o.w = some (some u) ∧ RelV (.str (Str.ofString o.plain)) u) ∨ (PySem.W.nsIn K aP o.w = some none ∧ o.plain = o.s)
def sp_ek (C : Addr) : Sp := fun vs H Q E => ∃ (k : Option Kd) (x : Kd), vs = [kdV k, .str (Str.ofString x.s)] ∧ (need x k = true → ∀ H', Same H H' → Q .non H') ∧ (need x k = false → Pf C (exM x) E H)
def sp_ck (C : Addr) : Sp := fun vs H Q E => ∃ a b : Option Kd, vs = [kdV a, kdV b] ∧ (∀ c, common a b = .ok c → ∀ H', Same H H' → Q (kdV c) H') ∧ ∀ m, common a b = .error m → Pf C m E H
def sp_rk (C : Addr) : Sp := fun vs H Q E => ∃ (o : Ow) (ks : List (Option Kd)) (a : Addr), vs = [.str o.w, .ref a] ∧ H a = some (.lst (ks.map kdV)) ∧ ks.length = o.ar ∧ (∀ k, opK o ks = .ok k → ∀ H', Same H H' → Q (kdV k) H') ∧ ∀ m, opK o ks = .error m → Pf C m E H
section
variable {P : Program} {w : World} {K : PySem.W.Frag} {mg : Str → Option Value} {base : Heap} {C : Addr} {aO aC aE aP aL : Addr} {eO eE eP : Array DictEntry} {nO nE nP : Nat}
theorem ok_ek {f : Addr} {fd : FuncData} (F : Fun K "expect_kind" "expect_kind" s_expect_kind f fd) (M : Mg mg) (PB : PrbE P w K mg base C) (G : Kg K w mg aO aC aE aP aL eO eE eP nO nE nP) : FnOk P w K mg base (L2.CX P w) 3 f fd ["kind", "expected"] (sp_ek C) := by
  refine F.okX sc_expect_kind (fun vs H Q E h => ?_) (fun cdv A outer s H vs Q E hr h => ?_)
  · obtain ⟨k, x, rfl, _⟩ := h
    rfl
  obtain ⟨k, x, rfl, q, fl⟩ := h
  refine ⟨_, (pss_one (ps_if (pt_cmpR (notInK K) (pv 0) (pe_tup (pa_cons pe_non (pa_cons (pv 1) pa_nil))) (by rfl)) (pss_one (ps_raiseM PB rfl (takes_of rfl rfl rfl rfl) hr (by first | decide | omega) (by rfl) (pa_cons (pe_ix ix_kdict (C8.pe_gc (by rfl) G.EXPECTED) (pv 1) (fun _ _ => rfl)) pa_nil))) pss_nil)), ?_⟩
  refine ⟨_, rfl, _, rfl, by show 2 ≤ sizeLine; decide, fun p np => ⟨p, _, rfl, .inr (.of upd_same), kd_flat k, rfl, ?_⟩⟩
  have sp := same_upd np (o := .tup [.non, .str (Str.ofString x.s)])
  rw [if_pos rfl, need_in]
  refine ⟨_, rfl, ?_⟩
  cases hn : need x k with
  | true => exact iteF (q hn _ sp)
  | false =>
    obtain ⟨u, e1, e2⟩ := G.ex x
    exact iteT ⟨_, rfl, _, _, _, rfl, rfl, ⟨_, _, _, G.EXPECTED_D.1, G.EXPECTED_D.2, e1, e2⟩, _, rfl, exM_len x, fun d H' nd s' e => (fl hn).ext sp d H' nd s' e⟩
theorem ok_ck {f : Addr} {fd : FuncData} (F : Fun K "common_kind" "common_kind" s_common_kind f fd) (M : Mg mg) (PB : PrbE P w K mg base C) : FnOk P w K mg base (L2.CX P w) 3 f fd ["first", "second"] (sp_ck C) := by
  refine F.okX sc_common_kind (fun vs H Q E h => ?_) (fun cdv A outer s H vs Q E hr h => ?_)
  · obtain ⟨a, b, rfl, _⟩ := h
    rfl
  obtain ⟨a, b, rfl, q, fl⟩ := h
  refine ⟨_, (pss_cons (ps_if (pt_cmpR op_isN (pv 0) pe_non (nomark _)) (pss_one (ps_ret (pv 1))) pss_nil)
      (pss_cons (ps_if (pt_cmpR (notInK K) (pv 1) (pe_tup (pa_cons pe_non (pa_cons (pv 0) pa_nil))) (by rfl)) (pss_one (ps_raiseM PB rfl (takes_of rfl rfl rfl rfl) hr (by first | decide | omega) (by rfl) (pa_cons pe_str pa_nil))) pss_nil)
      (pss_one (ps_ret (pv 0))))), ?_⟩
  refine ⟨_, rfl, rfl, _, rfl, ?_⟩
  rw [kd_non]
  cases a with
  | none => exact iteT ⟨_, rfl, q b rfl H fun _ _ h => h⟩
  | some x =>
    refine iteF ?_
    refine ⟨_, rfl, _, rfl, by show 2 ≤ sizeLine; decide, fun p np => ⟨p, _, rfl, .inr (.of upd_same), kd_flat b, rfl, ?_⟩⟩
    have sp := same_upd np (o := .tup [.non, kdV (some x)])
    rw [if_pos rfl, show inV (kdV b) [V.non, kdV (some x)] = need x b from need_in x b]
    refine ⟨_, rfl, ?_⟩
    have e : common (some x) b = if need x b = true then .ok (some x) else .error "different kinds" := rfl
    cases hn : need x b with
    | true => exact iteF ⟨_, rfl, q (some x) (by rw [e, hn]; rfl) _ sp⟩
    | false => exact iteT ⟨_, rfl, by decide +kernel, fun d H' nd s' e' => (fl _ (by rw [e, hn]; rfl)).ext sp d H' nd s' e'⟩
theorem ok_rk {f : Addr} {fd : FuncData} (F : Fun K "result_kind" "result_kind" s_result_kind f fd) (M : Mg mg) (PB : PrbE P w K mg base C) (G : Kg K w mg aO aC aE aP aL eO eE eP nO nE nP) (cx_expect_kind : ClX P w K mg base 3 "expect_kind" (sp_ek C)) (cx_common_kind : ClX P w K mg base 3 "common_kind" (sp_ck C)) : FnOk P w K mg base (L2.CX P w) 4 f fd ["word", "kinds"] (sp_rk C) := by
  refine F.okX sc_result_kind (fun vs H Q E h => ?_) (fun cdv A outer s H vs Q E hr h => ?_)
  · obtain ⟨o, ks, a, rfl, _⟩ := h
    rfl
  obtain ⟨o, ks, a, rfl, ha, hl, q, fl⟩ := h
  refine ⟨_, (pss_cons (ps_if (pt_cmpR (op_in_kd G.OPERATORS_D) (pv 0) (C8.pe_gc (by rfl) G.OPERATORS) (by rfl)) (pss_cons (ps_asg (pe_ix ix_kdict (C8.pe_gc (by rfl) G.OPERATORS) (pv 0) (fun _ _ => rfl)) (pg_tup (by rfl) (pgs_cons (pg_name (i := 2) sc_result_kind.nd rfl (.inl rfl)) (pgs_cons (pg_name (i := 3) sc_result_kind.nd rfl (.inl rfl)) pgs_nil))))
      (pss_cons (ps_for (passes_of rfl) rfl (pi_list (pv 1)) (pg_name (i := 4) sc_result_kind.nd rfl (.inl rfl)) (pss_one (ps_expr (pe_ux cx_expect_kind hr (by first | decide | omega) (E := E) (passX (takes_of rfl rfl rfl rfl)) (by rfl) (pa_cons (pv 4) (pa_cons (pv 2) pa_nil))))))
      (pss_one (ps_ret (pv 3))))) pss_nil)
      (pss_cons (ps_if (pt_cmpR op_eq (pv 0) pe_str (nomark _)) (pss_one (ps_ret pe_str)) pss_nil)
      (pss_cons (ps_if (pt_cmpR op_eq (pv 0) pe_str (nomark _)) (pss_cons (ps_expr (pe_ux cx_expect_kind hr (by first | decide | omega) (E := E) (passX (takes_of rfl rfl rfl rfl)) (by rfl) (pa_cons (pe_ix (ix_listK K) (pv 1) pe_int (fun _ _ => rfl)) (pa_cons pe_str pa_nil))))
      (pss_one (ps_ret (pe_ux cx_common_kind hr (by first | decide | omega) (E := E) (passX (takes_of rfl rfl rfl rfl)) (by rfl) (pa_cons (pe_ix (ix_listK K) (pv 1) pe_int (fun _ _ => rfl)) (pa_cons (pe_ix (ix_listK K) (pv 1) pe_int (fun _ _ => rfl)) pa_nil)))))) pss_nil)
      (pss_cons (ps_set (i := 5) sc_result_kind.nd rfl (.inl rfl) (pe_ux cx_common_kind hr (by first | decide | omega) (E := E) (passX (takes_of rfl rfl rfl rfl)) (by rfl) (pa_cons (pe_ix (ix_listK K) (pv 1) pe_int (fun _ _ => rfl)) (pa_cons (pe_ix (ix_listK K) (pv 1) pe_int (fun _ _ => rfl)) pa_nil))))
      (pss_one (ps_ret (pe_ifExp (pt_cmpR (inK K) (pv 0) (C8.pe_gc (by rfl) G.COMPARISONS) (by rfl)) pe_str (pv 5)))))))), ?_⟩
  cases hw : o.want with
  | some xr =>
    obtain ⟨x, r⟩ := xr
    obtain ⟨t, ht, hT⟩ := G.opI o x r hw
    refine ⟨_, rfl, _, _, rfl, rfl, ht, _, rfl, iteT ?_⟩
    refine ⟨_, rfl, _, _, _, rfl, rfl, ⟨_, _, _, G.OPERATORS_D.1, G.OPERATORS_D.2, ht, (show RelV (.ref t) (.ref t) from rfl)⟩, t, _, rfl, hT H, rfl, _, _, rfl, _, _, rfl, rfl, ?_⟩
    have eo : opK o ks = if ks.all (need x) = true then .ok (some r) else .error (exM x) := by
      unfold opK
      rw [hw]
    refine ⟨_, rfl, a, rfl, ⟨_, .of ha⟩, ?_⟩
    refine for_list (K := K) (a := a) (xs := ks.map kdV) (fun i σ Hi => Same H Hi ∧ (ks.take i).all (need x) = true ∧ ∃ z4 z5, σ = [some (.str o.w), some (.ref a), some (.str (Str.ofString x.s)), some (.str (Str.ofString r.s)), z4, z5]) ⟨fun _ _ h => h, rfl, _, _, rfl⟩ (fun i σ Hi _ hp => .of (hp.1 _ _ ha)) (fun i y σ Hi hy hp => ?_) (fun σ Hn hp => ?_)
    · obtain ⟨si, hall, z4, z5, rfl⟩ := hp
      rw [List.getElem?_map] at hy
      obtain ⟨k, hk, rfl⟩ := Option.map_eq_some_iff.mp hy
      refine ⟨_, rfl, _, rfl, k, x, rfl, fun hn H' s' => ?_, fun hn => ?_⟩
      · refine ⟨si.trans s', ?_, _, _, rfl⟩
        rw [List.take_add_one, hk, List.all_append, hall]
        show (true && (need x k && true)) = true
        rw [hn]
        rfl
      · refine (fl _ ?_).ext si
        rw [eo, if_neg]
        intro z
        rw [List.all_eq_true.mp z k (List.mem_of_getElem? hk)] at hn
        cases hn
    · obtain ⟨sn, hall, z4, z5, rfl⟩ := hp
      rw [List.length_map, List.take_of_length_le (Nat.le_refl _)] at hall
      exact ⟨_, rfl, q (some r) (by rw [eo, if_pos hall]) _ sn⟩
  | none =>
    refine ⟨_, rfl, _, _, rfl, rfl, G.opM o hw, _, rfl, iteF ?_⟩
    refine ⟨_, rfl, rfl, _, rfl, ?_⟩
    rw [ow_missing]
    have two : ∀ {a b : Option Kd}, ks = [a, b] → o ≠ .ite → o ≠ .missing → opK o ks = (common a b).map fun c => if o.cmp = true then some .truth else c := fun e h1 h2 => by
      subst e
      unfold opK
      rw [hw]
      cases o <;> first | rfl | exact absurd rfl h1 | exact absurd rfl h2
    by_cases h1 : o = .missing
    · rw [decide_eq_true h1]
      have e : opK o ks = .ok (some .truth) := by
        subst h1
        rfl
      exact iteT (q _ e H fun _ _ h => h)
    rw [decide_eq_false h1]
    refine iteF ⟨_, rfl, rfl, _, rfl, ?_⟩
    rw [ow_if]
    by_cases h2 : o = .ite
    · rw [decide_eq_true h2]
      subst h2
      refine iteT ?_
      obtain ⟨k1, k2, k3, rfl⟩ : ∃ k1 k2 k3, ks = [k1, k2, k3] := by
        match ks, hl with
        | [a, b, c], _ => exact ⟨a, b, c, rfl⟩
      have e3 : opK .ite [k1, k2, k3] = if need .truth k1 = true then common k2 k3 else .error (exM .truth) := rfl
      refine ⟨_, rfl, a, _, _, kdV k1, rfl, rfl, .of ha, rfl, k1, .truth, rfl, fun hn H1 s1 => ?_, fun hn => fl _ (by rw [e3, hn]; rfl)⟩
      rw [if_pos hn] at e3
      exact ⟨_, rfl, a, _, _, kdV k2, rfl, rfl, .of (s1 _ _ ha), rfl, _, rfl, a, _, _, kdV k3, rfl, rfl, .of (s1 _ _ ha), rfl, k2, k3, rfl, fun c hc H2 s2 => q c (by rw [e3]; exact hc) _ (s1.trans s2), fun m hm => (fl m (by rw [e3]; exact hm)).ext s1⟩
    rw [decide_eq_false h2]
    refine iteF ?_
    have h2l : o.ar = 2 := by cases o <;> first | rfl | exact absurd rfl h1 | exact absurd rfl h2 | cases hw
    rw [h2l] at hl
    obtain ⟨k1, k2, rfl⟩ : ∃ k1 k2, ks = [k1, k2] := by
      match ks, hl with
      | [a, b], _ => exact ⟨a, b, rfl⟩
    have e2 := two rfl h2 h1
    refine ⟨_, rfl, a, _, _, kdV k1, rfl, rfl, .of ha, rfl, _, rfl, a, _, _, kdV k2, rfl, rfl, .of ha, rfl, k1, k2, rfl, fun c hc H2 s2 => ?_, fun m hm => fl m (by rw [e2, hm]; rfl)⟩
    refine ⟨_, rfl, aC, _, rfl, .inr (G.cmp H2), rfl, by decide +kernel, ?_⟩
    rw [if_neg Bool.false_ne_true, ow_cmp]
    refine ⟨_, rfl, ?_⟩
    have q := q _ (by rw [e2, hc]; rfl) H2 s2
    cases hcm : o.cmp with
    | true =>
      rw [hcm] at q
      exact iteT q
    | false =>
      rw [hcm] at q
      exact iteF ⟨_, rfl, q⟩

def sp_rz : Sp := fun vs H Q _ => ∃ (o : Ow) (ss : List Nat) (a : Addr), vs = [.str o.w, .ref a] ∧ H a = some (.lst (ss.map fun n => V.int ((n : Nat) : Int))) ∧ ss.length = o.ar ∧ Q (.int ((opZ o ss : Nat) : Int)) H
theorem sum_cast : ∀ ss : List Nat, ((ss.map fun n => ((n : Nat) : Int)).sum) = ((ss.sum : Nat) : Int)
  | [] => rfl
  | n :: ss => by
    rw [List.map_cons, List.sum_cons, List.sum_cons, sum_cast ss]
    omega
theorem ok_rz {f : Addr} {fd : FuncData} (F : Fun K "result_size" "result_size" s_result_size f fd) (M : Mg mg) (G : Kg K w mg aO aC aE aP aL eO eE eP nO nE nP) : FnOk P w K mg base CX0 1 f fd ["word", "sizes"] sp_rz := by
  refine F.ok sc_result_size (fun vs H Q E h => ?_) (fun cdv A outer s H vs Q E hr h => ?_)
  · obtain ⟨o, ss, a, rfl, _⟩ := h
    rfl
  obtain ⟨o, ss, a, rfl, ha, hl, q⟩ := h
  refine ⟨_, (pss_cons (ps_if (pt_cmpR op_eq (pv 0) pe_str (nomark _)) (pss_one (ps_ret (pe_op op_add (pe_op op_add pe_int (pe_op op_mul pe_int (pe_ix (ix_listK K) (pv 1) pe_int (fun _ _ => rfl)))) (pe_ix (ix_listK K) (pv 1) pe_int (fun _ _ => rfl))))) pss_nil)
      (pss_cons (ps_if (pt_cmpR (inK K) (pv 0) (C8.pe_gc (by rfl) G.LARGER) (by rfl)) (pss_one (ps_ret (pe_op op_add pe_int (pe_callB (cr_sum rfl) (by rfl) M.sum (by decide +kernel) (pa_cons (pv 1) pa_nil))))) pss_nil)
      (pss_one (ps_ret (pe_op op_add pe_int (pe_callB (cr_sum rfl) (by rfl) M.sum (by decide +kernel) (pa_cons (pv 1) pa_nil))))))), ?_⟩
  refine ⟨_, rfl, rfl, _, rfl, ?_⟩
  rw [ow_coalesce]
  by_cases h1 : o = .coalesce
  · rw [decide_eq_true h1]
    subst h1
    obtain ⟨n1, n2, rfl⟩ : ∃ k1 k2, ss = [k1, k2] := by
      match ss, hl with
      | [a, b], _ => exact ⟨a, b, rfl⟩
    refine iteT ⟨_, rfl, a, _, _, .int ((n1 : Nat) : Int), rfl, rfl, .of ha, rfl, _, _, rfl, rfl, .inl ⟨by decide, by decide⟩, _, _, rfl, rfl, _, rfl, a, _, _, .int ((n2 : Nat) : Int), rfl, rfl, .of ha, rfl, _, _, rfl, rfl, ?_⟩
    have e : (2 : Int) + 2 * ((n1 : Nat) : Int) + ((n2 : Nat) : Int) = ((opZ .coalesce [n1, n2] : Nat) : Int) := by
      show _ = ((2 + 2 * n1 + n2 : Nat) : Int)
      omega
    show Q (.int ((2 : Int) + 2 * ((n1 : Nat) : Int) + ((n2 : Nat) : Int))) H
    rw [e]
    exact q
  rw [decide_eq_false h1]
  refine iteF ⟨_, rfl, aL, _, rfl, .inr (G.lrg H), rfl, by decide +kernel, ?_⟩
  rw [if_neg Bool.false_ne_true, ow_lrg]
  refine ⟨_, rfl, ?_⟩
  have hs : (ss.map fun n => V.int ((n : Nat) : Int)) = (ss.map fun n => ((n : Nat) : Int)).map V.int := by rw [List.map_map]; rfl
  rw [hs] at ha
  cases hcm : o.lrg with
  | true =>
    have e : opZ o ss = 2 + ss.sum := by cases o <;> first | rfl | cases hcm
    refine iteT ⟨_, rfl, a, _, rfl, .of ha, _, _, rfl, rfl, ?_⟩
    rw [sum_cast]
    rw [e] at q
    show Q (.int ((2 : Int) + ((ss.sum : Nat) : Int))) H
    rw [show (2 : Int) + ((ss.sum : Nat) : Int) = ((2 + ss.sum : Nat) : Int) by omega]
    exact q
  | false =>
    have e : opZ o ss = 1 + ss.sum := by cases o <;> first | rfl | exact absurd rfl h1 | cases hcm
    refine iteF ⟨_, rfl, a, _, rfl, .of ha, _, _, rfl, rfl, ?_⟩
    rw [sum_cast]
    rw [e] at q
    show Q (.int ((1 : Int) + ((ss.sum : Nat) : Int))) H
    rw [show (1 : Int) + ((ss.sum : Nat) : Int) = ((1 + ss.sum : Nat) : Int) by omega]
    exact q
def sp_pf (K : PySem.W.Frag) : Sp := fun vs H Q _ => ∃ (o : Ow) (ps : List PyData) (xs : List V) (a : Addr), vs = [.str o.w, .ref a] ∧ H a = some (.lst xs) ∧ DpAll K H xs ps ∧ ps.length = o.ar ∧ ∀ H' r, Same H H' → Dp K H' (.ref r) (opF o ps) → Q (.ref r) H'
theorem ok_pf {f : Addr} {fd : FuncData} (F : Fun K "plain_form" "plain_form" s_plain_form f fd) (M : Mg mg) (G : Kg K w mg aO aC aE aP aL eO eE eP nO nE nP) : FnOk P w K mg base CX0 1 f fd ["word", "parts"] (sp_pf K) := by
  refine F.ok sc_plain_form (fun vs H Q E h => ?_) (fun cdv A outer s H vs Q E hr h => ?_)
  · obtain ⟨o, ps, xs, a, rfl, _⟩ := h
    rfl
  obtain ⟨o, ps, xs, a, rfl, ha, hd, hl, q⟩ := h
  refine ⟨_, (pss_cons (ps_set (i := 2) sc_plain_form.nd rfl (.inl rfl) (pe_ix (ix_listK K) (pv 1) pe_int (fun _ _ => rfl)))
      (pss_cons (ps_set (i := 3) sc_plain_form.nd rfl (.inl rfl) (pe_ix (ix_listK K) (pv 1) (pe_un un_neg pe_int) (fun _ _ => rfl)))
      (pss_cons (ps_if (pt_cmpR op_eq (pv 0) pe_str (nomark _)) (pss_one (ps_ret (pe_tup (pa_cons pe_str (pa_cons (pe_tup (pa_cons pe_str (pa_cons (pv 3) (pa_cons (pv 2) pa_nil)))) pa_nil))))) pss_nil)
      (pss_cons (ps_if (pt_cmpR op_eq (pv 0) pe_str (nomark _)) (pss_one (ps_ret (pe_tup (pa_cons pe_str (pa_cons (pe_tup (pa_cons pe_str (pa_cons (pv 2) (pa_cons (pv 3) pa_nil)))) pa_nil))))) pss_nil)
      (pss_cons (ps_if (pt_cmpR op_eq (pv 0) pe_str (nomark _)) (pss_one (ps_ret (pe_tup (pa_cons pe_str (pa_cons (pe_tup (pa_cons pe_str (pa_cons (pv 2) (pa_cons (pv 3) pa_nil)))) pa_nil))))) pss_nil)
      (pss_cons (ps_if (pt_cmpR op_eq (pv 0) pe_str (nomark _)) (pss_one (ps_ret (pe_tup (pa_cons pe_str (pa_cons (pv 3) (pa_cons (pv 2) pa_nil)))))) pss_nil)
      (pss_cons (ps_if (pt_cmpR op_eq (pv 0) pe_str (nomark _)) (pss_one (ps_ret (pe_tup (pa_cons pe_str (pa_cons (pe_tup (pa_cons pe_str (pa_cons (pv 2) pa_nil))) (pa_cons (pv 3) (pa_cons (pv 2) pa_nil))))))) pss_nil)
      (pss_one (ps_ret (pe_tup (pa_cons (pe_kget2 (C8.pe_gc (by rfl) G.PLAIN_WORDS) (pv 0) (pv 0) ⟨rfl, rfl, rfl, rfl⟩) (StX.pa_star (pv 1) pa_nil)))))))))))), ?_⟩
  have lx := DpAll.len hd
  have har : o.ar = 1 ∨ o.ar = 2 ∨ o.ar = 3 := by cases o <;> first | exact .inl rfl | exact .inr (.inl rfl) | exact .inr (.inr rfl)
  obtain ⟨x1, xl, h0, hlst⟩ : ∃ x1 xl, atI xs 0 = some x1 ∧ atI xs (-1) = some xl := by
    rcases har with e | e | e <;> rw [e] at hl <;> rw [hl] at lx
    · match xs, lx with
      | [a], _ => exact ⟨a, a, rfl, rfl⟩
    · match xs, lx with
      | [a, b], _ => exact ⟨a, b, rfl, rfl⟩
    · match xs, lx with
      | [a, b, c], _ => exact ⟨a, c, rfl, rfl⟩
  refine ⟨_, rfl, a, _, _, x1, rfl, rfl, .of ha, h0, ?_⟩
  refine ⟨_, rfl, _, rfl, a, _, _, xl, rfl, rfl, .of ha, hlst, ?_⟩
  have two : o.ar = 2 → ∃ p1 p2, ps = [p1, p2] ∧ Dp K H x1 p1 ∧ Dp K H xl p2 := fun e => by
    rw [e] at hl
    match ps, hl with
    | [p1, p2], _ =>
      cases hd with
      | cons g1 g2 =>
        cases g2 with
        | cons g2 g3 =>
          cases g3
          cases (Option.some.inj h0)
          cases (Option.some.inj hlst)
          exact ⟨p1, p2, rfl, g1, g2⟩
  refine ⟨_, rfl, rfl, _, rfl, ?_⟩
  rw [ow_le]
  by_cases h1 : o = .le
  · obtain ⟨p1, p2, rfl, d1, d2⟩ := two (by rw [h1]; rfl)
    rw [decide_eq_true h1]
    rw [h1] at q
    refine iteT ⟨_, rfl, _, rfl, by show 3 ≤ sizeLine; decide, fun p np => ⟨by show 2 ≤ sizeLine; decide, fun r nr => ?_⟩⟩
    have s1 := same_upd np (o := .tup [.str "less", xl, x1])
    have s2 := same_upd nr (o := .tup [.str "not", .ref p])
    exact q _ r (s1.trans s2) (.tup (.of upd_same) (.cons (.str _) (.cons (Dp.ext s2 _ _ (.tup (.of upd_same) (.cons (.str _) (.cons (Dp.ext s1 _ _ d2) (.cons (Dp.ext s1 _ _ d1) .nil))))) .nil)))
  rw [decide_eq_false h1]
  refine iteF ⟨_, rfl, rfl, _, rfl, ?_⟩
  rw [ow_ne]
  by_cases h2 : o = .ne
  · obtain ⟨p1, p2, rfl, d1, d2⟩ := two (by rw [h2]; rfl)
    rw [decide_eq_true h2]
    rw [h2] at q
    refine iteT ⟨_, rfl, _, rfl, by show 3 ≤ sizeLine; decide, fun p np => ⟨by show 2 ≤ sizeLine; decide, fun r nr => ?_⟩⟩
    have s1 := same_upd np (o := .tup [.str "equal", x1, xl])
    have s2 := same_upd nr (o := .tup [.str "not", .ref p])
    exact q _ r (s1.trans s2) (.tup (.of upd_same) (.cons (.str _) (.cons (Dp.ext s2 _ _ (.tup (.of upd_same) (.cons (.str _) (.cons (Dp.ext s1 _ _ d1) (.cons (Dp.ext s1 _ _ d2) .nil))))) .nil)))
  rw [decide_eq_false h2]
  refine iteF ⟨_, rfl, rfl, _, rfl, ?_⟩
  rw [ow_ge]
  by_cases h3 : o = .ge
  · obtain ⟨p1, p2, rfl, d1, d2⟩ := two (by rw [h3]; rfl)
    rw [decide_eq_true h3]
    rw [h3] at q
    refine iteT ⟨_, rfl, _, rfl, by show 3 ≤ sizeLine; decide, fun p np => ⟨by show 2 ≤ sizeLine; decide, fun r nr => ?_⟩⟩
    have s1 := same_upd np (o := .tup [.str "less", x1, xl])
    have s2 := same_upd nr (o := .tup [.str "not", .ref p])
    exact q _ r (s1.trans s2) (.tup (.of upd_same) (.cons (.str _) (.cons (Dp.ext s2 _ _ (.tup (.of upd_same) (.cons (.str _) (.cons (Dp.ext s1 _ _ d1) (.cons (Dp.ext s1 _ _ d2) .nil))))) .nil)))
  rw [decide_eq_false h3]
  refine iteF ⟨_, rfl, rfl, _, rfl, ?_⟩
  rw [ow_gt]
  by_cases h4 : o = .gt
  · obtain ⟨p1, p2, rfl, d1, d2⟩ := two (by rw [h4]; rfl)
    rw [decide_eq_true h4]
    rw [h4] at q
    refine iteT ⟨_, rfl, _, rfl, by show 3 ≤ sizeLine; decide, fun p np => ?_⟩
    have s1 := same_upd np (o := .tup [.str "less", xl, x1])
    exact q _ p s1 (.tup (.of upd_same) (.cons (.str _) (.cons (Dp.ext s1 _ _ d2) (.cons (Dp.ext s1 _ _ d1) .nil))))
  rw [decide_eq_false h4]
  refine iteF ⟨_, rfl, rfl, _, rfl, ?_⟩
  rw [ow_coalesce]
  by_cases h5 : o = .coalesce
  · obtain ⟨p1, p2, rfl, d1, d2⟩ := two (by rw [h5]; rfl)
    rw [decide_eq_true h5]
    rw [h5] at q
    refine iteT ⟨_, rfl, by show 2 ≤ sizeLine; decide, fun p np => ⟨_, rfl, _, rfl, by show 4 ≤ sizeLine; decide, fun r nr => ?_⟩⟩
    have s1 := same_upd np (o := .tup [.str "missing", x1])
    have s2 := same_upd nr (o := .tup [.str "choose", .ref p, xl, x1])
    have s12 := s1.trans s2
    exact q _ r s12 (.tup (.of upd_same) (.cons (.str _) (.cons (Dp.ext s2 _ _ (.tup (.of upd_same) (.cons (.str _) (.cons (Dp.ext s1 _ _ d1) .nil)))) (.cons (Dp.ext s12 _ _ d2) (.cons (Dp.ext s12 _ _ d1) .nil)))))
  rw [decide_eq_false h5]
  refine iteF ?_
  have ef : opF o ps = .tuple (.str (Str.ofString o.plain) :: ps) := by cases o <;> first | rfl | exact absurd rfl h1 | exact absurd rfl h2 | exact absurd rfl h3 | exact absurd rfl h4 | exact absurd rfl h5
  rw [ef] at q
  have hsp : (o.lrg || decide (o = .gt) || decide (o = .coalesce)) = false := by cases o <;> first | rfl | exact absurd rfl h1 | exact absurd rfl h2 | exact absurd rfl h3 | exact absurd rfl h4 | exact absurd rfl h5
  have lxs : (V.str (Str.ofString o.plain) :: (xs ++ [])).length ≤ sizeLine := by
    rw [List.length_cons, List.append_nil, lx, hl]
    rcases har with e | e | e <;> rw [e] <;> decide
  have done : ∀ r, H r = none → Q (.ref r) (upd H r (.tup (.str (Str.ofString o.plain) :: (xs ++ [])))) := fun r nr => by
    have s1 := same_upd nr (o := .tup (.str (Str.ofString o.plain) :: (xs ++ [])))
    rw [List.append_nil] at s1 ⊢
    exact q _ r s1 (.tup (.of upd_same) (.cons (.str _) (DpAll.ext s1 _ _ hd)))
  rcases G.pl o hsp with ⟨u, e1, e2⟩ | ⟨e1, e2⟩
  · exact ⟨aP, eP, nP, rfl, G.PLAIN_WORDS_D, _, rfl, _, rfl, o.w, _, .str (Str.ofString o.plain), rfl, e1, fun u' e => by cases e; exact e2, fun z => (by cases z), _, rfl, a, xs, rfl, .inr (.of ha), lxs, done⟩
  · have ew : V.str o.w = .str (Str.ofString o.plain) := by rw [e2]; rfl
    exact ⟨aP, eP, nP, rfl, G.PLAIN_WORDS_D, _, rfl, _, rfl, o.w, _, .str (Str.ofString o.plain), rfl, e1, fun u' e => (by cases e), fun _ => ew.symm, _, rfl, a, xs, rfl, .inr (.of ha), lxs, done⟩
theorem str_dec (a b : Str) : decide (V.str a = V.str b) = decide (a = b) := by
  rw [Bool.eq_iff_iff, decide_eq_true_iff, decide_eq_true_iff]
  exact ⟨V.str.inj, fun h => by rw [h]⟩
theorem src_eqv (c : Col) (x y : Str) : PyData.eqv (.tuple [srcD c.src, .str c.nm]) (.tuple [.str x, .str y]) = (decide (c.src = some x) && decide (c.nm = y)) := by
  have e : PyData.eqv (.tuple [srcD c.src, .str c.nm]) (.tuple [.str x, .str y]) = (PyData.eqv (srcD c.src) (.str x) && ((c.nm == y) && true)) := by
    simp only [PyData.eqv, PyData.eqvAll]
  rw [e, Bool.and_true]
  have e2 : (c.nm == y) = decide (c.nm = y) := by
    rw [Bool.eq_iff_iff, decide_eq_true_iff]
    exact beq_iff_eq
  rw [e2]
  congr 1
  cases h : c.src with
  | none => rfl
  | some z =>
    show (z == x) = _
    rw [Bool.eq_iff_iff, decide_eq_true_iff]
    exact beq_iff_eq.trans ⟨fun h => by rw [h], fun h => Option.some.inj h⟩
theorem src_sh {c : Col} (h : c.ok) : SeqAt.shaped (.tuple [srcD c.src, .str c.nm]) = true := by
  have h2 := h.2
  cases e : c.src with
  | none => simp [srcD, SeqAt.shaped, PyData.canLay0, PyData.depth, PyData.canLayAll0, PyData.depthAll, h.1]
  | some x => simp [srcD, SeqAt.shaped, PyData.canLay0, PyData.depth, PyData.canLayAll0, PyData.depthAll, h.1, h2 x e]
def sp_in (K : PySem.W.Frag) : Sp := fun vs H Q _ => ∃ (c : Col) (e : Et) (v u : V) (p : Col → Bool), vs = [v, u] ∧ c.ok ∧ e.ok ∧ Dp K H v c.d ∧ Dp K H u e.d ∧ ((∃ x, e = .name x ∧ p = fun c => decide (c.nm = x)) ∨ ∃ x y, e = .field x y ∧ p = fun c => decide (c.src = some x) && decide (c.nm = y)) ∧ ∀ H', Same H H' → Q (.bl (p c)) H'
theorem ok_in {f : Addr} {fd : FuncData} (F : Fun K "is_named" "is_named" s_is_named f fd) (M : Mg mg) : FnOk P w K mg base CX0 1 f fd ["column", "expression"] (sp_in K) := by
  refine F.ok sc_is_named (fun vs H Q E h => ?_) (fun cdv A outer s H vs Q E hr h => ?_)
  · obtain ⟨c, e, v, u, p, rfl, _⟩ := h
    rfl
  obtain ⟨c, e, v, u, p, rfl, hco, heo, hv, hu, hp, q⟩ := h
  refine ⟨_, (pss_cons (ps_asg (pv 0) (pg_tup (by rfl) (pgs_cons (pg_name (i := 2) sc_is_named.nd rfl (.inl rfl)) (pgs_cons (pg_name (i := 3) sc_is_named.nd rfl (.inl rfl)) (pgs_cons (pg_name (i := 4) sc_is_named.nd rfl (.inl rfl)) pgs_nil)))))
      (pss_cons (ps_if (pt_cmpR op_eq (pe_ix (ix_tupK K) (pv 1) pe_int (fun _ _ => rfl)) pe_str (nomark _)) (pss_one (ps_ret (pe_cmpR op_eq (pv 3) (pe_ix (ix_tupK K) (pv 1) pe_int (fun _ _ => rfl)) (nomark _)))) pss_nil)
      (pss_one (ps_ret (pe_cmpR (eqDK K hr.units) (pe_tup (pa_cons (pv 2) (pa_cons (pv 3) pa_nil))) (pe_slice sl_tup (pv 1) (po_some pe_int) po_none) (nomark _)))))), ?_⟩
  obtain ⟨t, xs, rfl, ht, hx⟩ := dp_tup hv
  cases hx with
  | @cons sv _ _ _ g1 g2 =>
  cases g2 with
  | cons g2 g3 =>
  cases g2
  cases g3 with
  | @cons kv _ _ _ g3 g4 =>
  cases g4
  refine ⟨_, rfl, t, _, rfl, ht, rfl, _, _, rfl, _, _, rfl, _, _, rfl, rfl, ?_⟩
  rcases hp with ⟨x, rfl, rfl⟩ | ⟨x, y, rfl, rfl⟩
  · obtain ⟨b, ys, rfl, hb, hy⟩ := dp_tup hu
    cases hy with
    | cons k1 k2 =>
    cases k1
    cases k2 with
    | cons k2 k3 =>
    cases k2
    cases k3
    refine ⟨_, rfl, b, _, _, .str "name", rfl, rfl, hb, rfl, rfl, _, rfl, ?_⟩
    rw [weq]
    refine iteT ⟨_, rfl, _, rfl, b, _, _, .str x, rfl, rfl, hb, rfl, rfl, ?_⟩
    rw [str_dec]
    exact q H fun _ _ h => h
  · obtain ⟨b, ys, rfl, hb, hy⟩ := dp_tup hu
    cases hy with
    | cons k1 k2 =>
    cases k1
    cases k2 with
    | cons k2 k3 =>
    cases k2
    cases k3 with
    | cons k3 k4 =>
    cases k3
    cases k4
    refine ⟨_, rfl, b, _, _, .str "field", rfl, rfl, hb, rfl, rfl, _, rfl, ?_⟩
    rw [wne "field" "name" (by decide)]
    refine iteF ⟨_, rfl, _, rfl, by show 2 ≤ sizeLine; decide, fun p np => ?_⟩
    have s1 := same_upd np (o := .tup [sv, .str c.nm])
    refine ⟨_, rfl, _, rfl, b, _, rfl, SqT.ext s1 hb, by show ¬ (1 = 0 ∧ _); exact fun z => absurd z.1 (by decide), fun p2 np2 => ?_⟩
    have s2 := same_upd np2 (o := .tup [.str x, .str y])
    refine ⟨.tuple [srcD c.src, .str c.nm], .tuple [.str x, .str y], .tup (.of (s2 _ _ upd_same)) (.cons (Dp.ext (s1.trans s2) _ _ g1) (.cons (.str _) .nil)), .tup (.of upd_same) (.cons (.str _) (.cons (.str _) .nil)), src_sh hco, by simp [SeqAt.shaped, PyData.canLay0, PyData.depth, PyData.canLayAll0, PyData.depthAll, heo.2.2.2.1, heo.2.2.2.2], ?_⟩
    rw [src_eqv]
    exact q _ (s1.trans s2)
/-- where a column is named -/
structure Nmd (e : Et) (told : Str) (p : Col → Bool) : Prop where
  k : (∃ x, e = .name x ∧ p = (fun c => decide (c.nm = x)) ∧ told = tld [x]) ∨ ∃ x y, e = .field x y ∧ p = (fun c => decide (c.src = some x) && decide (c.nm = y)) ∧ told = tld [x, y]
  ok : e.ok
def sp_nc (C : Addr) (K : PySem.W.Frag) : Sp := fun vs H Q E => ∃ (ca : Addr) (v : V) (cols : List Col) (ys : List V) (e : Et) (told : Str) (p : Col → Bool), vs = [.ref ca, v] ∧ H ca = some (.lst ys) ∧ DpAll K H ys (cols.map Col.d) ∧ cols.length ≤ 1000 ∧ (∀ c ∈ cols, c.ok) ∧ Dp K H v e.d ∧ Nmd e told p ∧
  (∀ pl k s, namedC cols told p = .ok (pl, k, s) → ∀ H' r, Same H H' → Dp K H' (.ref r) (.tuple [pl, kdD k, .int ((s : Nat) : Int)]) → Q (.ref r) H') ∧ ∀ m, namedC cols told p = .error m → Pf C m E H
theorem plcs_add (cols : List Col) (p : Col → Bool) {i : Nat} {c : Col} (h : cols[i]? = some c) : ((List.range (i + 1)).filter fun i => (cols[i]?.map p).getD false) = ((List.range i).filter fun i => (cols[i]?.map p).getD false) ++ if p c = true then [i] else [] := by
  rw [List.range_succ, List.filter_append]
  congr 1
  rw [List.filter_cons, h]
  rfl
theorem strLen2 {a b : Str} {n m : Nat} (ha : a.length ≤ n) (hb : b.length ≤ m) : (a ++ b).length ≤ n + m := by
  have h := strLen_append a b
  omega
theorem ok_nc {f : Addr} {fd : FuncData} (F : Fun K "named_column" "named_column" s_named_column f fd) (M : Mg mg) (PB : PrbE P w K mg base C) (c_is_named : Cl P w K mg base 1 "is_named" (sp_in K)) : FnOk P w K mg base (L2.CX P w) 3 f fd ["columns", "expression"] (sp_nc C K) := by
  refine F.okX sc_named_column (fun vs H Q E h => ?_) (fun cdv A outer s H vs Q E hr h => ?_)
  · obtain ⟨ca, v, cols, ys, e, told, p, rfl, _⟩ := h
    rfl
  obtain ⟨ca, v, cols, ys, e, told, p, rfl, hca, hcs, hc1, hco, hv, hn, q, fl⟩ := h
  refine ⟨_, (pss_cons (ps_set (i := 2) sc_named_column.nd rfl (.inl rfl) (pe_join pe_str (pe_slice sl_tup (pv 1) (po_some pe_int) po_none)))
      (pss_cons (ps_setLc (i := 3) (own := [("at", 6), ("column", 7)]) (g := gTup K 2 (gCons (gName 6) (gCons (gName 7) (gNil)))) rfl sc_named_column.nd rfl rfl (sw_true rfl rfl rfl (by decide +kernel)) (pi_enum (by rfl) M.enumerate (pa_cons (pv 0) pa_nil)) (blkOk_by (N := N_named_column) (sc := defScope s_named_column) (by decide +kernel)) (fun _ _ _ _ _ => (pg_tup (by rfl) (pgs_cons (pg_name (i := 6) sc_named_column.nd rfl (.inl rfl)) (pgs_cons (pg_name (i := 7) sc_named_column.nd rfl (.inl rfl)) pgs_nil)))) (fun _ _ _ _ _ => (pts_one (pt_val (pe_u c_is_named hr (by first | decide | omega) (by rfl) (pa_cons (pv 7) (pa_cons (pv 1) pa_nil)))))) (fun _ _ _ _ _ => (pv 6)))
      (pss_cons (ps_if (pt_not (pt_truthK K (pv 3) (by intro _; rfl))) (pss_one (ps_raiseM PB rfl (takes_of rfl rfl rfl rfl) hr (by first | decide | omega) (by rfl) (pa_cons (pe_joined (.cons pe_str (.cons (pe_fmt (pv 2)) .nil))) pa_nil))) pss_nil)
      (pss_cons (ps_if (pt_cmpR op_gt (pe_callB (len_seqK K) (by rfl) M.len PySem.boot_len (pa_cons (pv 3) pa_nil)) pe_int (nomark _)) (pss_one (ps_raiseM PB rfl (takes_of rfl rfl rfl rfl) hr (by first | decide | omega) (by rfl) (pa_cons (pe_joined (.cons pe_str (.cons (pe_fmt (pv 2)) .nil))) pa_nil))) pss_nil)
      (pss_cons (ps_asg (pe_ix (ix_listK K) (pv 0) (pe_ix (ix_listK K) (pv 3) pe_int (fun _ _ => rfl)) (fun _ _ => rfl)) (pg_tup (by rfl) (pgs_cons (pg_name (i := 4) sc_named_column.nd rfl (.inl rfl)) (pgs_cons (pg_name (i := 4) sc_named_column.nd rfl (.inl rfl)) (pgs_cons (pg_name (i := 5) sc_named_column.nd rfl (.inl rfl)) pgs_nil)))))
      (pss_one (ps_ret (pe_tup (pa_cons (pe_tup (pa_cons pe_str (pa_cons (pe_ix (ix_listK K) (pv 3) pe_int (fun _ _ => rfl)) pa_nil))) (pa_cons (pv 5) (pa_cons pe_int pa_nil))))))))))), ?_⟩
  have hlen : told.length ≤ 900 := by
    rcases hn with ⟨⟨x, rfl, _, rfl⟩ | ⟨x, y, rfl, _, rfl⟩, ok⟩
    · exact ok.2.1
    · exact ok.2.2.1
  obtain ⟨b, w0, parts, rfl, hb, hparts, h10⟩ : ∃ b w0 parts, v = .ref b ∧ SqT K H b (w0 :: parts.map V.str) ∧ Txt.join (Str.ofString ".") parts = told ∧ (parts.map (·.length)).sum + parts.length * 1 ≤ 1000 := by
    obtain ⟨b, zs, rfl, hb, hz⟩ : ∃ b zs, v = .ref b ∧ SqT K H b zs ∧ True := by
      rcases hn with ⟨⟨x, rfl, _, rfl⟩ | ⟨x, y, rfl, _, rfl⟩, ok⟩
      · obtain ⟨b, zs, h1, h2, _⟩ := dp_tup hv
        exact ⟨b, zs, h1, h2, trivial⟩
      · obtain ⟨b, zs, h1, h2, _⟩ := dp_tup hv
        exact ⟨b, zs, h1, h2, trivial⟩
    clear hz
    rcases hn with ⟨⟨x, rfl, _, rfl⟩ | ⟨x, y, rfl, _, rfl⟩, ok⟩
    · obtain ⟨b', zs', e1, h2, hy⟩ := dp_tup hv
      cases e1
      cases hy with
      | cons k1 k2 =>
      cases k1
      cases k2 with
      | cons k2 k3 =>
      cases k2
      cases k3
      refine ⟨b, .str "name", [x], rfl, h2, rfl, ?_⟩
      have := ok.1
      show x.length + 0 + 1 * 1 ≤ 1000
      omega
    · obtain ⟨b', zs', e1, h2, hy⟩ := dp_tup hv
      cases e1
      cases hy with
      | cons k1 k2 =>
      cases k1
      cases k2 with
      | cons k2 k3 =>
      cases k2
      cases k3 with
      | cons k3 k4 =>
      cases k3
      cases k4
      refine ⟨b, .str "field", [x, y], rfl, h2, rfl, ?_⟩
      have := ok.1
      have := ok.2.1
      show x.length + (y.length + 0) + 2 * 1 ≤ 1000
      omega
  have hcut : cutV (w0 :: parts.map V.str) (some 1) none = parts.map V.str := by
    show ((w0 :: parts.map V.str).drop 1).take ((parts.map V.str).length + 1 - 1) = parts.map V.str
    rw [Nat.add_sub_cancel, List.drop_one, List.tail_cons, List.take_length]
  have hsl : (1000 : Nat) ≤ sizeLine := by decide
  refine ⟨⟨_, rfl⟩, _, rfl, _, rfl, b, _, rfl, hb, by show ¬ (1 = 0 ∧ _); exact fun z => absurd z.1 (by decide), fun p1 np1 => ?_⟩
  rw [hcut]
  have s1 := same_upd np1 (o := .tup (parts.map V.str))
  have hT : SqT K (upd H p1 (.tup (parts.map V.str))) p1 (parts.map V.str) := .of upd_same
  generalize upd H p1 (.tup (parts.map V.str)) = H1 at s1 hT ⊢
  refine ⟨_, p1, parts, rfl, rfl, .inr hT, by
    have : (Str.ofString ".").length = 1 := by decide
    rw [this]
    omega, ?_⟩
  rw [hparts]
  have lys : ys.length = cols.length := by rw [DpAll.len hcs, List.length_map]
  have hca1 := s1 _ _ hca
  refine ⟨_, rfl, ca, ys, rfl, .of hca1, fun D nD => ?_⟩
  refine lc_enum (K := K) (a := ca) (xs := ys) (fun i Hi => Same H1 Hi ∧ Hi D = some (.lst (((List.range i).filter fun i => (cols[i]?.map p).getD false).map fun n => V.int ((n : Nat) : Int)))) ⟨same_upd nD, upd_same⟩ (fun i Hi _ hp => .of (hp.1 _ _ hca1)) (fun i y Hi T hy hp nT => ?_) (fun HE hp => ?_)
  · obtain ⟨si, eD⟩ := hp
    have hi : i < cols.length := by rw [← lys]; exact (List.getElem?_eq_some_iff.mp hy).1
    have hc := List.getElem?_eq_getElem hi
    obtain ⟨z, hz, hE⟩ := DpAll.get (i := i) (d := (cols[i]).d) hcs (by rw [List.getElem?_map, hc]; rfl)
    obtain rfl : z = y := Option.some.inj (hz.symm.trans hy)
    have padd := plcs_add cols p hc
    have hok := hco _ (List.getElem_mem hi)
    generalize cols[i] = c at hc hE padd hok
    have sT := same_upd nT (o := .tup [.int ((i : Nat) : Int), z])
    have s1T := (s1.trans si).trans sT
    refine ⟨T, _, rfl, .of upd_same, rfl, _, _, rfl, _, _, rfl, rfl, rfl, ?_⟩
    refine ⟨_, rfl, _, rfl, c, e, z, .ref b, p, rfl, hok, hn.ok, Dp.ext s1T _ _ hE, Dp.ext s1T _ _ hv, ?_, fun H' s' => ⟨_, rfl, ?_⟩⟩
    · rcases hn.k with ⟨x, e1, e2, _⟩ | ⟨x, y, e1, e2, _⟩
      · exact .inl ⟨x, e1, e2⟩
      · exact .inr ⟨x, y, e1, e2⟩
    have eD' := s' _ _ (sT _ _ eD)
    rw [padd]
    cases hpc : p c with
    | false =>
      refine iteF ⟨(si.trans sT).trans s', ?_⟩
      rw [if_neg Bool.false_ne_true, List.append_nil]
      exact eD'
    | true =>
      refine iteT ⟨_, rfl, _, eD', ?_, fun b o hb => ?_, ?_⟩
      · rw [List.length_map]
        have := List.length_filter_le (fun i => (cols[i]?.map p).getD false) (List.range i)
        rw [List.length_range] at this
        exact Nat.lt_of_le_of_lt (m := 1000) (by omega) (by decide)
      · rw [upd_ne (ne_of_none hb nD)]
        exact s' _ _ (sT _ _ (si _ _ hb))
      · rw [upd_same, if_pos rfl, List.map_append]
        rfl
  obtain ⟨sE, eD⟩ := hp
  rw [lys] at eD
  have eD : HE D = some (.lst ((plcs cols p).map fun n => V.int ((n : Nat) : Int))) := eD
  have s2 := s1.trans sE
  have hcaE := s2 _ _ hca
  have lenD : (plcs cols p).length ≤ 1000 := by
    have := List.length_filter_le (fun i => (cols[i]?.map p).getD false) (List.range cols.length)
    rw [List.length_range] at this
    exact Nat.le_trans this hc1
  refine ⟨_, rfl, _, .inl ⟨_, .of eD, rfl⟩, ?_⟩
  have enc : namedC cols told p = (match plcs cols p with
    | [] => .error ((Str.empty ++ Str.ofString "unknown name: ") ++ told)
    | [i] => .ok (.tuple [.str "column", .int (i : Nat)], (cols[i]?.map (·.kd)).getD none, 1)
    | _ => .error ((Str.empty ++ Str.ofString "ambiguous name: ") ++ told)) := rfl
  have u1 : (Str.empty ++ Str.ofString "unknown name: ").length ≤ 20 := by decide +kernel
  have u2 : (Str.empty ++ Str.ofString "ambiguous name: ").length ≤ 20 := by decide +kernel
  have mem : ∀ i ∈ plcs cols p, i < cols.length := fun i hi => List.mem_range.mp (List.mem_filter.mp hi).1
  cases hpl : plcs cols p with
  | nil =>
    rw [hpl] at enc
    refine iteT ⟨_, rfl, Nat.le_trans u1 (by decide), _, rfl, .inl ⟨told, rfl, by omega, _, rfl, ?_, ?_⟩⟩
    · have := strLen2 u1 hlen
      omega
    · refine ⟨_, rfl, ?_, fun d H' nd s' e' => (fl _ enc).ext s2 d H' nd s' e'⟩
      have := strLen2 u1 hlen
      omega
  | cons i l =>
    rw [hpl] at eD lenD mem
    refine iteF ?_
    refine ⟨_, rfl, D, _, rfl, .inl (.of eD), _, _, rfl, rfl, _, rfl, ?_⟩
    rw [List.length_map]
    cases l with
    | cons j l =>
      rw [hpl] at enc
      rw [decide_eq_true (show (1 : Int) < (((i :: j :: l).length : Nat) : Int) by rw [List.length_cons, List.length_cons]; omega)]
      refine iteT ⟨_, rfl, Nat.le_trans u2 (by decide), _, rfl, .inl ⟨told, rfl, by omega, _, rfl, ?_, ?_⟩⟩
      · have := strLen2 u2 hlen
        omega
      · refine ⟨_, rfl, ?_, fun d H' nd s' e' => (fl _ enc).ext s2 d H' nd s' e'⟩
        have := strLen2 u2 hlen
        omega
    | nil =>
      rw [hpl] at enc
      refine iteF ?_
      have hi := mem i List.mem_cons_self
      have hc := List.getElem?_eq_getElem hi
      obtain ⟨z, hz, hE⟩ := DpAll.get (i := i) (d := (cols[i]).d) hcs (by rw [List.getElem?_map, hc]; rfl)
      have enc : namedC cols told p = .ok (.tuple [.str "column", .int (i : Nat)], (cols[i]?.map (·.kd)).getD none, 1) := enc
      rw [hc] at enc
      generalize cols[i] = c at hc hE enc
      obtain ⟨t, xs, rfl, ht, hx⟩ := dp_tup hE
      cases hx with
      | @cons sv _ _ _ g1 g2 =>
      cases g2 with
      | cons g2 g3 =>
      cases g2
      cases g3 with
      | @cons kv _ _ _ g3 g4 =>
      cases g4
      refine ⟨_, rfl, _, rfl, D, _, _, .int ((i : Nat) : Int), rfl, rfl, .of eD, rfl, ca, _, _, .ref t, rfl, rfl, .of hcaE, atI_nat hz, t, _, rfl, SqT.ext s2 ht, rfl, _, _, rfl, _, _, rfl, _, _, rfl, rfl, ?_⟩
      refine ⟨_, rfl, D, _, _, .int ((i : Nat) : Int), rfl, rfl, .of eD, rfl, by show 2 ≤ sizeLine; decide, fun p3 np3 => ⟨_, rfl, by show 3 ≤ sizeLine; decide, fun r nr => ?_⟩⟩
      have s3 := same_upd np3 (o := .tup [.str "column", .int ((i : Nat) : Int)])
      have s4 := same_upd nr (o := .tup [.ref p3, kv, .int 1])
      have s34 := s3.trans s4
      exact q _ _ _ enc _ r (s2.trans s34) (.tup (.of upd_same) (.cons (Dp.ext s4 _ _ (.tup (.of upd_same) (.cons (.str _) (.cons (.int _) .nil)))) (.cons (Dp.ext (s2.trans s34) _ _ g3) (.cons (.int _) .nil))))
end

/-! ### written_out, compile_expression -/
def sp_wo (C : Addr) (K : PySem.W.Frag) (n : Nat) : Sp := fun vs H Q E => ∃ (ca : Addr) (v : V) (cols : List Col) (ys : List V) (e : Et), vs = [.ref ca, v] ∧ H ca = some (.lst ys) ∧ DpAll K H ys (cols.map Col.d) ∧ cols.length ≤ 1000 ∧ (∀ c ∈ cols, c.ok) ∧ Dp K H v e.d ∧ e.ok ∧ e.ht < n ∧
  (∀ r, comp cols e = .ok r → ∀ H' x, Same H H' → Dp K H' (.ref x) (crD r) → Q (.ref x) H') ∧ ∀ m, comp cols e = .error m → Pf C m E H
section
variable {P : Program} {w : World} {K : PySem.W.Frag} {mg : Str → Option Value} {base : Heap} {C : Addr} {aO aC aE aP aL : Addr} {eO eE eP : Array DictEntry} {nO nE nP : Nat}
set_option maxHeartbeats 2000000 in
theorem ok_wo (n : Nat) {f : Addr} {fd : FuncData} (F : Fun K "written_out" "written_out" s_written_out f fd) (M : Mg mg) (PB : PrbE P w K mg base C) (cx_named_column : ClX P w K mg base 3 "named_column" (sp_nc C K)) (cx_written_out : ClX P w K mg base (n + 5) "written_out" (sp_wo C K n)) (cx_result_kind : ClX P w K mg base 4 "result_kind" (sp_rk C)) (c_plain_form : Cl P w K mg base 1 "plain_form" (sp_pf K)) (c_result_size : Cl P w K mg base 1 "result_size" sp_rz) : FnOk P w K mg base (L2.CX P w) (n + 6) f fd ["columns", "expression"] (sp_wo C K (n + 1)) := by
  refine F.okX sc_written_out (fun vs H Q E h => ?_) (fun cdv A outer s H vs Q E hr h => ?_)
  · obtain ⟨ca, v, cols, ys, e, rfl, _⟩ := h
    rfl
  obtain ⟨ca, v, cols, ys, e, rfl, hca, hcs, hc1, hco, hv, hok, hht, q, fl⟩ := h
  refine ⟨_, (pss_cons (ps_set (i := 2) sc_written_out.nd rfl (.inl rfl) (pe_ix (ix_tupK K) (pv 1) pe_int (fun _ _ => rfl)))
      (pss_cons (ps_if (pt_cmpR (inK K) (pv 2) (pe_tup (pa_cons pe_str (pa_cons pe_str pa_nil))) (by rfl)) (pss_one (ps_ret (pe_ux cx_named_column hr (by first | decide | omega) (E := E) (passX (takes_of rfl rfl rfl rfl)) (by rfl) (pa_cons (pv 0) (pa_cons (pv 1) pa_nil))))) pss_nil)
      (pss_cons (ps_if (pt_cmpR op_eq (pv 2) pe_str (nomark _)) (pss_one (ps_ret (pe_tup (pa_cons (pe_tup (pa_cons pe_str (pa_cons pe_non pa_nil))) (pa_cons pe_non (pa_cons pe_int pa_nil)))))) pss_nil)
      (pss_cons (ps_if (pt_cmpR op_eq (pv 2) pe_str (nomark _)) (pss_one (ps_ret (pe_tup (pa_cons (pe_tup (pa_cons pe_str (pa_cons (pe_ix (ix_tupK K) (pv 1) pe_int (fun _ _ => rfl)) pa_nil))) (pa_cons pe_str (pa_cons pe_int pa_nil)))))) pss_nil)
      (pss_cons (ps_if (pt_cmpR (inK K) (pv 2) (pe_tup (pa_cons pe_str (pa_cons pe_str pa_nil))) (by rfl)) (pss_one (ps_ret (pe_tup (pa_cons (pe_tup (pa_cons pe_str (pa_cons (pe_ix (ix_tupK K) (pv 1) pe_int (fun _ _ => rfl)) pa_nil))) (pa_cons (pv 2) (pa_cons pe_int pa_nil)))))) pss_nil)
      (pss_cons (ps_setLcx (E := E) (i := 3) (own := [("part", 6)]) (g := gName 6) (tt := tYes) rfl sc_written_out.nd rfl rfl (takes_of rfl rfl rfl rfl) rfl rfl (sw_true rfl rfl rfl (by decide +kernel)) (pi_tup (pe_slice sl_tup (pv 1) (po_some pe_int) po_none)) (blkOk_by (N := N_written_out) (sc := defScope s_written_out) (by decide +kernel)) (fun _ _ _ _ _ _ => (pg_name (i := 6) sc_written_out.nd rfl (.inl rfl))) (fun _ _ _ _ _ _ => pts_nil) (fun _ _ _ _ _ _ px => (pe_ux cx_written_out hr (by first | decide | omega) (E := E) px (by rfl) (pa_cons (pv 0) (pa_cons (pv 6) pa_nil)))))
      (pss_cons (ps_set (i := 4) sc_written_out.nd rfl (.inl rfl) (pe_ux cx_result_kind hr (by first | decide | omega) (E := E) (passX (takes_of rfl rfl rfl rfl)) (by rfl) (pa_cons (pv 2) (pa_cons (pe_lc (own := [("_", 7), ("kind", 8), ("_", 7)]) (g := gTup K 3 (gCons (gName 7) (gCons (gName 8) (gCons (gName 7) (gNil))))) (tt := tYes) rfl sc_written_out.nd (pi_list (pv 3)) (blkOk_by (N := N_written_out) (sc := defScope s_written_out) (by decide +kernel)) (fun _ _ _ _ _ => (pg_tup (by rfl) (pgs_cons (pg_name (i := 7) sc_written_out.nd rfl (.inl rfl)) (pgs_cons (pg_name (i := 8) sc_written_out.nd rfl (.inl rfl)) (pgs_cons (pg_name (i := 7) sc_written_out.nd rfl (.inl rfl)) pgs_nil))))) (fun _ _ _ _ _ => pts_nil) (fun _ _ _ _ _ => (pv 8))) pa_nil))))
      (pss_cons (ps_set (i := 5) sc_written_out.nd rfl (.inl rfl) (pe_u c_plain_form hr (by first | decide | omega) (by rfl) (pa_cons (pv 2) (pa_cons (pe_lc (own := [("plain", 9), ("_", 7), ("_", 7)]) (g := gTup K 3 (gCons (gName 9) (gCons (gName 7) (gCons (gName 7) (gNil))))) (tt := tYes) rfl sc_written_out.nd (pi_list (pv 3)) (blkOk_by (N := N_written_out) (sc := defScope s_written_out) (by decide +kernel)) (fun _ _ _ _ _ => (pg_tup (by rfl) (pgs_cons (pg_name (i := 9) sc_written_out.nd rfl (.inl rfl)) (pgs_cons (pg_name (i := 7) sc_written_out.nd rfl (.inl rfl)) (pgs_cons (pg_name (i := 7) sc_written_out.nd rfl (.inl rfl)) pgs_nil))))) (fun _ _ _ _ _ => pts_nil) (fun _ _ _ _ _ => (pv 9))) pa_nil))))
      (pss_one (ps_ret (pe_tup (pa_cons (pv 5) (pa_cons (pv 4) (pa_cons (pe_u c_result_size hr (by first | decide | omega) (by rfl) (pa_cons (pv 2) (pa_cons (pe_lc (own := [("_", 7), ("_", 7), ("size", 10)]) (g := gTup K 3 (gCons (gName 7) (gCons (gName 7) (gCons (gName 10) (gNil))))) (tt := tYes) rfl sc_written_out.nd (pi_list (pv 3)) (blkOk_by (N := N_written_out) (sc := defScope s_written_out) (by decide +kernel)) (fun _ _ _ _ _ => (pg_tup (by rfl) (pgs_cons (pg_name (i := 7) sc_written_out.nd rfl (.inl rfl)) (pgs_cons (pg_name (i := 7) sc_written_out.nd rfl (.inl rfl)) (pgs_cons (pg_name (i := 10) sc_written_out.nd rfl (.inl rfl)) pgs_nil))))) (fun _ _ _ _ _ => pts_nil) (fun _ _ _ _ _ => (pv 10))) pa_nil))) pa_nil)))))))))))))), ?_⟩
  rcases op_view cols e hok with ⟨i, rfl⟩ | ⟨x, rfl⟩ | ⟨i, rfl⟩ | rfl | ⟨told, p, ⟨x, rfl, hp, ht⟩, hcm⟩ | ⟨told, p, ⟨x, y, rfl, hp, ht⟩, hcm⟩ | ⟨o, kids, hd, hl, hcm, hk⟩
  · obtain ⟨b, xs, rfl, hb, hx⟩ := dp_tup hv
    cases hx with
    | cons k1 k2 =>
    cases k1
    cases k2 with
    | cons k2 k3 =>
    cases k2
    cases k3
    refine ⟨_, rfl, b, _, _, .str "number", rfl, rfl, hb, rfl, ?_⟩
    refine ⟨_, rfl, by show 2 ≤ sizeLine; decide, fun p0 np0 => ⟨p0, _, rfl, .inr (.of upd_same), rfl, rfl, ?_⟩⟩
    have s0 := same_upd np0 (o := .tup [.str "name", .str "field"])
    rw [if_neg Bool.false_ne_true, show inV (.str "number") [.str "name", .str "field"] = false by decide +kernel]
    refine ⟨_, rfl, iteF ⟨_, rfl, rfl, _, rfl, ?_⟩⟩
    rw [wne "number" "null" (by decide)]
    refine iteF ⟨_, rfl, rfl, _, rfl, ?_⟩
    rw [weq]
    refine iteT ⟨_, rfl, b, _, _, .int i, rfl, rfl, SqT.ext s0 hb, rfl, by show 2 ≤ sizeLine; decide, fun p1 np1 => ⟨by show 3 ≤ sizeLine; decide, fun r nr => ?_⟩⟩
    have s1 := same_upd np1 (o := .tup [.str "constant", .int i])
    have s2 := same_upd nr (o := .tup [.ref p1, .str "int", .int 1])
    exact q _ rfl _ r ((s0.trans s1).trans s2) (.tup (.of upd_same) (.cons (Dp.ext s2 _ _ (.tup (.of upd_same) (.cons (.str _) (.cons (.int _) .nil)))) (.cons (.str _) (.cons (.int _) .nil))))
  · obtain ⟨b, xs, rfl, hb, hx⟩ := dp_tup hv
    cases hx with
    | cons k1 k2 =>
    cases k1
    cases k2 with
    | cons k2 k3 =>
    cases k2
    cases k3
    refine ⟨_, rfl, b, _, _, .str "text", rfl, rfl, hb, rfl, ?_⟩
    refine ⟨_, rfl, by show 2 ≤ sizeLine; decide, fun p0 np0 => ⟨p0, _, rfl, .inr (.of upd_same), rfl, rfl, ?_⟩⟩
    have s0 := same_upd np0 (o := .tup [.str "name", .str "field"])
    rw [if_neg Bool.false_ne_true, show inV (.str "text") [.str "name", .str "field"] = false by decide +kernel]
    refine ⟨_, rfl, iteF ⟨_, rfl, rfl, _, rfl, ?_⟩⟩
    rw [wne "text" "null" (by decide)]
    refine iteF ⟨_, rfl, rfl, _, rfl, ?_⟩
    rw [wne "text" "number" (by decide)]
    refine iteF ⟨_, rfl, by show 2 ≤ sizeLine; decide, fun p3 np3 => ⟨p3, _, rfl, .inr (.of upd_same), rfl, rfl, ?_⟩⟩
    have s3 := same_upd np3 (o := .tup [.str "text", .str "truth"])
    rw [if_neg Bool.false_ne_true, show inV (.str "text") [.str "text", .str "truth"] = true by decide +kernel]
    refine ⟨_, rfl, iteT ⟨_, rfl, b, _, _, .str x, rfl, rfl, SqT.ext (s0.trans s3) hb, rfl, by show 2 ≤ sizeLine; decide, fun p1 np1 => ⟨_, rfl, by show 3 ≤ sizeLine; decide, fun r nr => ?_⟩⟩⟩
    have s1 := same_upd np1 (o := .tup [.str "constant", .str x])
    have s2 := same_upd nr (o := .tup [.ref p1, .str "text", .int 1])
    exact q _ rfl _ r (((s0.trans s3).trans s1).trans s2) (.tup (.of upd_same) (.cons (Dp.ext s2 _ _ (.tup (.of upd_same) (.cons (.str _) (.cons (.str _) .nil)))) (.cons (.str _) (.cons (.int _) .nil))))
  · obtain ⟨b, xs, rfl, hb, hx⟩ := dp_tup hv
    cases hx with
    | cons k1 k2 =>
    cases k1
    cases k2 with
    | cons k2 k3 =>
    cases k2
    cases k3
    refine ⟨_, rfl, b, _, _, .str "truth", rfl, rfl, hb, rfl, ?_⟩
    refine ⟨_, rfl, by show 2 ≤ sizeLine; decide, fun p0 np0 => ⟨p0, _, rfl, .inr (.of upd_same), rfl, rfl, ?_⟩⟩
    have s0 := same_upd np0 (o := .tup [.str "name", .str "field"])
    rw [if_neg Bool.false_ne_true, show inV (.str "truth") [.str "name", .str "field"] = false by decide +kernel]
    refine ⟨_, rfl, iteF ⟨_, rfl, rfl, _, rfl, ?_⟩⟩
    rw [wne "truth" "null" (by decide)]
    refine iteF ⟨_, rfl, rfl, _, rfl, ?_⟩
    rw [wne "truth" "number" (by decide)]
    refine iteF ⟨_, rfl, by show 2 ≤ sizeLine; decide, fun p3 np3 => ⟨p3, _, rfl, .inr (.of upd_same), rfl, rfl, ?_⟩⟩
    have s3 := same_upd np3 (o := .tup [.str "text", .str "truth"])
    rw [if_neg Bool.false_ne_true, show inV (.str "truth") [.str "text", .str "truth"] = true by decide +kernel]
    refine ⟨_, rfl, iteT ⟨_, rfl, b, _, _, .int i, rfl, rfl, SqT.ext (s0.trans s3) hb, rfl, by show 2 ≤ sizeLine; decide, fun p1 np1 => ⟨_, rfl, by show 3 ≤ sizeLine; decide, fun r nr => ?_⟩⟩⟩
    have s1 := same_upd np1 (o := .tup [.str "constant", .int i])
    have s2 := same_upd nr (o := .tup [.ref p1, .str "truth", .int 1])
    exact q _ rfl _ r (((s0.trans s3).trans s1).trans s2) (.tup (.of upd_same) (.cons (Dp.ext s2 _ _ (.tup (.of upd_same) (.cons (.str _) (.cons (.int _) .nil)))) (.cons (.str _) (.cons (.int _) .nil))))
  · obtain ⟨b, xs, rfl, hb, hx⟩ := dp_tup hv
    cases hx with
    | cons k1 k2 =>
    cases k1
    cases k2
    refine ⟨_, rfl, b, _, _, .str "null", rfl, rfl, hb, rfl, ?_⟩
    refine ⟨_, rfl, by show 2 ≤ sizeLine; decide, fun p0 np0 => ⟨p0, _, rfl, .inr (.of upd_same), rfl, rfl, ?_⟩⟩
    have s0 := same_upd np0 (o := .tup [.str "name", .str "field"])
    rw [if_neg Bool.false_ne_true, show inV (.str "null") [.str "name", .str "field"] = false by decide +kernel]
    refine ⟨_, rfl, iteF ⟨_, rfl, rfl, _, rfl, ?_⟩⟩
    rw [weq]
    refine iteT ⟨by show 2 ≤ sizeLine; decide, fun p1 np1 => ⟨by show 3 ≤ sizeLine; decide, fun r nr => ?_⟩⟩
    have s1 := same_upd np1 (o := .tup [.str "constant", .non])
    have s2 := same_upd nr (o := .tup [.ref p1, .non, .int 1])
    exact q _ rfl _ r ((s0.trans s1).trans s2) (.tup (.of upd_same) (.cons (Dp.ext s2 _ _ (.tup (.of upd_same) (.cons (.str _) (.cons .non .nil)))) (.cons .non (.cons (.int _) .nil))))
  · obtain ⟨b, xs, rfl, hb, hx⟩ := dp_tup hv
    cases hx with
    | cons k1 k2 =>
    cases k1
    refine ⟨_, rfl, b, _, _, .str "name", rfl, rfl, hb, atI_nat (j := 0) rfl, ?_⟩
    refine ⟨_, rfl, by show 2 ≤ sizeLine; decide, fun p0 np0 => ⟨p0, _, rfl, .inr (.of upd_same), rfl, rfl, ?_⟩⟩
    have s0 := same_upd np0 (o := .tup [.str "name", .str "field"])
    rw [if_neg Bool.false_ne_true, show inV (.str "name") [.str "name", .str "field"] = true by decide +kernel]
    exact ⟨_, rfl, iteT ⟨_, rfl, _, rfl, ca, .ref b, cols, ys, .name x, told, p, rfl, s0 _ _ hca, DpAll.ext s0 _ _ hcs, hc1, hco, Dp.ext s0 _ _ hv, ⟨.inl ⟨x, rfl, hp, ht⟩, hok⟩, fun pl k s e H' r s' d => q _ (hcm.trans e) H' r (s0.trans s') d, fun m e => (fl m (hcm.trans e)).ext s0⟩⟩
  · obtain ⟨b, xs, rfl, hb, hx⟩ := dp_tup hv
    cases hx with
    | cons k1 k2 =>
    cases k1
    refine ⟨_, rfl, b, _, _, .str "field", rfl, rfl, hb, atI_nat (j := 0) rfl, ?_⟩
    refine ⟨_, rfl, by show 2 ≤ sizeLine; decide, fun p0 np0 => ⟨p0, _, rfl, .inr (.of upd_same), rfl, rfl, ?_⟩⟩
    have s0 := same_upd np0 (o := .tup [.str "name", .str "field"])
    rw [if_neg Bool.false_ne_true, show inV (.str "field") [.str "name", .str "field"] = true by decide +kernel]
    exact ⟨_, rfl, iteT ⟨_, rfl, _, rfl, ca, .ref b, cols, ys, .field x y, told, p, rfl, s0 _ _ hca, DpAll.ext s0 _ _ hcs, hc1, hco, Dp.ext s0 _ _ hv, ⟨.inr ⟨x, y, rfl, hp, ht⟩, hok⟩, fun pl k s e H' r s' d => q _ (hcm.trans e) H' r (s0.trans s') d, fun m e => (fl m (hcm.trans e)).ext s0⟩⟩
  · rw [hd] at hv
    obtain ⟨b, xs, rfl, hb, hx⟩ := dp_tup hv
    cases hx with
    | @cons _ zs _ _ k1 k2 =>
    cases k1
    refine ⟨_, rfl, b, _, _, .str o.w, rfl, rfl, hb, atI_nat (j := 0) rfl, ?_⟩
    refine ⟨_, rfl, by show 2 ≤ sizeLine; decide, fun p0 np0 => ⟨p0, _, rfl, .inr (.of upd_same), rfl, rfl, ?_⟩⟩
    have s0 := same_upd np0 (o := .tup [.str "name", .str "field"])
    rw [if_neg Bool.false_ne_true, ow_names]
    refine ⟨_, rfl, iteF ⟨_, rfl, rfl, _, rfl, ?_⟩⟩
    rw [ow_null]
    refine iteF ⟨_, rfl, rfl, _, rfl, ?_⟩
    rw [ow_number]
    refine iteF ⟨_, rfl, by show 2 ≤ sizeLine; decide, fun p3 np3 => ⟨p3, _, rfl, .inr (.of upd_same), rfl, rfl, ?_⟩⟩
    have s3 := same_upd np3 (o := .tup [.str "text", .str "truth"])
    rw [if_neg Bool.false_ne_true, ow_texts]
    refine ⟨_, rfl, iteF ?_⟩
    have s03 := s0.trans s3
    generalize upd (upd H p0 (.tup [.str "name", .str "field"])) p3 (.tup [.str "text", .str "truth"]) = H1 at s03 ⊢
    clear s0 s3
    have lz : zs.length = kids.length := by rw [DpAll.len k2, List.length_map]
    have hcut : cutV (V.str o.w :: zs) (some 1) none = zs := by
      show ((V.str o.w :: zs).drop 1).take (zs.length + 1 - 1) = zs
      rw [Nat.add_sub_cancel, List.drop_one, List.tail_cons, List.take_length]
    refine ⟨_, rfl, _, rfl, b, _, rfl, SqT.ext s03 hb, by show ¬ (1 = 0 ∧ _); exact fun z => absurd z.1 (by decide), fun D1 nD1 => ?_⟩
    rw [hcut]
    have s1 := same_upd nD1 (o := .tup zs)
    have hT : SqT K (upd H1 D1 (.tup zs)) D1 zs := .of upd_same
    generalize upd H1 D1 (.tup zs) = H2 at s1 hT ⊢
    have s02 := s03.trans s1
    refine ⟨D1, rfl, ⟨_, hT⟩, fun D nD => ?_⟩
    refine lc_tup (K := K) (a := D1) (xs := zs) (fun i Hi => Same H2 Hi ∧ ∃ (rs : List Cr) (us : List V), Hi D = some (.lst us) ∧ DpAll K Hi us (rs.map crD) ∧ seqE ((kids.take i).map (comp cols)) = .ok rs) ⟨same_upd nD, [], [], upd_same, .nil, rfl⟩ (fun i Hi _ hp => SqT.ext hp.1 hT) (fun i y Hi hy hp => ?_) (fun H3 hp => ?_)
    · obtain ⟨si, rs, us, eD, dus, hsq⟩ := hp
      have hi : i < kids.length := by rw [← lz]; exact (List.getElem?_eq_some_iff.mp hy).1
      have hc := List.getElem?_eq_getElem hi
      obtain ⟨z, hz, hE⟩ := DpAll.get (i := i) (d := (kids[i]).d) k2 (by rw [List.getElem?_map, hc]; rfl)
      obtain rfl : z = y := Option.some.inj (hz.symm.trans hy)
      have hki := hk _ (List.getElem_mem hi)
      have s0i := s02.trans si
      have hdr : kids.map (comp cols) = (kids.take i).map (comp cols) ++ comp cols kids[i] :: (kids.drop (i + 1)).map (comp cols) := by
        rw [← List.map_cons, ← List.map_append, ← List.drop_eq_getElem_cons hi, List.take_append_drop]
      generalize kids[i] = k at hc hE hki hdr
      refine ⟨rfl, _, rfl, _, rfl, ca, z, cols, ys, k, rfl, s0i _ _ hca, DpAll.ext s0i _ _ hcs, hc1, hco, Dp.ext s0i _ _ hE, hki.1, by omega, fun r hr' H' x s' hx => ?_, fun m hm => ?_⟩
      · have eD' := s' _ _ eD
        refine ⟨us, eD', ?_, fun b o hb => ?_, rs ++ [r], us ++ [.ref x], upd_same, ?_, ?_⟩
        · have h1 := DpAll.len dus
          have h2 := seqE_len hsq
          rw [List.length_map] at h1
          rw [List.length_map, List.length_take] at h2
          have har : o.ar ≤ 3 := by cases o <;> decide
          exact Nat.lt_of_le_of_lt (m := 3) (by omega) (by decide)
        · rw [upd_ne (ne_of_none hb nD)]
          exact s' _ _ (si _ _ hb)
        · rw [List.map_append]
          refine DpAll.snoc (DpAll.away eD' _ _ (only_all fun d hd => ?_) (DpAll.ext s' _ _ dus)) (Dp.away eD' _ _ (crD_only (comp_only cols k r hr')) hx)
          obtain ⟨r', hr'', rfl⟩ := List.mem_map.mp hd
          obtain ⟨k', _, hk'⟩ := List.mem_map.mp (seqE_mem hsq r' hr'')
          exact crD_only (comp_only cols k' r' hk')
        · rw [List.take_add_one, hc, List.map_append]
          show seqE (_ ++ [comp cols k]) = _
          rw [hr']
          exact seqE_snoc hsq
      · refine (fl m ?_).ext s0i
        rw [hcm]
        unfold opC
        rw [hdr, hm, seqE_err hsq]
    obtain ⟨s3, rs, us, eD, dus, hsq⟩ := hp
    rw [lz, List.take_of_length_le (Nat.le_refl _)] at hsq
    have lrs : rs.length = kids.length := by rw [seqE_len hsq, List.length_map]
    have lus : us.length = rs.length := by rw [DpAll.len dus, List.length_map]
    have har : o.ar ≤ 3 := by cases o <;> decide
    have only : ∀ r ∈ rs, tupOnly r.1 = true := fun r hr => by
      obtain ⟨k', _, hk'⟩ := List.mem_map.mp (seqE_mem hsq r hr)
      exact comp_only cols k' r hk'
    have s03 := s02.trans s3
    have each : ∀ {i : Nat} {z : V}, us[i]? = some z → ∃ r t pv, rs[i]? = some r ∧ r ∈ rs ∧ z = .ref t ∧ SqT K H3 t [pv, kdV r.2.1, .int ((r.2.2 : Nat) : Int)] ∧ Dp K H3 pv r.1 := fun {i z} hz => by
      have hi : i < rs.length := by rw [← lus]; exact (List.getElem?_eq_some_iff.mp hz).1
      have hc := List.getElem?_eq_getElem hi
      obtain ⟨z', hz', hE⟩ := DpAll.get (i := i) (d := crD (rs[i])) dus (by rw [List.getElem?_map, hc]; rfl)
      obtain rfl : z' = z := Option.some.inj (hz'.symm.trans hz)
      obtain ⟨t, pv, e1, e2, e3⟩ := dp_cr hE
      exact ⟨rs[i], t, pv, hc, List.getElem_mem hi, e1, e2, e3⟩
    have opcE : ∀ m, opK o (rs.map (·.2.1)) = .error m → comp cols e = .error m := fun m hm => by
      rw [hcm]
      unfold opC
      rw [hsq]
      dsimp only
      rw [hm]
    have opcO : ∀ k, opK o (rs.map (·.2.1)) = .ok k → comp cols e = .ok (opF o (rs.map (·.1)), k, opZ o (rs.map (·.2.2))) := fun k hm => by
      rw [hcm]
      unfold opC
      rw [hsq]
      dsimp only
      rw [hm]
    -- the kinds
    refine ⟨_, rfl, _, rfl, D, rfl, ⟨_, .of eD⟩, fun D2 nD2 => ?_⟩
    refine lc_list (K := K) (a := D) (xs := us) (fun i Hi => Same H3 Hi ∧ Hi D2 = some (.lst (((rs.take i).map (·.2.1)).map kdV))) ⟨same_upd nD2, upd_same⟩ (fun i Hi _ hp => .of (hp.1 _ _ eD)) (fun i y Hi hy hp => ?_) (fun H4 hp => ?_)
    · obtain ⟨si, eD2⟩ := hp
      obtain ⟨r, t, pv, hr1, hr2, rfl, ht, _⟩ := each hy
      refine ⟨t, _, rfl, SqT.ext si ht, rfl, _, _, rfl, _, _, rfl, _, _, rfl, rfl, rfl, _, rfl, _, eD2, ?_, fun b o hb => ?_, ?_⟩
      · rw [List.length_map, List.length_map, List.length_take]
        exact Nat.lt_of_le_of_lt (m := 3) (by omega) (by decide)
      · rw [upd_ne (ne_of_none hb nD2)]
        exact si _ _ hb
      · rw [upd_same, List.take_add_one, hr1, List.map_append, List.map_append]
        rfl
    obtain ⟨s4, eD2⟩ := hp
    rw [lus, List.take_of_length_le (Nat.le_refl _)] at eD2
    have s04 := s03.trans s4
    refine ⟨o, rs.map (·.2.1), D2, rfl, eD2, by rw [List.length_map]; omega, fun k hk H5 s5 => ?_, fun m hm => (fl m (opcE m hm)).ext s04⟩
    have s35 := s4.trans s5
    have s05 := s04.trans s5
    -- the forms
    refine ⟨_, rfl, _, rfl, D, rfl, ⟨_, .of (s35 _ _ eD)⟩, fun D3 nD3 => ?_⟩
    refine lc_list (K := K) (a := D) (xs := us) (fun i Hi => Same H5 Hi ∧ ∃ ps, Hi D3 = some (.lst ps) ∧ DpAll K Hi ps ((rs.take i).map (·.1))) ⟨same_upd nD3, [], upd_same, .nil⟩ (fun i Hi _ hp => .of (hp.1 _ _ (s35 _ _ eD))) (fun i y Hi hy hp => ?_) (fun H6 hp => ?_)
    · obtain ⟨si, ps, eD3, dps⟩ := hp
      obtain ⟨r, t, pv, hr1, hr2, rfl, ht, hpv⟩ := each hy
      have s3i := s35.trans si
      have lps := DpAll.len dps
      rw [List.length_map, List.length_take] at lps
      refine ⟨t, _, rfl, SqT.ext s3i ht, rfl, _, _, rfl, _, _, rfl, _, _, rfl, rfl, rfl, _, rfl, ps, eD3, Nat.lt_of_le_of_lt (m := 3) (by omega) (by decide), fun b o hb => ?_, ps ++ [pv], upd_same, ?_⟩
      · rw [upd_ne (ne_of_none hb nD3)]
        exact si _ _ hb
      · rw [List.take_add_one, hr1, List.map_append]
        refine DpAll.snoc (DpAll.away eD3 _ _ (only_all fun d hd => ?_) dps) (Dp.away eD3 _ _ (only r hr2) (Dp.ext s3i _ _ hpv))
        obtain ⟨r', hr', rfl⟩ := List.mem_map.mp hd
        exact only r' (List.mem_of_mem_take hr')
    obtain ⟨s6, ps, eD3, dps⟩ := hp
    rw [lus, List.take_of_length_le (Nat.le_refl _)] at dps
    have s36 := s35.trans s6
    refine ⟨o, rs.map (·.1), ps, D3, rfl, eD3, dps, by rw [List.length_map]; omega, fun H7 pr s7 dpr => ?_⟩
    have s37 := s36.trans s7
    have s07 := s05.trans (s6.trans s7)
    -- the sizes
    refine ⟨_, rfl, _, rfl, _, rfl, _, rfl, D, rfl, ⟨_, .of (s37 _ _ eD)⟩, fun D4 nD4 => ?_⟩
    refine lc_list (K := K) (a := D) (xs := us) (fun i Hi => Same H7 Hi ∧ Hi D4 = some (.lst (((rs.take i).map (·.2.2)).map fun n => V.int ((n : Nat) : Int)))) ⟨same_upd nD4, upd_same⟩ (fun i Hi _ hp => .of (hp.1 _ _ (s37 _ _ eD))) (fun i y Hi hy hp => ?_) (fun H8 hp => ?_)
    · obtain ⟨si, eD4⟩ := hp
      obtain ⟨r, t, pv, hr1, hr2, rfl, ht, _⟩ := each hy
      refine ⟨t, _, rfl, SqT.ext (s37.trans si) ht, rfl, _, _, rfl, _, _, rfl, _, _, rfl, rfl, rfl, _, rfl, _, eD4, ?_, fun b o hb => ?_, ?_⟩
      · rw [List.length_map, List.length_map, List.length_take]
        exact Nat.lt_of_le_of_lt (m := 3) (by omega) (by decide)
      · rw [upd_ne (ne_of_none hb nD4)]
        exact si _ _ hb
      · rw [upd_same, List.take_add_one, hr1, List.map_append, List.map_append]
        rfl
    obtain ⟨s8, eD4⟩ := hp
    rw [lus, List.take_of_length_le (Nat.le_refl _)] at eD4
    refine ⟨o, rs.map (·.2.2), D4, rfl, eD4, by rw [List.length_map]; omega, ?_⟩
    refine ⟨by show 3 ≤ sizeLine; decide, fun r nr => ?_⟩
    have s9 := same_upd nr (o := .tup [.ref pr, kdV k, .int ((opZ o (rs.map (·.2.2)) : Nat) : Int)])
    have s89 := s8.trans s9
    exact q _ (opcO k hk) _ r (s07.trans s89) (.tup (.of upd_same) (.cons (Dp.ext s89 _ _ dpr) (.cons (dp_kd k) (.cons (.int _) .nil))))
theorem cl_wo {f : Addr} {fd : FuncData} (F : Fun K "written_out" "written_out" s_written_out f fd) (M : Mg mg) (PB : PrbE P w K mg base C) (g : mg "written_out" = some (.ref f)) (b : Binds K fd ["columns", "expression"] []) (cx_named_column : ClX P w K mg base 3 "named_column" (sp_nc C K)) (cx_result_kind : ClX P w K mg base 4 "result_kind" (sp_rk C)) (c_plain_form : Cl P w K mg base 1 "plain_form" (sp_pf K)) (c_result_size : Cl P w K mg base 1 "result_size" sp_rz) : ∀ n, ClX P w K mg base (n + 5) "written_out" (sp_wo C K n)
  | 0 => FnOk.clx (P := P) (w := w) (base := base) (F.okX sc_written_out (fun vs H Q E h => by obtain ⟨ca, v, cols, ys, e, rfl, _⟩ := h; rfl) (fun cdv A outer s H vs Q E hr h => by obtain ⟨ca, v, cols, ys, e, rfl, _, _, _, _, _, _, h0, _⟩ := h; exact absurd h0 (Nat.not_lt_zero _))) F g b
  | n + 1 => FnOk.clx (ok_wo n F M PB cx_named_column (cl_wo F M PB g b cx_named_column cx_result_kind c_plain_form c_result_size n) cx_result_kind c_plain_form c_result_size) F g b
def sp_ce (C : Addr) (K : PySem.W.Frag) (n : Nat) : Sp := fun vs H Q E => ∃ (ca : Addr) (v : V) (cols : List Col) (ys : List V) (e : Et), vs = [.ref ca, v] ∧ H ca = some (.lst ys) ∧ DpAll K H ys (cols.map Col.d) ∧ cols.length ≤ 1000 ∧ (∀ c ∈ cols, c.ok) ∧ Dp K H v e.d ∧ e.ok ∧ e.ht < n ∧
  (∀ r, comp cols e = .ok r → r.2.2 ≤ 200 → ∀ H' x, Same H H' → Dp K H' (.ref x) (.tuple [r.1, kdD r.2.1]) → Q (.ref x) H') ∧ (∀ r, comp cols e = .ok r → ¬ r.2.2 ≤ 200 → Pf C "too large" E H) ∧ ∀ m, comp cols e = .error m → Pf C m E H
theorem ok_ce (n : Nat) {f : Addr} {fd : FuncData} (F : Fun K "compile_expression" "compile_expression" s_compile_expression f fd) (M : Mg mg) (PB : PrbE P w K mg base C) (G : Kg K w mg aO aC aE aP aL eO eE eP nO nE nP) (cx_written_out : ClX P w K mg base (n + 5) "written_out" (sp_wo C K n)) : FnOk P w K mg base (L2.CX P w) (n + 6) f fd ["columns", "expression"] (sp_ce C K n) := by
  refine F.okX sc_compile_expression (fun vs H Q E h => ?_) (fun cdv A outer s H vs Q E hr h => ?_)
  · obtain ⟨ca, v, cols, ys, e, rfl, _⟩ := h
    rfl
  obtain ⟨ca, v, cols, ys, e, rfl, hca, hcs, hc1, hco, hv, hok, hht, q, fl2, fl⟩ := h
  refine ⟨_, (pss_cons (ps_asg (pe_ux cx_written_out hr (by first | decide | omega) (E := E) (passX (takes_of rfl rfl rfl rfl)) (by rfl) (pa_cons (pv 0) (pa_cons (pv 1) pa_nil))) (pg_tup (by rfl) (pgs_cons (pg_name (i := 2) sc_compile_expression.nd rfl (.inl rfl)) (pgs_cons (pg_name (i := 3) sc_compile_expression.nd rfl (.inl rfl)) (pgs_cons (pg_name (i := 4) sc_compile_expression.nd rfl (.inl rfl)) pgs_nil)))))
      (pss_cons (ps_if (pt_cmpR op_gt (pv 4) (C8.pe_gc (by rfl) G.MOST_SIZE) (nomark _)) (pss_one (ps_raiseM PB rfl (takes_of rfl rfl rfl rfl) hr (by first | decide | omega) (by rfl) (pa_cons pe_str pa_nil))) pss_nil)
      (pss_one (ps_ret (pe_tup (pa_cons (pv 2) (pa_cons (pv 3) pa_nil))))))), ?_⟩
  refine ⟨_, rfl, _, rfl, ca, v, cols, ys, e, rfl, hca, hcs, hc1, hco, hv, hok, hht, fun r hr H1 x s1 hx => ?_, fun m hm => fl m hm⟩
  obtain ⟨t, pv, e1, ht, hpv⟩ := dp_cr hx
  cases e1
  refine ⟨x, _, rfl, ht, rfl, _, _, rfl, _, _, rfl, _, _, rfl, rfl, ?_⟩
  refine ⟨_, rfl, _, _, rfl, rfl, _, rfl, ?_⟩
  by_cases h200 : r.2.2 ≤ 200
  · rw [decide_eq_false (show ¬ (200 : Int) < ((r.2.2 : Nat) : Int) by omega)]
    refine iteF ⟨_, rfl, _, rfl, by show 2 ≤ sizeLine; decide, fun y ny => ?_⟩
    have s2 := same_upd ny (o := .tup [pv, kdV r.2.1])
    exact q r hr h200 _ y (s1.trans s2) (.tup (.of upd_same) (.cons (Dp.ext s2 _ _ hpv) (.cons (dp_kd _) .nil)))
  · rw [decide_eq_true (show (200 : Int) < ((r.2.2 : Nat) : Int) by omega)]
    exact iteT ⟨_, rfl, by decide +kernel, fun d H' nd s' e' => (fl2 r hr h200).ext s1 d H' nd s' e'⟩
end

/-! ### trees that are well kinded: what the laws draw -/
def Et.sz : Et → Nat
  | .op1 o a => opZ o [a.sz]
  | .op2 o a b => opZ o [a.sz, b.sz]
  | .op3 o a b c => opZ o [a.sz, b.sz, c.sz]
  | _ => 1
theorem et_only : ∀ e : Et, tupOnly e.d = true
  | .num _ => rfl
  | .text _ => rfl
  | .truth _ => rfl
  | .null => rfl
  | .name _ => rfl
  | .field _ _ => rfl
  | .op1 o a => only_tup fun d hd => by
    simp only [List.mem_cons, List.not_mem_nil, or_false] at hd
    rcases hd with rfl | rfl
    · rfl
    · exact et_only a
  | .op2 o a b => only_tup fun d hd => by
    simp only [List.mem_cons, List.not_mem_nil, or_false] at hd
    rcases hd with rfl | rfl | rfl
    · rfl
    · exact et_only a
    · exact et_only b
  | .op3 o a b c => only_tup fun d hd => by
    simp only [List.mem_cons, List.not_mem_nil, or_false] at hd
    rcases hd with rfl | rfl | rfl | rfl
    · rfl
    · exact et_only a
    · exact et_only b
    · exact et_only c
theorem seqE_oks {α : Type} : ∀ rs : List α, seqE (rs.map Except.ok) = .ok rs
  | [] => rfl
  | r :: rs => by
    rw [List.map_cons]
    unfold seqE
    rw [seqE_oks rs]
theorem opC_ok {o : Ow} {rs : List Cr} {k : Option Kd} (h : opK o (rs.map (·.2.1)) = .ok k) : opC o (rs.map Except.ok) = .ok (opF o (rs.map (·.1)), k, opZ o (rs.map (·.2.2))) := by
  unfold opC
  rw [seqE_oks]
  dsimp only
  rw [h]
/-- of kind k (or without one), of the law's size -/
def Wk (cols : List Col) (k : Kd) (e : Et) : Prop := e.ok ∧ ∃ r, comp cols e = .ok r ∧ need k r.2.1 = true ∧ r.2.2 = e.sz
theorem need_self (k : Kd) : need k (some k) = true := by cases k <;> rfl
theorem need_or {k : Kd} {x : Option Kd} (h : need k x = true) : x = none ∨ x = some k := by
  unfold need at h
  rw [Bool.or_eq_true, decide_eq_true_iff, decide_eq_true_iff] at h
  exact h
theorem common_ok {k : Kd} {x y : Option Kd} (hx : need k x = true) (hy : need k y = true) : ∃ z, common x y = .ok z ∧ need k z = true := by
  rcases need_or hx with rfl | rfl
  · exact ⟨y, rfl, hy⟩
  · refine ⟨some k, ?_, need_self k⟩
    show (if need k y = true then Except.ok (some k) else _) = _
    rw [if_pos hy]
section
variable {cols : List Col}
theorem wk1 {o : Ow} {a : Et} {x r : Kd} (hw : o.want = some (x, r)) (har : o.ar = 1) (ha : Wk cols x a) : Wk cols r (.op1 o a) := by
  obtain ⟨oka, ra, ea, na, sa⟩ := ha
  have hk : opK o ([ra].map (·.2.1)) = .ok (some r) := by
    unfold opK
    rw [hw]
    show (if (need x ra.2.1 && true) = true then _ else _) = _
    rw [na]
    rfl
  refine ⟨⟨har, oka⟩, (opF o ([ra].map (·.1)), some r, opZ o ([ra].map (·.2.2))), ?_, need_self r, ?_⟩
  · show opC o [comp cols a] = _
    rw [ea]
    exact opC_ok (rs := [ra]) hk
  · show opZ o [ra.2.2] = opZ o [a.sz]
    rw [sa]
theorem wk2 {o : Ow} {a b : Et} {x r : Kd} (hw : o.want = some (x, r)) (har : o.ar = 2) (ha : Wk cols x a) (hb : Wk cols x b) : Wk cols r (.op2 o a b) := by
  obtain ⟨oka, ra, ea, na, sa⟩ := ha
  obtain ⟨okb, rb, eb, nb, sb⟩ := hb
  have hk : opK o ([ra, rb].map (·.2.1)) = .ok (some r) := by
    unfold opK
    rw [hw]
    show (if (need x ra.2.1 && (need x rb.2.1 && true)) = true then _ else _) = _
    rw [na, nb]
    rfl
  refine ⟨⟨har, oka, okb⟩, (opF o ([ra, rb].map (·.1)), some r, opZ o ([ra, rb].map (·.2.2))), ?_, need_self r, ?_⟩
  · show opC o [comp cols a, comp cols b] = _
    rw [ea, eb]
    exact opC_ok (rs := [ra, rb]) hk
  · show opZ o [ra.2.2, rb.2.2] = opZ o [a.sz, b.sz]
    rw [sa, sb]
theorem wk_missing {a : Et} {x : Kd} (ha : Wk cols x a) : Wk cols .truth (.op1 .missing a) := by
  obtain ⟨oka, ra, ea, na, sa⟩ := ha
  refine ⟨⟨rfl, oka⟩, (opF .missing ([ra].map (·.1)), some .truth, opZ .missing ([ra].map (·.2.2))), ?_, need_self .truth, ?_⟩
  · show opC .missing [comp cols a] = _
    rw [ea]
    exact opC_ok (o := .missing) (rs := [ra]) rfl
  · show opZ .missing [ra.2.2] = opZ .missing [a.sz]
    rw [sa]
theorem opK_two {o : Ow} (h : o.cmp = true ∨ o = .coalesce) (a b : Option Kd) : opK o [a, b] = (common a b).map fun c => if o.cmp = true then some .truth else c := by
  cases o <;> first | rfl | (rcases h with h | h <;> cases h)
theorem wk_cmp {o : Ow} {a b : Et} {x : Kd} (hc : o.cmp = true) (ha : Wk cols x a) (hb : Wk cols x b) : Wk cols .truth (.op2 o a b) := by
  obtain ⟨oka, ra, ea, na, sa⟩ := ha
  obtain ⟨okb, rb, eb, nb, sb⟩ := hb
  obtain ⟨z, hz, _⟩ := common_ok na nb
  have hk : opK o ([ra, rb].map (·.2.1)) = .ok (some .truth) := by
    show opK o [ra.2.1, rb.2.1] = _
    rw [opK_two (.inl hc), hz, hc]
    rfl
  refine ⟨⟨(by cases o <;> first | rfl | cases hc), oka, okb⟩, (opF o ([ra, rb].map (·.1)), some .truth, opZ o ([ra, rb].map (·.2.2))), ?_, need_self .truth, ?_⟩
  · show opC o [comp cols a, comp cols b] = _
    rw [ea, eb]
    exact opC_ok (rs := [ra, rb]) hk
  · show opZ o [ra.2.2, rb.2.2] = opZ o [a.sz, b.sz]
    rw [sa, sb]
theorem wk_coalesce {a b : Et} {x : Kd} (ha : Wk cols x a) (hb : Wk cols x b) : Wk cols x (.op2 .coalesce a b) := by
  obtain ⟨oka, ra, ea, na, sa⟩ := ha
  obtain ⟨okb, rb, eb, nb, sb⟩ := hb
  obtain ⟨z, hz, nz⟩ := common_ok na nb
  have hk : opK .coalesce ([ra, rb].map (·.2.1)) = .ok z := by
    show opK .coalesce [ra.2.1, rb.2.1] = _
    rw [opK_two (.inr rfl), hz]
    rfl
  refine ⟨⟨rfl, oka, okb⟩, (opF .coalesce ([ra, rb].map (·.1)), z, opZ .coalesce ([ra, rb].map (·.2.2))), ?_, nz, ?_⟩
  · show opC .coalesce [comp cols a, comp cols b] = _
    rw [ea, eb]
    exact opC_ok (rs := [ra, rb]) hk
  · show opZ .coalesce [ra.2.2, rb.2.2] = opZ .coalesce [a.sz, b.sz]
    rw [sa, sb]
theorem wk_if {a b c : Et} {x : Kd} (ha : Wk cols .truth a) (hb : Wk cols x b) (hc : Wk cols x c) : Wk cols x (.op3 .ite a b c) := by
  obtain ⟨oka, ra, ea, na, sa⟩ := ha
  obtain ⟨okb, rb, eb, nb, sb⟩ := hb
  obtain ⟨okc, rc, ec, nc, sc⟩ := hc
  obtain ⟨z, hz, nz⟩ := common_ok nb nc
  have hk : opK .ite ([ra, rb, rc].map (·.2.1)) = .ok z := by
    show (if need .truth ra.2.1 = true then common rb.2.1 rc.2.1 else _) = _
    rw [if_pos na, hz]
  refine ⟨⟨rfl, oka, okb, okc⟩, (opF .ite ([ra, rb, rc].map (·.1)), z, opZ .ite ([ra, rb, rc].map (·.2.2))), ?_, nz, ?_⟩
  · show opC .ite [comp cols a, comp cols b, comp cols c] = _
    rw [ea, eb, ec]
    exact opC_ok (rs := [ra, rb, rc]) hk
  · show opZ .ite [ra.2.2, rb.2.2, rc.2.2] = opZ .ite [a.sz, b.sz, c.sz]
    rw [sa, sb, sc]
theorem wk_num (i : Int) (h : -1000000000000000 ≤ i ∧ i ≤ 1000000000000000 := by decide) : Wk cols .int (.num i) := ⟨h, _, rfl, need_self .int, rfl⟩
theorem wk_text (x : Str) (h : x.length ≤ 100 ∧ PyData.strOk x = true := by decide +kernel) : Wk cols .text (.text x) := ⟨h, _, rfl, need_self .text, rfl⟩
theorem wk_truth (i : Int) (h : i = 0 ∨ i = 1 := by decide) : Wk cols .truth (.truth i) := ⟨h, _, rfl, need_self .truth, rfl⟩
theorem wk_null (k : Kd) : Wk cols k .null := ⟨trivial, _, rfl, by cases k <;> rfl, rfl⟩
theorem namedC_one {told : Str} {p : Col → Bool} {i : Nat} {c : Col} (h : plcs cols p = [i]) (hc : cols[i]? = some c) : namedC cols told p = .ok (.tuple [.str "column", .int (i : Nat)], c.kd, 1) := by
  unfold namedC
  rw [h]
  dsimp only
  rw [hc]
  rfl
theorem wk_name {x : Str} {i : Nat} {c : Col} {k : Kd} (hx : (Et.name x).ok) (h : plcs cols (fun c => decide (c.nm = x)) = [i]) (hc : cols[i]? = some c) (hk : c.kd = some k) : Wk cols k (.name x) := ⟨hx, _, namedC_one h hc, by rw [hk]; exact need_self k, rfl⟩
theorem wk_field {x y : Str} {i : Nat} {c : Col} {k : Kd} (hx : (Et.field x y).ok) (h : plcs cols (fun c => decide (c.src = some x) && decide (c.nm = y)) = [i]) (hc : cols[i]? = some c) (hk : c.kd = some k) : Wk cols k (.field x y) := ⟨hx, _, namedC_one h hc, by rw [hk]; exact need_self k, rfl⟩
end
/-- a leaf's word; or an operator -/
theorem sz_view (e : Et) (h : e.ok) : (∃ s rest, e.d = .tuple (.str (Str.ofString s) :: rest) ∧ s ∈ (["number", "text", "truth", "null", "name", "field"] : List String) ∧ e.sz = 1) ∨
    ∃ (o : Ow) (kids : List Et), e.d = .tuple (.str o.w :: kids.map Et.d) ∧ kids.length = o.ar ∧ e.sz = opZ o (kids.map Et.sz) ∧ ∀ k ∈ kids, k.ok ∧ k.ht < e.ht := by
  cases e with
  | num i => exact .inl ⟨"number", _, rfl, by decide, rfl⟩
  | text x => exact .inl ⟨"text", _, rfl, by decide, rfl⟩
  | truth i => exact .inl ⟨"truth", _, rfl, by decide, rfl⟩
  | null => exact .inl ⟨"null", _, rfl, by decide, rfl⟩
  | name x => exact .inl ⟨"name", _, rfl, by decide, rfl⟩
  | field x y => exact .inl ⟨"field", _, rfl, by decide, rfl⟩
  | op1 o a => exact .inr ⟨o, [a], rfl, h.1.symm, rfl, fun k hk => by
      rw [List.mem_singleton.mp hk]
      exact ⟨h.2, Nat.lt_succ_self _⟩⟩
  | op2 o a b => exact .inr ⟨o, [a, b], rfl, h.1.symm, rfl, fun k hk => by
      simp only [List.mem_cons, List.not_mem_nil, or_false] at hk
      show _ ∧ _ < max a.ht b.ht + 1
      rcases hk with rfl | rfl
      · exact ⟨h.2.1, by omega⟩
      · exact ⟨h.2.2, by omega⟩⟩
  | op3 o a b c => exact .inr ⟨o, [a, b, c], rfl, h.1.symm, rfl, fun k hk => by
      simp only [List.mem_cons, List.not_mem_nil, or_false] at hk
      show _ ∧ _ < max a.ht (max b.ht c.ht) + 1
      rcases hk with rfl | rfl | rfl
      · exact ⟨h.2.1, by omega⟩
      · exact ⟨h.2.2.1, by omega⟩
      · exact ⟨h.2.2.2, by omega⟩⟩
theorem mk_dp {K : PySem.W.Frag} {H : Hp} {p : Addr} {xs : List V} {ds : List PyData} (n : H p = none) (h : DpAll K H xs ds) : Dp K (upd H p (.tup xs)) (.ref p) (.tuple ds) := .tup (.of upd_same) (DpAll.ext (same_upd n) _ _ h)
theorem pickO {ops : List Ow} {k : Nat} (h : k < ops.length) : ∃ o ∈ ops, (ops.map fun o => V.str o.w)[k]? = some (.str o.w) := ⟨ops[k], List.getElem_mem h, by rw [List.getElem?_map, List.getElem?_eq_getElem h]; rfl⟩
/-- a tree's data on the heap, where only the draw changes -/
theorem dpe_fd {K : PySem.W.Frag} {H H' : Hp} {d c : Addr} {v : V} {e : Et} (dr : Dr H d c) (f : Fd d H H') (h : Dp K H v e.d) : Dp K H' v e.d := by
  obtain ⟨_, ns, pos, rest, seed, h1, _⟩ := dr
  exact Dp.fd ⟨_, h1⟩ f _ _ (et_only e) h
theorem tIf_v {c : Bool} {ta tb : TE} {σ : L2.St} {H : Hp} {Q : VK} {v : V} (h1 : c = true → ∀ Q : VK, Q v H → ta σ H Q) (h2 : c = false → ∀ Q : VK, Q v H → tb σ H Q) (q : Q v H) : if c = true then ta σ H Q else tb σ H Q := by
  cases c with
  | true => exact iteT (h1 rfl Q q)
  | false => exact iteF (h2 rfl Q q)

/-! ### the laws' well kinded trees over columns -/
structure Cok (cols : List Col) : Prop where
  len : cols.length ≤ 10
  ok : ∀ c ∈ cols, c.ok ∧ (Et.name c.nm).ok ∧ ∀ x, c.src = some x → (Et.field x c.nm).ok
  kd : ∀ c ∈ cols, ∃ k, c.kd = some k
  inj : ∀ (i j : Nat) (ci cj : Col), cols[i]? = some ci → cols[j]? = some cj → ci.src = cj.src → ci.nm = cj.nm → i = j
def aloneB (cols : List Col) (c : Col) : Bool := decide ((cols.filter fun o => decide (o.nm = c.nm)).length = 1)
theorem plcs_one {cols : List Col} {p : Col → Bool} {j : Nat} {c : Col} (hj : cols[j]? = some c) (hp : p c = true) (h : ∀ i ci, cols[i]? = some ci → p ci = true → i = j) : plcs cols p = [j] := by
  have mem : ∀ i, i ∈ plcs cols p ↔ i = j := fun i => by
    unfold plcs
    rw [List.mem_filter, List.mem_range]
    refine ⟨fun ⟨h1, h2⟩ => ?_, fun e => ?_⟩
    · rw [List.getElem?_eq_getElem h1] at h2
      exact h i _ (List.getElem?_eq_getElem h1) h2
    · subst e
      refine ⟨(List.getElem?_eq_some_iff.mp hj).1, ?_⟩
      rw [hj]
      exact hp
  have nd : (plcs cols p).Nodup := List.nodup_range.sublist List.filter_sublist
  match e : plcs cols p with
  | [] => exact absurd ((mem j).mpr rfl) (by rw [e]; exact List.not_mem_nil)
  | [i] => rw [(mem i).mp (by rw [e]; exact List.mem_cons_self)]
  | i :: k :: l =>
    have h1 := (mem i).mp (by rw [e]; exact List.mem_cons_self)
    have h2 := (mem k).mp (by rw [e]; exact List.mem_cons_of_mem _ List.mem_cons_self)
    rw [e, h1, h2] at nd
    exact absurd List.mem_cons_self (List.nodup_cons.mp nd).1
theorem filter_one {α : Type} {p : α → Bool} : ∀ {l : List α} {i j : Nat} {x y : α}, (l.filter p).length = 1 → l[i]? = some x → l[j]? = some y → p x = true → p y = true → i = j
  | [], i, j, x, y, _, h, _, _, _ => by simp at h
  | z :: l, 0, 0, x, y, _, _, _, _, _ => rfl
  | z :: l, 0, j + 1, x, y, h, hx, hy, px, py => by
    cases (Option.some.inj hx)
    rw [List.filter_cons_of_pos px, List.length_cons] at h
    have : y ∈ l.filter p := List.mem_filter.mpr ⟨List.mem_of_getElem? (by simpa using hy), py⟩
    have := List.length_pos_of_mem this
    omega
  | z :: l, i + 1, 0, x, y, h, hx, hy, px, py => by
    cases (Option.some.inj hy)
    rw [List.filter_cons_of_pos py, List.length_cons] at h
    have : x ∈ l.filter p := List.mem_filter.mpr ⟨List.mem_of_getElem? (by simpa using hx), px⟩
    have := List.length_pos_of_mem this
    omega
  | z :: l, i + 1, j + 1, x, y, h, hx, hy, px, py => by
    by_cases pz : p z = true
    · rw [List.filter_cons_of_pos pz, List.length_cons] at h
      have : x ∈ l.filter p := List.mem_filter.mpr ⟨List.mem_of_getElem? (by simpa using hx), px⟩
      have := List.length_pos_of_mem this
      omega
    · rw [List.filter_cons_of_neg pz] at h
      exact congrArg (· + 1) (filter_one h (show l[i]? = some x by simpa using hx) (show l[j]? = some y by simpa using hy) px py)
theorem wk_alone {cols : List Col} (ck : Cok cols) {j : Nat} {c : Col} {k : Kd} (hj : cols[j]? = some c) (hk : c.kd = some k) (ha : aloneB cols c = true) : Wk cols k (.name c.nm) :=
  wk_name ((ck.ok c (List.mem_of_getElem? hj)).2.1) (plcs_one hj (decide_eq_true rfl) fun i ci hi hp => filter_one (of_decide_eq_true ha) hi hj hp (decide_eq_true rfl)) hj hk
theorem wk_src {cols : List Col} (ck : Cok cols) {j : Nat} {c : Col} {k : Kd} {x : Str} (hj : cols[j]? = some c) (hk : c.kd = some k) (hx : c.src = some x) : Wk cols k (.field x c.nm) :=
  wk_field ((ck.ok c (List.mem_of_getElem? hj)).2.2 x hx) (plcs_one hj (by rw [decide_eq_true hx, decide_eq_true rfl]; rfl) fun i ci hi hp => by
    rw [Bool.and_eq_true, decide_eq_true_iff, decide_eq_true_iff] at hp
    exact ck.inj i j ci c hi hj (hp.1.trans hx.symm) hp.2) hj hk
theorem kdS_dec (a b : Kd) : decide (V.str (Str.ofString a.s) = V.str (Str.ofString b.s)) = decide (a = b) := by
  cases a <;> cases b <;> first | exact weq _ | exact wne _ _ (by decide)
theorem col_only (c : Col) : tupOnly c.d = true := only_tup fun d hd => by
  simp only [List.mem_cons, List.not_mem_nil, or_false] at hd
  rcases hd with rfl | rfl | rfl
  · cases c.src <;> rfl
  · rfl
  · cases c.kd <;> rfl
theorem cols_only (cols : List Col) : tupOnlys (cols.map Col.d) = true := only_all fun d hd => by
  obtain ⟨c, _, rfl⟩ := List.mem_map.mp hd
  exact col_only c
theorem dp_col {K : PySem.W.Frag} {H : Hp} {v : V} {c : Col} (h : Dp K H v c.d) : ∃ t sv, v = .ref t ∧ SqT K H t [sv, .str c.nm, kdV c.kd] ∧ Dp K H sv (srcD c.src) := by
  obtain ⟨t, xs, rfl, ht, hx⟩ := dp_tup h
  cases hx with
  | @cons sv _ _ _ g1 g2 =>
  cases g2 with
  | cons g2 g3 =>
  cases g2
  cases g3 with
  | cons g3 g4 =>
  cases g4
  rw [dp_kdV g3] at ht
  exact ⟨t, sv, rfl, ht, g1⟩
def Fit (cols : List Col) (k : Kd) (ys : List V) (H : Hp) (u : V) : Prop := ∃ (t : Addr) (j : Nat) (yj : V) (c : Col), u = .ref t ∧ H t = some (.tup [yj, .bl (aloneB cols c)]) ∧ ys[j]? = some yj ∧ cols[j]? = some c ∧ c.kd = some k ∧ (aloneB cols c = true ∨ c.src ≠ none)
def sp_named (K : PySem.W.Frag) (cols : List Col) : Sp := fun vs H Q _ => ∃ (d c l : Addr) (ys : List V) (k : Kd), vs = [.ref d, .ref l, .str (Str.ofString k.s)] ∧ Dr H d c ∧ H l = some (.lst ys) ∧ l ≠ d ∧ DpAll K H ys (cols.map Col.d) ∧ ∀ H' v e, Fd d H H' → Dr H' d c → Dp K H' v e.d → Wk cols k e → e.ht = 0 → Q v H'
section
variable {P : Program} {w : World} {K : PySem.W.Frag} {mg : Str → Option Value} {base : Heap} {C : Addr}
set_option maxHeartbeats 1000000 in
theorem ok_named {cols : List Col} (ck : Cok cols) {f : Addr} {fd : FuncData} (F : Fun K "_law_named" "_law_named" s__law_named f fd) (M : Mg mg) (c__law_next : Cl P w K mg base 1 "_law_next" sp_next) : FnOk P w K mg base CX0 2 f fd ["draw", "columns", "kind"] (sp_named K cols) := by
  refine F.ok sc__law_named (fun vs H Q E h => ?_) (fun cdv A outer s H vs Q E hr h => ?_)
  · obtain ⟨d, c, l, ys, k, rfl, _⟩ := h
    rfl
  obtain ⟨d, c, l, ys, k, rfl, dr, el, nld, hcs, q⟩ := h
  refine ⟨_, (pss_cons (ps_set (i := 3) sc__law_named.nd rfl (.inl rfl) (pe_lst pa_nil))
      (pss_cons (ps_for PassesOwn.never rfl (pi_list (pv 1)) (pg_name (i := 4) sc__law_named.nd rfl (.inr rfl)) (pss_cons (ps_set (i := 5) sc__law_named.nd rfl (.inl rfl) (pe_cmpR op_eq (pe_callB (len_seqK K) (by rfl) M.len PySem.boot_len (pa_cons (pe_lc (own := [("other", 6)]) (g := gName 6) rfl sc__law_named.nd (pi_list (pv 1)) (blkOk_by (N := N__law_named) (sc := defScope s__law_named) (by decide +kernel)) (fun _ _ _ _ _ => (pg_name (i := 6) sc__law_named.nd rfl (.inl rfl))) (fun _ _ _ _ _ => (pts_one (pt_cmpR op_eq (pe_ix (ix_tupK K) (pv 6) pe_int (fun _ _ => rfl)) (pe_ix (ix_tupK K) (pv 4) pe_int (fun _ _ => rfl)) (nomark _)))) (fun _ _ _ _ _ => (pv 6))) pa_nil)) pe_int (nomark _)))
      (pss_one (ps_if (PW.pt (pw_and (pt_cmpR op_eq (pe_ix (ix_tupK K) (pv 4) pe_int (fun _ _ => rfl)) (pv 2) (nomark _)) (pw_and1 (PW.pt (pw_or (pt_val (pv 5)) (pw_or1 (pt_cmpR op_notN (pe_ix (ix_tupK K) (pv 4) pe_int (fun _ _ => rfl)) pe_non (nomark _)))))))) (pss_one (ps_expr (pe_bmK K PySem.F.plainAttrs_list PySem.F.slot_list_append PySem.F.type_list_append mt_append (pv 3) (pa_cons (pe_tup (pa_cons (pv 4) (pa_cons (pv 5) pa_nil))) pa_nil)))) pss_nil))))
      (pss_cons (ps_if (pt_not (pt_truthK K (pv 3) (by intro _; rfl))) (pss_one (ps_ret (pe_tup (pa_cons pe_str pa_nil)))) pss_nil)
      (pss_cons (ps_asg (pe_ix (ix_listK K) (pv 3) (pe_u c__law_next hr (by first | decide | omega) (by rfl) (pa_cons (pv 0) (pa_cons (pe_callB (len_seqK K) (by rfl) M.len PySem.boot_len (pa_cons (pv 3) pa_nil)) pa_nil))) (fun _ _ => rfl)) (pg_tup (by rfl) (pgs_cons (pg_name (i := 4) sc__law_named.nd rfl (.inr rfl)) (pgs_cons (pg_name (i := 5) sc__law_named.nd rfl (.inl rfl)) pgs_nil))))
      (pss_cons (ps_if (PW.pt (pw_and (pt_val (pv 5)) (pw_and1 (PW.pt (pw_or (pt_cmpR op_isN (pe_ix (ix_tupK K) (pv 4) pe_int (fun _ _ => rfl)) pe_non (nomark _)) (pw_or1 (pt_cmpR op_eq (pe_u c__law_next hr (by first | decide | omega) (by rfl) (pa_cons (pv 0) (pa_cons pe_int pa_nil))) pe_int (nomark _)))))))) (pss_one (ps_ret (pe_tup (pa_cons pe_str (pa_cons (pe_ix (ix_tupK K) (pv 4) pe_int (fun _ _ => rfl)) pa_nil))))) pss_nil)
      (pss_one (ps_ret (pe_tup (pa_cons pe_str (pa_cons (pe_ix (ix_tupK K) (pv 4) pe_int (fun _ _ => rfl)) (pa_cons (pe_ix (ix_tupK K) (pv 4) pe_int (fun _ _ => rfl)) pa_nil))))))))))), ?_⟩
  have lys : ys.length = cols.length := by rw [DpAll.len hcs, List.length_map]
  have each : ∀ {i : Nat} {y : V}, ys[i]? = some y → ∃ c', cols[i]? = some c' ∧ Dp K H y c'.d := fun {i y} hy => by
    have hi : i < cols.length := by rw [← lys]; exact (List.getElem?_eq_some_iff.mp hy).1
    have hc := List.getElem?_eq_getElem hi
    obtain ⟨z, hz, hE⟩ := DpAll.get (i := i) (d := (cols[i]).d) hcs (by rw [List.getElem?_map, hc]; rfl)
    obtain rfl : z = y := Option.some.inj (hz.symm.trans hy)
    exact ⟨_, hc, hE⟩
  refine ⟨by show 0 ≤ sizeLine; decide, fun fa nF => ?_⟩
  have sF := same_upd nF (o := .lst [])
  have eF0 : (upd H fa (.lst [])) fa = some (.lst []) := upd_same
  generalize upd H fa (.lst []) = H1 at sF eF0 ⊢
  have nFd : fa ≠ d := by
    obtain ⟨_, ns, pos, rest, seed, h1, _⟩ := dr
    exact (ne_of_none h1 nF).symm
  refine ⟨_, rfl, l, rfl, ⟨_, .of (sF _ _ el)⟩, ?_⟩
  refine for_list (K := K) (a := l) (xs := ys) (fun i σ Hi => Same H Hi ∧ (∃ us, Hi fa = some (.lst us) ∧ (∀ u ∈ us, Fit cols k ys Hi u) ∧ us.length ≤ i) ∧ ∃ z4 z5 z6, σ = [some (.ref d), some (.ref l), some (.str (Str.ofString k.s)), some (.ref fa), z4, z5, z6]) ⟨sF, ⟨[], eF0, (fun u hu => (by cases hu)), Nat.le_refl _⟩, _, _, _, rfl⟩ (fun i σ Hi _ hp => .of (hp.1 _ _ el)) (fun i y σ Hi hy hp => ?_) (fun σ Hn hp => ?_)
  · obtain ⟨si, ⟨us, eF, hus, lus⟩, z4, z5, z6, rfl⟩ := hp
    obtain ⟨c', hc', hE⟩ := each hy
    have hi10 : i < 10 := by
      have := (List.getElem?_eq_some_iff.mp hc').1
      have := ck.len
      omega
    obtain ⟨t0, sv, rfl, ht0, hsv⟩ := dp_col (Dp.ext si _ _ hE)
    have eli := si _ _ el
    refine ⟨_, rfl, l, rfl, ⟨_, .of eli⟩, fun D nD => ?_⟩
    refine lc_list (K := K) (a := l) (xs := ys) (fun j Hj => Same Hi Hj ∧ ∃ ws, Hj D = some (.lst ws) ∧ ws.length = ((cols.take j).filter fun o => decide (o.nm = c'.nm)).length) ⟨same_upd nD, [], upd_same, rfl⟩ (fun j Hj _ hp => .of (hp.1 _ _ eli)) (fun j x Hj hx hp => ?_) (fun HE hp => ?_)
    · obtain ⟨sj, ws, eD, lws⟩ := hp
      obtain ⟨cj, hcj, hEj⟩ := each hx
      obtain ⟨tj, svj, rfl, htj, _⟩ := dp_col (Dp.ext (si.trans sj) _ _ hEj)
      refine ⟨rfl, _, rfl, tj, _, _, .str cj.nm, rfl, rfl, htj, rfl, _, rfl, t0, _, _, .str c'.nm, rfl, rfl, SqT.ext sj ht0, rfl, rfl, _, rfl, ?_⟩
      rw [str_dec]
      have hadd : ((cols.take (j + 1)).filter fun o => decide (o.nm = c'.nm)) = ((cols.take j).filter fun o => decide (o.nm = c'.nm)) ++ if decide (cj.nm = c'.nm) = true then [cj] else [] := by
        rw [List.take_add_one, hcj, List.filter_append]
        congr 1
        show List.filter _ [cj] = _
        rw [List.filter_cons]
        rfl
      rw [hadd, List.length_append]
      cases hd : decide (cj.nm = c'.nm) with
      | true =>
        refine iteT ⟨_, rfl, ws, eD, ?_, fun b o hb => ?_, _, upd_same, by rw [List.length_append, lws]; rfl⟩
        · have := List.length_filter_le (fun o : Col => decide (o.nm = c'.nm)) (cols.take j)
          rw [List.length_take] at this
          have := ck.len
          exact Nat.lt_of_le_of_lt (m := 10) (by omega) (by decide)
        · rw [upd_ne (ne_of_none hb nD)]
          exact sj _ _ hb
      | false => exact iteF ⟨sj, ws, eD, lws⟩
    obtain ⟨sE, ws, eD, lws⟩ := hp
    rw [lys, List.take_of_length_le (Nat.le_refl _)] at lws
    refine ⟨D, ws, rfl, .inl (.of eD), rfl, ?_⟩
    have ealone : decide (V.int ((ws.length : Nat) : Int) = V.int 1) = aloneB cols c' := by
      unfold aloneB
      rw [lws, Bool.eq_iff_iff, decide_eq_true_iff, decide_eq_true_iff]
      exact ⟨fun h => by have := V.int.inj h; omega, fun h => by rw [h]; rfl⟩
    rw [ealone]
    obtain ⟨k', hk'⟩ := ck.kd c' (List.mem_of_getElem? hc')
    rw [hk'] at ht0
    have ht0E := SqT.ext sE ht0
    have skip : Same H HE ∧ (∃ us, HE fa = some (.lst us) ∧ (∀ u ∈ us, Fit cols k ys HE u) ∧ us.length ≤ i + 1) := ⟨si.trans sE, us, sE _ _ eF, fun u hu => by
      obtain ⟨t, j, yj, c2, h1, h2, h3⟩ := hus u hu
      exact ⟨t, j, yj, c2, h1, sE _ _ h2, h3⟩, by omega⟩
    have app : k' = k → (aloneB cols c' = true ∨ c'.src ≠ none) → ∀ t Ht, HE t = none → Ht = upd HE t (.tup [.ref t0, .bl (aloneB cols c')]) → Same H (upd Ht fa (.lst (us ++ [.ref t]))) ∧ (∃ us', (upd Ht fa (.lst (us ++ [.ref t]))) fa = some (.lst us') ∧ (∀ u ∈ us', Fit cols k ys (upd Ht fa (.lst (us ++ [.ref t]))) u) ∧ us'.length ≤ i + 1) := fun ek hor t Ht nt eHt => by
      have eFE := sE _ _ eF
      have st : Same HE Ht := by rw [eHt]; exact same_upd nt
      have et : Ht t = some (.tup [.ref t0, .bl (aloneB cols c')]) := by rw [eHt]; exact upd_same
      refine ⟨fun b o hb => ?_, us ++ [.ref t], upd_same, fun u hu => ?_, by rw [List.length_append]; show us.length + 1 ≤ i + 1; omega⟩
      · rw [upd_ne (ne_of_none hb nF)]
        exact st _ _ (sE _ _ (si _ _ hb))
      · rcases List.mem_append.mp hu with hu | hu
        · obtain ⟨t', j, yj, c2, h1, h2, h3⟩ := hus u hu
          refine ⟨t', j, yj, c2, h1, ?_, h3⟩
          rw [upd_ne (ne_of (st _ _ (sE _ _ h2)) (st _ _ eFE) (fun z => nomatch z))]
          exact st _ _ (sE _ _ h2)
        · rw [List.mem_singleton.mp hu]
          refine ⟨t, i, .ref t0, c', rfl, ?_, hy, hc', by rw [hk', ek], hor⟩
          rw [upd_ne (ne_of et (st _ _ eFE) (fun z => nomatch z))]
          exact et
    refine ⟨_, rfl, t0, _, _, .str (Str.ofString k'.s), rfl, rfl, ht0E, rfl, _, rfl, rfl, _, rfl, ?_⟩
    rw [kdS_dec]
    by_cases hkk : k' = k
    · rw [decide_eq_true hkk]
      refine iteT ⟨_, rfl, _, rfl, ?_⟩
      have eFE := sE _ _ eF
      cases hal : aloneB cols c' with
      | true =>
        rw [hal] at app
        refine iteT (iteT ⟨_, rfl, .inl ⟨rfl, _, .inl (.inl eFE)⟩, _, rfl, _, rfl, by show 2 ≤ sizeLine; decide, fun t nt => ?_⟩)
        obtain ⟨a1, a2⟩ := app hkk (.inl rfl) t _ nt rfl
        refine ⟨fa, us, _, rfl, rfl, same_upd nt _ _ eFE, Nat.lt_of_le_of_lt (m := 10) (by omega) (by decide), a1, a2, _, _, _, rfl⟩
      | false =>
        rw [hal] at app
        refine iteF ⟨_, rfl, t0, _, _, sv, rfl, rfl, ht0E, rfl, rfl, _, rfl, ?_⟩
        cases hsrc : c'.src with
        | none =>
          rw [hsrc] at hsv
          cases hsv
          exact iteF ⟨skip.1, skip.2, _, _, _, rfl⟩
        | some x =>
          rw [hsrc] at hsv
          cases hsv
          refine iteT ⟨_, rfl, .inl ⟨rfl, _, .inl (.inl eFE)⟩, _, rfl, _, rfl, by show 2 ≤ sizeLine; decide, fun t nt => ?_⟩
          obtain ⟨a1, a2⟩ := app hkk (.inr (by rw [hsrc]; exact fun z => nomatch z)) t _ nt rfl
          refine ⟨fa, us, _, rfl, rfl, same_upd nt _ _ eFE, Nat.lt_of_le_of_lt (m := 10) (by omega) (by decide), a1, a2, _, _, _, rfl⟩
    · rw [decide_eq_false hkk]
      exact iteF (iteF ⟨skip.1, skip.2, _, _, _, rfl⟩)
  · obtain ⟨sn, ⟨us, eF, hus, lus⟩, z4, z5, z6, rfl⟩ := hp
    have lus10 : us.length ≤ 10 := by
      have := ck.len
      omega
    refine ⟨_, rfl, _, .inl ⟨_, .of eF, rfl⟩, ?_⟩
    have drn := dr.ext sn
    cases hu0 : us with
    | nil =>
      refine iteT ⟨by show 1 ≤ sizeLine; decide, fun p np => ?_⟩
      have s1 := same_upd np (o := .tup [.str "null"])
      exact q _ (.ref p) .null (Fd.of (sn.trans s1)) (drn.ext s1) (mk_dp np (.cons (.str _) .nil)) (wk_null k) rfl
    | cons u0 ur =>
      have hpos : 0 < us.length := by rw [hu0]; exact Nat.succ_pos _
      refine iteF ?_
      refine ⟨_, rfl, _, rfl, _, rfl, fa, _, rfl, .inl (.of eF), d, c, ((us.length : Nat) : Int), rfl, drn, by omega, by omega, fun H3 r f3 _ dr3 r0 r1 => ?_⟩
      obtain ⟨r, rfl⟩ := Int.eq_ofNat_of_zero_le r0
      have hr' : r < us.length := by omega
      have hu := List.getElem?_eq_getElem hr'
      obtain ⟨t, j, yj, c', e1, et, hyj, hcj, hkj, hor⟩ := hus _ (List.getElem_mem hr')
      rw [e1] at hu
      have et3 := f3 _ _ (by
        obtain ⟨_, ns, pos, rest, seed, h1, _⟩ := drn
        exact ne_of et h1 (fun z => nomatch z)) et
      obtain ⟨c2, hc2, hE⟩ := each hyj
      obtain rfl : c2 = c' := Option.some.inj (hc2.symm.trans hcj)
      have f03 := (Fd.of sn).trans f3
      obtain ⟨t0, sv, rfl, ht0, hsv⟩ := dp_col (Dp.fd dr.lst f03 _ _ (col_only c2) hE)
      refine ⟨fa, _, _, .ref t, rfl, rfl, .of (f3 _ _ nFd eF), atI_nat hu, t, _, rfl, .of et3, rfl, _, _, rfl, _, _, rfl, rfl, ?_⟩
      cases hal : aloneB cols c2 with
      | false =>
        refine ⟨_, rfl, _, rfl, iteF (iteF ?_)⟩
        cases hsrc : c2.src with
        | none =>
          rw [hal] at hor
          rcases hor with h | h
          · cases h
          · exact absurd hsrc h
        | some x =>
          rw [hsrc] at hsv
          cases hsv
          refine ⟨_, rfl, t0, _, _, .str x, rfl, rfl, ht0, rfl, _, rfl, t0, _, _, .str c2.nm, rfl, rfl, ht0, rfl, by show 3 ≤ sizeLine; decide, fun p np => ?_⟩
          have s1 := same_upd np (o := .tup [.str "field", .str x, .str c2.nm])
          exact q _ (.ref p) (.field x c2.nm) (f03.trans (Fd.of s1)) (dr3.ext s1) (mk_dp np (.cons (.str _) (.cons (.str _) (.cons (.str _) .nil)))) (wk_src ck hcj hkj hsrc) rfl
      | true =>
        refine ⟨_, rfl, _, rfl, iteT ?_⟩
        refine ⟨_, rfl, t0, _, _, sv, rfl, rfl, ht0, rfl, rfl, _, rfl, ?_⟩
        have nm : ∀ {H4 : Hp}, Fd d H3 H4 → Dr H4 d c → ∀ p, H4 p = none → Q (.ref p) (upd H4 p (.tup [.str "name", .str c2.nm])) := fun {H4} f4 dr4 p np => by
          have s1 := same_upd np (o := .tup [.str "name", .str c2.nm])
          exact q _ (.ref p) (.name c2.nm) ((f03.trans f4).trans (Fd.of s1)) (dr4.ext s1) (mk_dp np (.cons (.str _) (.cons (.str _) .nil))) (wk_alone ck hcj hkj hal) rfl
        cases hsrc : c2.src with
        | none =>
          rw [hsrc] at hsv
          cases hsv
          exact iteT (iteT ⟨_, rfl, t0, _, _, .str c2.nm, rfl, rfl, ht0, rfl, by show 2 ≤ sizeLine; decide, nm (Fd.refl _ _) dr3⟩)
        | some x =>
          rw [hsrc] at hsv
          cases hsv
          refine iteF ⟨_, rfl, d, c, 2, rfl, dr3, by decide, by decide, fun H4 k4 f4 _ dr4 _ _ => ⟨rfl, _, rfl, ?_⟩⟩
          have ht4 : SqT K H4 t0 [.str x, .str c2.nm, kdV c2.kd] := by
            obtain ⟨t0', sv', e0, h0, hs0⟩ := dp_col (Dp.fd dr3.lst f4 _ _ (col_only c2) (Dp.fd dr.lst f03 _ _ (col_only c2) hE))
            cases e0
            rw [hsrc] at hs0
            cases hs0
            exact h0
          refine ite2 (fun _ => ?_) (fun _ => ?_)
          · exact ⟨_, rfl, t0, _, _, .str c2.nm, rfl, rfl, ht4, rfl, by show 2 ≤ sizeLine; decide, nm f4 dr4⟩
          · refine ⟨_, rfl, t0, _, _, .str x, rfl, rfl, ht4, rfl, _, rfl, t0, _, _, .str c2.nm, rfl, rfl, ht4, rfl, by show 3 ≤ sizeLine; decide, fun p np => ?_⟩
            have s1 := same_upd np (o := .tup [.str "field", .str x, .str c2.nm])
            exact q _ (.ref p) (.field x c2.nm) ((f03.trans f4).trans (Fd.of s1)) (dr4.ext s1) (mk_dp np (.cons (.str _) (.cons (.str _) (.cons (.str _) .nil)))) (wk_src ck hcj hkj hsrc) rfl
def sp_const (K : PySem.W.Frag) (cols : List Col) : Sp := fun vs H Q _ => ∃ (d c : Addr) (k : Kd), vs = [.ref d, .str (Str.ofString k.s)] ∧ Dr H d c ∧ ∀ H' v e, Fd d H H' → Dr H' d c → Dp K H' v e.d → Wk cols k e → e.ht = 0 → Q v H'
def sp_typed (K : PySem.W.Frag) (cols : List Col) (n : Nat) : Sp := fun vs H Q _ => ∃ (d c l : Addr) (ys : List V) (k : Kd) (dp : Nat), vs = [.ref d, .ref l, .str (Str.ofString k.s), .int ((dp : Nat) : Int)] ∧ Dr H d c ∧ H l = some (.lst ys) ∧ l ≠ d ∧ DpAll K H ys (cols.map Col.d) ∧ dp < n ∧ ∀ H' v e, Fd d H H' → Dr H' d c → Dp K H' v e.d → Wk cols k e → e.ht ≤ dp → Q v H'
def sp_tyT (K : PySem.W.Frag) (cols : List Col) (n : Nat) : Sp := fun vs H Q _ => ∃ (d c l : Addr) (ys : List V) (fo : Int) (dp : Nat), vs = [.ref d, .ref l, .int fo, .int ((dp : Nat) : Int)] ∧ Dr H d c ∧ H l = some (.lst ys) ∧ l ≠ d ∧ DpAll K H ys (cols.map Col.d) ∧ dp < n ∧ ∀ H' v e, Fd d H H' → Dr H' d c → Dp K H' v e.d → Wk cols .truth e → e.ht ≤ dp + 1 → Q v H'
theorem vint_ne {i j : Int} (h : ¬ decide (V.int i = V.int j) = true) : i ≠ j := fun e => h (decide_eq_true (by rw [e]))
theorem pickK {ks : List Kd} {k : Nat} (h : k < ks.length) : ∃ x : Kd, (ks.map fun k => V.str (Str.ofString k.s))[k]? = some (.str (Str.ofString x.s)) := ⟨ks[k], by rw [List.getElem?_map, List.getElem?_eq_getElem h]; rfl⟩
theorem dr_ne {H H1 : Hp} {d c l : Addr} (dr : Dr H d c) (s : Same H H1) (n : H1 l = none) : l ≠ d := by
  obtain ⟨_, ns, pos, rest, seed, h1, _⟩ := dr
  exact (ne_of_none (s _ _ h1) n).symm
theorem ok_const {cols : List Col} {f : Addr} {fd : FuncData} (F : Fun K "_law_constant" "_law_constant" s__law_constant f fd) (M : Mg mg) (c__law_next : Cl P w K mg base 1 "_law_next" sp_next) : FnOk P w K mg base CX0 2 f fd ["draw", "kind"] (sp_const K cols) := by
  refine F.ok sc__law_constant (fun vs H Q E h => ?_) (fun cdv A outer s H vs Q E hr h => ?_)
  · obtain ⟨d, c, k, rfl, _⟩ := h
    rfl
  obtain ⟨d, c, k, rfl, dr, q⟩ := h
  refine ⟨_, (pss_cons (ps_if (pt_cmpR op_eq (pv 1) pe_str (nomark _)) (pss_one (ps_ret (pe_tup (pa_cons pe_str (pa_cons (pe_u c__law_next hr (by first | decide | omega) (by rfl) (pa_cons (pv 0) (pa_cons pe_int pa_nil))) pa_nil))))) pss_nil)
      (pss_cons (ps_if (pt_cmpR op_eq (pv 1) pe_str (nomark _)) (pss_one (ps_ret (pe_tup (pa_cons pe_str (pa_cons (pe_ix (ix_listK K) (pe_lst (pa_cons pe_str (pa_cons pe_str (pa_cons pe_str (pa_cons pe_str (pa_cons pe_str pa_nil)))))) (pe_u c__law_next hr (by first | decide | omega) (by rfl) (pa_cons (pv 0) (pa_cons pe_int pa_nil))) (fun _ _ => rfl)) pa_nil))))) pss_nil)
      (pss_one (ps_ret (pe_tup (pa_cons pe_str (pa_cons (pe_u c__law_next hr (by first | decide | omega) (by rfl) (pa_cons (pv 0) (pa_cons pe_int pa_nil))) pa_nil))))))), ?_⟩
  refine ⟨_, rfl, rfl, _, rfl, ?_⟩
  rw [show decide (V.str (Str.ofString k.s) = V.str (Str.ofString "int")) = decide (k = .int) from kdS_dec k .int]
  by_cases h1 : k = .int
  · subst h1
    refine iteT ⟨_, rfl, d, c, 5, rfl, dr, by decide, by decide, fun H1 r f1 _ dr1 r0 r1 => ⟨by show 2 ≤ sizeLine; decide, fun p np => ?_⟩⟩
    have s1 := same_upd np (o := .tup [.str "number", .int r])
    exact q _ (.ref p) (.num r) (f1.trans (Fd.of s1)) (dr1.ext s1) (mk_dp np (.cons (.str _) (.cons (.int _) .nil))) (wk_num r ⟨by omega, by omega⟩) rfl
  rw [decide_eq_false h1]
  refine iteF ⟨_, rfl, rfl, _, rfl, ?_⟩
  rw [show decide (V.str (Str.ofString k.s) = V.str (Str.ofString "text")) = decide (k = .text) from kdS_dec k .text]
  by_cases h2 : k = .text
  · subst h2
    refine iteT ⟨by show 5 ≤ sizeLine; decide, fun l nl => ?_⟩
    have s0 := same_upd nl (o := .lst (([Str.ofString "", Str.ofString "a", Str.ofString "b", Str.ofString "ab", Str.ofString "ba"]).map V.str))
    have el : (upd H l (.lst (([Str.ofString "", Str.ofString "a", Str.ofString "b", Str.ofString "ab", Str.ofString "ba"]).map V.str))) l = some (.lst (([Str.ofString "", Str.ofString "a", Str.ofString "b", Str.ofString "ab", Str.ofString "ba"]).map V.str)) := upd_same
    have nld := dr_ne dr (fun _ _ h => h) nl
    show tCall sp_next [] E0 _ _ (upd H l (.lst (([Str.ofString "", Str.ofString "a", Str.ofString "b", Str.ofString "ab", Str.ofString "ba"]).map V.str))) _
    generalize upd H l (.lst (([Str.ofString "", Str.ofString "a", Str.ofString "b", Str.ofString "ab", Str.ofString "ba"]).map V.str)) = H1 at s0 el ⊢
    have dr1 := dr.ext s0
    refine ⟨_, rfl, d, c, 5, rfl, dr1, by decide, by decide, fun H2 r f2 _ dr2 r0 r1 => ?_⟩
    obtain ⟨r, rfl⟩ := Int.eq_ofNat_of_zero_le r0
    have hr5 : r < ([Str.ofString "", Str.ofString "a", Str.ofString "b", Str.ofString "ab", Str.ofString "ba"]).length := by show r < 5; omega
    obtain ⟨x, hx⟩ : ∃ x, ([Str.ofString "", Str.ofString "a", Str.ofString "b", Str.ofString "ab", Str.ofString "ba"])[r]? = some x := ⟨_, List.getElem?_eq_getElem hr5⟩
    refine ⟨l, _, _, .str x, rfl, rfl, .of (f2 _ _ nld el), atI_nat (by rw [List.getElem?_map, hx]; rfl), by show 2 ≤ sizeLine; decide, fun p np => ?_⟩
    have s1 := same_upd np (o := .tup [.str "text", .str x])
    exact q _ (.ref p) (.text x) (((Fd.of s0).trans f2).trans (Fd.of s1)) (dr2.ext s1) (mk_dp np (.cons (.str _) (.cons (.str _) .nil))) (wk_text x (by
      have hm := List.mem_of_getElem? hx
      simp only [List.mem_cons, List.not_mem_nil, or_false] at hm
      rcases hm with rfl | rfl | rfl | rfl | rfl <;> exact ⟨by decide +kernel, by decide +kernel⟩)) rfl
  rw [decide_eq_false h2]
  obtain rfl : k = .truth := by cases k <;> first | rfl | exact absurd rfl h1 | exact absurd rfl h2
  refine iteF ⟨_, rfl, d, c, 2, rfl, dr, by decide, by decide, fun H1 r f1 _ dr1 r0 r1 => ⟨by show 2 ≤ sizeLine; decide, fun p np => ?_⟩⟩
  have s1 := same_upd np (o := .tup [.str "truth", .int r])
  exact q _ (.ref p) (.truth r) (f1.trans (Fd.of s1)) (dr1.ext s1) (mk_dp np (.cons (.str _) (.cons (.int _) .nil))) (wk_truth r (by omega)) rfl
def tlT : List Stmt → List Stmt
  | _ :: .If _ b _ _ :: _ => b
  | _ => []
set_option maxHeartbeats 1000000 in
theorem ok_typed {cols : List Col} (n : Nat) {f : Addr} {fd : FuncData} (F : Fun K "_law_typed" "_law_typed" s__law_typed f fd) (M : Mg mg) (c__law_next : Cl P w K mg base 1 "_law_next" sp_next) (c__law_named : Cl P w K mg base 2 "_law_named" (sp_named K cols)) (c__law_constant : Cl P w K mg base 2 "_law_constant" (sp_const K cols)) (c__law_typed : Cl P w K mg base (2 * n + 2) "_law_typed" (sp_typed K cols n)) (c__law_typed_truth : Cl P w K mg base (2 * n + 3) "_law_typed_truth" (sp_tyT K cols n)) : FnOk P w K mg base CX0 (2 * n + 4) f fd ["draw", "columns", "kind", "depth"] (sp_typed K cols (n + 1)) := by
  refine F.ok sc__law_typed (fun vs H Q E h => ?_) (fun cdv A outer s H vs Q E hr h => ?_)
  · obtain ⟨d, c, l, ys, k, dp, rfl, _⟩ := h
    rfl
  obtain ⟨d, c, l, ys, k, dp, rfl, dr, el, nld, hcs, hdp, q⟩ := h
  have env : ∀ {Hx : Hp}, Fd d H Hx → Hx l = some (.lst ys) ∧ DpAll K Hx ys (cols.map Col.d) := fun f => ⟨f _ _ nld el, DpAll.fd dr.lst f _ _ (cols_only cols) hcs⟩
  have fin : ∀ {H3 : Hp} {p : Addr} {xs : List V} {ds : List PyData} {e : Et}, Fd d H H3 → Dr H3 d c → H3 p = none → DpAll K H3 xs ds → e.d = .tuple ds → Wk cols k e → e.ht ≤ dp → Q (.ref p) (upd H3 p (.tup xs)) := fun {H3 p xs ds e} f3 dr3 np hd he hw hh => by
    have s1 := same_upd np (o := .tup xs)
    exact q _ (.ref p) e (f3.trans (Fd.of s1)) (dr3.ext s1) (by rw [he]; exact mk_dp np hd) hw hh
  obtain ⟨tL, hL, leaf⟩ : ∃ t, PSs (cxOf CX0 P w K mg base N__law_typed "_law_typed" (defScope s__law_typed) f cdv A outer s H E).nox (tlT (defBody s__law_typed)) t ∧ ∀ (D : Ends) (H1 : Hp) (fo : Int) (z5 z6 : Option V), Fd d H H1 → Dr H1 d c → D.rt = Q → t D [some (.ref d), some (.ref l), some (.str (Str.ofString k.s)), some (.int ((dp : Nat) : Int)), some (.int fo), z5, z6] H1 := by
    refine ⟨_, (pss_cons (ps_if (PW.pt (pw_and (pt_cmpR op_eq (pv 4) pe_int (nomark _)) (pw_and1 (pt_cmpR op_eq (pe_u c__law_next hr (by first | decide | omega) (by rfl) (pa_cons (pv 0) (pa_cons pe_int pa_nil))) pe_int (nomark _))))) (pss_one (ps_ret (pe_tup (pa_cons pe_str pa_nil)))) pss_nil)
      (pss_one (ps_ret (pe_ifExp (pt_cmpR op_eq (pv 4) pe_int (nomark _)) (pe_u c__law_constant hr (by first | decide | omega) (by rfl) (pa_cons (pv 0) (pa_cons (pv 2) pa_nil))) (pe_u c__law_named hr (by first | decide | omega) (by rfl) (pa_cons (pv 0) (pa_cons (pv 1) (pa_cons (pv 2) pa_nil)))))))), fun D H1 fo z5 z6 f1 dr1 hD => ?_⟩
    have tl : ∀ {H2 : Hp}, Fd d H H2 → Dr H2 d c → (tRet (tIf (tTest (tOp rEq (tVar 4) (tC (V.int 1)))) (tCall (sp_const K cols) [] E0 (tCons (tVar 0) (tCons (tVar 2) tNil))) (tCall (sp_named K cols) [] E0 (tCons (tVar 0) (tCons (tVar 1) (tCons (tVar 2) tNil)))))) D [some (.ref d), some (.ref l), some (.str (Str.ofString k.s)), some (.int ((dp : Nat) : Int)), some (.int fo), z5, z6] H2 := fun {H2} f2 dr2 => by
      refine ⟨_, rfl, rfl, _, rfl, ite2 (fun _ => ?_) (fun _ => ?_)⟩
      · refine ⟨_, rfl, _, rfl, d, c, k, rfl, dr2, fun H' v e f3 dr3 hd hw h0 => ?_⟩
        rw [hD]
        exact q H' v e (f2.trans f3) dr3 hd hw (by omega)
      · obtain ⟨e1, e2⟩ := env f2
        refine ⟨_, rfl, _, rfl, _, rfl, d, c, l, ys, k, rfl, dr2, e1, nld, e2, fun H' v e f3 dr3 hd hw h0 => ?_⟩
        rw [hD]
        exact q H' v e (f2.trans f3) dr3 hd hw (by omega)
    refine ⟨_, rfl, rfl, _, rfl, ite2 (fun _ => ?_) (fun _ => ?_)⟩
    · refine ⟨_, rfl, d, c, 3, rfl, dr1, by decide, by decide, fun H2 r f2 _ dr2 _ _ => ⟨rfl, _, rfl, ite2 (fun _ => ?_) (fun _ => ?_)⟩⟩
      · refine ⟨by show 1 ≤ sizeLine; decide, fun p np => ?_⟩
        rw [hD]
        exact fin (e := .null) (f1.trans f2) dr2 np (.cons (.str _) .nil) rfl (wk_null k) (Nat.zero_le _)
      · exact tl (f1.trans f2) dr2
    · exact iteF (tl f1 dr1)
  refine ⟨_, (pss_cons (ps_set (i := 4) sc__law_typed.nd rfl (.inl rfl) (pe_u c__law_next hr (by first | decide | omega) (by rfl) (pa_cons (pv 0) (pa_cons pe_int pa_nil))))
      (pss_cons (ps_if (PW.pt (pw_or (pt_cmpR op_eq (pv 3) pe_int (nomark _)) (pw_or1 (pt_cmpR op_lt (pv 4) pe_int (nomark _))))) hL pss_nil)
      (pss_cons (ps_if (pt_cmpR op_eq (pv 4) pe_int (nomark _)) (pss_cons (ps_set (i := 5) sc__law_typed.nd rfl (.inl rfl) (pe_u c__law_typed hr (by first | decide | omega) (by rfl) (pa_cons (pv 0) (pa_cons (pv 1) (pa_cons (pv 2) (pa_cons (pe_op op_sub (pv 3) pe_int) pa_nil))))))
      (pss_one (ps_ret (pe_tup (pa_cons pe_str (pa_cons (pv 5) (pa_cons (pe_u c__law_typed hr (by first | decide | omega) (by rfl) (pa_cons (pv 0) (pa_cons (pv 1) (pa_cons (pv 2) (pa_cons (pe_op op_sub (pv 3) pe_int) pa_nil))))) pa_nil))))))) pss_nil)
      (pss_cons (ps_if (pt_cmpR op_eq (pv 4) pe_int (nomark _)) (pss_cons (ps_set (i := 6) sc__law_typed.nd rfl (.inl rfl) (pe_u c__law_typed hr (by first | decide | omega) (by rfl) (pa_cons (pv 0) (pa_cons (pv 1) (pa_cons pe_str (pa_cons (pe_op op_sub (pv 3) pe_int) pa_nil))))))
      (pss_cons (ps_set (i := 5) sc__law_typed.nd rfl (.inl rfl) (pe_u c__law_typed hr (by first | decide | omega) (by rfl) (pa_cons (pv 0) (pa_cons (pv 1) (pa_cons (pv 2) (pa_cons (pe_op op_sub (pv 3) pe_int) pa_nil))))))
      (pss_one (ps_ret (pe_tup (pa_cons pe_str (pa_cons (pv 6) (pa_cons (pv 5) (pa_cons (pe_u c__law_typed hr (by first | decide | omega) (by rfl) (pa_cons (pv 0) (pa_cons (pv 1) (pa_cons (pv 2) (pa_cons (pe_op op_sub (pv 3) pe_int) pa_nil))))) pa_nil))))))))) pss_nil)
      (pss_cons (ps_if (pt_cmpR op_eq (pv 2) pe_str (nomark _)) (pss_one (ps_ret (pe_u c__law_named hr (by first | decide | omega) (by rfl) (pa_cons (pv 0) (pa_cons (pv 1) (pa_cons (pv 2) pa_nil)))))) pss_nil)
      (pss_cons (ps_if (pt_cmpR op_eq (pv 2) pe_str (nomark _)) (pss_cons (ps_if (pt_cmpR op_eq (pv 4) pe_int (nomark _)) (pss_one (ps_ret (pe_tup (pa_cons pe_str (pa_cons (pe_u c__law_typed hr (by first | decide | omega) (by rfl) (pa_cons (pv 0) (pa_cons (pv 1) (pa_cons pe_str (pa_cons (pe_op op_sub (pv 3) pe_int) pa_nil))))) pa_nil))))) pss_nil)
      (pss_cons (ps_if (pt_cmpR op_eq (pv 4) pe_int (nomark _)) (pss_one (ps_ret (pe_tup (pa_cons pe_str (pa_cons (pe_u c__law_typed hr (by first | decide | omega) (by rfl) (pa_cons (pv 0) (pa_cons (pv 1) (pa_cons (pv 2) (pa_cons (pe_op op_sub (pv 3) pe_int) pa_nil))))) pa_nil))))) pss_nil)
      (pss_cons (ps_set (i := 5) sc__law_typed.nd rfl (.inl rfl) (pe_u c__law_typed hr (by first | decide | omega) (by rfl) (pa_cons (pv 0) (pa_cons (pv 1) (pa_cons (pv 2) (pa_cons (pe_op op_sub (pv 3) pe_int) pa_nil))))))
      (pss_one (ps_ret (pe_tup (pa_cons (pe_ix (ix_listK K) (pe_lst (pa_cons pe_str (pa_cons pe_str (pa_cons pe_str (pa_cons pe_str (pa_cons pe_str pa_nil)))))) (pe_op op_sub (pv 4) pe_int) (fun _ _ => rfl)) (pa_cons (pv 5) (pa_cons (pe_u c__law_typed hr (by first | decide | omega) (by rfl) (pa_cons (pv 0) (pa_cons (pv 1) (pa_cons (pv 2) (pa_cons (pe_op op_sub (pv 3) pe_int) pa_nil))))) pa_nil))))))))) pss_nil)
      (pss_one (ps_ret (pe_u c__law_typed_truth hr (by first | decide | omega) (by rfl) (pa_cons (pv 0) (pa_cons (pv 1) (pa_cons (pv 4) (pa_cons (pe_op op_sub (pv 3) pe_int) pa_nil))))))))))))), ?_⟩
  refine ⟨_, rfl, d, c, 12, rfl, dr, by decide, by decide, fun H1 fo f1 _ dr1 r0 r1 => ?_⟩
  refine ⟨_, rfl, rfl, _, rfl, ?_⟩
  by_cases hd0 : dp = 0
  · subst hd0
    exact iteT (iteT (leaf _ _ _ _ _ f1 dr1 rfl))
  rw [decide_eq_false (show ¬ V.int ((dp : Nat) : Int) = V.int 0 from fun z => hd0 (by have := V.int.inj z; omega))]
  refine iteF ⟨_, rfl, _, _, rfl, rfl, _, rfl, ite2 (fun _ => ?_) (fun h3 => ?_)⟩
  · exact leaf _ _ _ _ _ f1 dr1 rfl
  have h3 : ¬ fo < 3 := fun z => h3 (decide_eq_true z)
  have ed : ((dp : Nat) : Int) - 1 = ((dp - 1 : Nat) : Int) := by omega
  have arg : ∀ k' : Kd, [V.ref d, .ref l, .str (Str.ofString k'.s), V.int (((dp : Nat) : Int) - 1)] = [V.ref d, .ref l, .str (Str.ofString k'.s), .int ((dp - 1 : Nat) : Int)] := fun k' => by rw [ed]
  have hdn : dp - 1 < n := by omega
  obtain ⟨el1, hcs1⟩ := env f1
  refine ⟨_, rfl, rfl, _, rfl, ite2 (fun _ => ?_) (fun h3' => ?_)⟩
  · refine ⟨_, rfl, _, rfl, _, rfl, _, rfl, _, _, rfl, rfl, d, c, l, ys, k, dp - 1, arg k, dr1, el1, nld, hcs1, hdn, fun H2 v1 e1 f2 dr2 d1 w1 h1 => ?_⟩
    obtain ⟨el2, hcs2⟩ := env (f1.trans f2)
    refine ⟨_, rfl, _, rfl, _, rfl, _, rfl, _, rfl, _, _, rfl, rfl, d, c, l, ys, k, dp - 1, arg k, dr2, el2, nld, hcs2, hdn, fun H3 v2 e2 f3 dr3 d2 w2 h2 => ⟨by show 3 ≤ sizeLine; decide, fun p np => ?_⟩⟩
    exact fin (e := .op2 .coalesce e1 e2) ((f1.trans f2).trans f3) dr3 np (.cons (.str _) (.cons (dpe_fd dr2 f3 d1) (.cons d2 .nil))) rfl (wk_coalesce w1 w2) (by show max e1.ht e2.ht + 1 ≤ dp; omega)
  refine ⟨_, rfl, rfl, _, rfl, ite2 (fun _ => ?_) (fun h4 => ?_)⟩
  · refine ⟨_, rfl, _, rfl, _, rfl, _, _, rfl, rfl, d, c, l, ys, .truth, dp - 1, arg .truth, dr1, el1, nld, hcs1, hdn, fun H2 v0 e0 f2 dr2 d0 w0 h0 => ?_⟩
    obtain ⟨el2, hcs2⟩ := env (f1.trans f2)
    refine ⟨_, rfl, _, rfl, _, rfl, _, rfl, _, _, rfl, rfl, d, c, l, ys, k, dp - 1, arg k, dr2, el2, nld, hcs2, hdn, fun H3 v1 e1 f3 dr3 d1 w1 h1 => ?_⟩
    obtain ⟨el3, hcs3⟩ := env ((f1.trans f2).trans f3)
    refine ⟨_, rfl, _, rfl, _, rfl, _, rfl, _, rfl, _, rfl, _, _, rfl, rfl, d, c, l, ys, k, dp - 1, arg k, dr3, el3, nld, hcs3, hdn, fun H4 v2 e2 f4 dr4 d2 w2 h2 => ⟨by show 4 ≤ sizeLine; decide, fun p np => ?_⟩⟩
    exact fin (e := .op3 .ite e0 e1 e2) (((f1.trans f2).trans f3).trans f4) dr4 np (.cons (.str _) (.cons (dpe_fd dr2 (f3.trans f4) d0) (.cons (dpe_fd dr3 f4 d1) (.cons d2 .nil)))) rfl (wk_if w0 w1 w2) (by show max e0.ht (max e1.ht e2.ht) + 1 ≤ dp; omega)
  refine ⟨_, rfl, rfl, _, rfl, ?_⟩
  rw [show decide (V.str (Str.ofString k.s) = V.str (Str.ofString "text")) = decide (k = .text) from kdS_dec k .text]
  by_cases hkt : k = .text
  · rw [decide_eq_true hkt]
    exact iteT ⟨_, rfl, _, rfl, _, rfl, d, c, l, ys, k, rfl, dr1, el1, nld, hcs1, fun H' v e f2 dr2 hd hw h0 => q H' v e (f1.trans f2) dr2 hd hw (by omega)⟩
  rw [decide_eq_false hkt]
  refine iteF ⟨_, rfl, rfl, _, rfl, ?_⟩
  rw [show decide (V.str (Str.ofString k.s) = V.str (Str.ofString "int")) = decide (k = .int) from kdS_dec k .int]
  by_cases hki : k = .int
  · rw [decide_eq_true hki]
    subst hki
    refine iteT ⟨_, rfl, rfl, _, rfl, ite2 (fun _ => ?_) (fun h5 => ?_)⟩
    · refine ⟨_, rfl, _, rfl, _, rfl, _, _, rfl, rfl, d, c, l, ys, .text, dp - 1, arg .text, dr1, el1, nld, hcs1, hdn, fun H2 v1 e1 f2 dr2 d1 w1 h1 => ⟨by show 2 ≤ sizeLine; decide, fun p np => ?_⟩⟩
      exact fin (e := .op1 .length e1) (f1.trans f2) dr2 np (.cons (.str _) (.cons d1 .nil)) rfl (wk1 (x := .text) rfl rfl w1) (by show e1.ht + 1 ≤ dp; omega)
    refine ⟨_, rfl, rfl, _, rfl, ite2 (fun _ => ?_) (fun h6 => ?_)⟩
    · refine ⟨_, rfl, _, rfl, _, rfl, _, rfl, _, _, rfl, rfl, d, c, l, ys, .int, dp - 1, arg .int, dr1, el1, nld, hcs1, hdn, fun H2 v1 e1 f2 dr2 d1 w1 h1 => ⟨by show 2 ≤ sizeLine; decide, fun p np => ?_⟩⟩
      exact fin (e := .op1 .neg e1) (f1.trans f2) dr2 np (.cons (.str _) (.cons d1 .nil)) rfl (wk1 (x := .int) rfl rfl w1) (by show e1.ht + 1 ≤ dp; omega)
    have g3 := vint_ne h3'
    have g4 := vint_ne h4
    have g5 := vint_ne h5
    have g6 := vint_ne h6
    obtain ⟨z, hz⟩ := Int.eq_ofNat_of_zero_le (show 0 ≤ fo - 7 by omega)
    obtain ⟨o5, ho5, eo5⟩ := pickO (ops := [.add, .sub, .mul, .div, .mod]) (k := z) (by show z < 5; omega)
    have hw5 : o5.want = some (.int, .int) ∧ o5.ar = 2 := by
      simp only [List.mem_cons, List.not_mem_nil, or_false] at ho5
      rcases ho5 with rfl | rfl | rfl | rfl | rfl <;> exact ⟨rfl, rfl⟩
    refine ⟨_, rfl, _, rfl, _, rfl, _, rfl, _, _, rfl, rfl, d, c, l, ys, .int, dp - 1, arg .int, dr1, el1, nld, hcs1, hdn, fun H2 v1 e1 f2 dr2 d1 w1 h1 => ?_⟩
    refine ⟨by show 5 ≤ sizeLine; decide, fun l5 n5 => ?_⟩
    have s5 := same_upd n5 (o := .lst ([Ow.add, .sub, .mul, .div, .mod].map fun o => V.str o.w))
    have el5 : (upd H2 l5 (.lst ([Ow.add, .sub, .mul, .div, .mod].map fun o => V.str o.w))) l5 = some (.lst ([Ow.add, .sub, .mul, .div, .mod].map fun o => V.str o.w)) := upd_same
    have f25 := (f1.trans f2).trans (Fd.of s5)
    obtain ⟨el2, hcs2⟩ := env f25
    refine ⟨_, rfl, _, _, rfl, rfl, l5, _, _, .str o5.w, rfl, rfl, .of el5, (by
      show atI ([Ow.add, .sub, .mul, .div, .mod].map fun o => V.str o.w) (fo - 7) = _
      rw [hz]
      exact atI_nat eo5), ?_⟩
    refine ⟨_, rfl, _, rfl, _, rfl, _, rfl, _, rfl, _, _, rfl, rfl, d, c, l, ys, .int, dp - 1, arg .int, dr2.ext s5, el2, nld, hcs2, hdn, fun H3 v2 e2 f3 dr3 d2 w2 h2 => ⟨by show 3 ≤ sizeLine; decide, fun p np => ?_⟩⟩
    exact fin (e := .op2 o5 e1 e2) (f25.trans f3) dr3 np (.cons (.str _) (.cons (dpe_fd (dr2.ext s5) f3 (Dp.ext s5 _ _ d1)) (.cons d2 .nil))) rfl (wk2 (x := .int) hw5.1 hw5.2 w1 w2) (by show max e1.ht e2.ht + 1 ≤ dp; omega)
  rw [decide_eq_false hki]
  obtain rfl : k = .truth := by cases k <;> first | rfl | exact absurd rfl hki | exact absurd rfl hkt
  exact iteF ⟨_, rfl, _, rfl, _, rfl, _, rfl, _, _, rfl, rfl, d, c, l, ys, fo, dp - 1, (by
    show [V.ref d, V.ref l, V.int fo, V.int (((dp : Nat) : Int) - 1)] = _
    rw [ed]), dr1, el1, nld, hcs1, hdn, fun H' v e f2 dr2 hd hw h0 => q H' v e (f1.trans f2) dr2 hd hw (by omega)⟩
set_option maxHeartbeats 1000000 in
theorem ok_tyT {cols : List Col} (n : Nat) {f : Addr} {fd : FuncData} (F : Fun K "_law_typed_truth" "_law_typed_truth" s__law_typed_truth f fd) (M : Mg mg) (c__law_next : Cl P w K mg base 1 "_law_next" sp_next) (c__law_typed : Cl P w K mg base (2 * n + 2) "_law_typed" (sp_typed K cols n)) : FnOk P w K mg base CX0 (2 * n + 3) f fd ["draw", "columns", "form", "depth"] (sp_tyT K cols n) := by
  refine F.ok sc__law_typed_truth (fun vs H Q E h => ?_) (fun cdv A outer s H vs Q E hr h => ?_)
  · obtain ⟨d, c, l, ys, fo, dp, rfl, _⟩ := h
    rfl
  obtain ⟨d, c, l, ys, fo, dp, rfl, dr, el, nld, hcs, hdp, q⟩ := h
  have env : ∀ {Hx : Hp}, Fd d H Hx → Hx l = some (.lst ys) ∧ DpAll K Hx ys (cols.map Col.d) := fun f => ⟨f _ _ nld el, DpAll.fd dr.lst f _ _ (cols_only cols) hcs⟩
  have fin : ∀ {H3 : Hp} {p : Addr} {xs : List V} {ds : List PyData} {e : Et}, Fd d H H3 → Dr H3 d c → H3 p = none → DpAll K H3 xs ds → e.d = .tuple ds → Wk cols .truth e → e.ht ≤ dp + 1 → Q (.ref p) (upd H3 p (.tup xs)) := fun {H3 p xs ds e} f3 dr3 np hd he hw hh => by
    have s1 := same_upd np (o := .tup xs)
    exact q _ (.ref p) e (f3.trans (Fd.of s1)) (dr3.ext s1) (by rw [he]; exact mk_dp np hd) hw hh
  refine ⟨_, (pss_cons (ps_set (i := 4) sc__law_typed_truth.nd rfl (.inl rfl) (pe_ix (ix_listK K) (pe_lst (pa_cons pe_str (pa_cons pe_str (pa_cons pe_str pa_nil)))) (pe_u c__law_next hr (by first | decide | omega) (by rfl) (pa_cons (pv 0) (pa_cons pe_int pa_nil))) (fun _ _ => rfl)))
      (pss_cons (ps_if (pt_cmpR op_eq (pv 2) pe_int (nomark _)) (pss_one (ps_ret (pe_tup (pa_cons pe_str (pa_cons (pe_u c__law_typed hr (by first | decide | omega) (by rfl) (pa_cons (pv 0) (pa_cons (pv 1) (pa_cons (pv 4) (pa_cons (pv 3) pa_nil))))) pa_nil))))) pss_nil)
      (pss_cons (ps_if (pt_cmpR op_eq (pv 2) pe_int (nomark _)) (pss_one (ps_ret (pe_tup (pa_cons pe_str (pa_cons (pe_u c__law_typed hr (by first | decide | omega) (by rfl) (pa_cons (pv 0) (pa_cons (pv 1) (pa_cons pe_str (pa_cons (pv 3) pa_nil))))) pa_nil))))) pss_nil)
      (pss_cons (ps_if (pt_cmpR op_eq (pv 2) pe_int (nomark _)) (pss_cons (ps_set (i := 5) sc__law_typed_truth.nd rfl (.inl rfl) (pe_u c__law_typed hr (by first | decide | omega) (by rfl) (pa_cons (pv 0) (pa_cons (pv 1) (pa_cons pe_str (pa_cons (pv 3) pa_nil))))))
      (pss_one (ps_ret (pe_tup (pa_cons pe_str (pa_cons (pv 5) (pa_cons (pe_u c__law_typed hr (by first | decide | omega) (by rfl) (pa_cons (pv 0) (pa_cons (pv 1) (pa_cons pe_str (pa_cons (pv 3) pa_nil))))) pa_nil))))))) pss_nil)
      (pss_cons (ps_if (pt_cmpR op_eq (pv 2) pe_int (nomark _)) (pss_cons (ps_set (i := 5) sc__law_typed_truth.nd rfl (.inl rfl) (pe_u c__law_typed hr (by first | decide | omega) (by rfl) (pa_cons (pv 0) (pa_cons (pv 1) (pa_cons pe_str (pa_cons (pv 3) pa_nil))))))
      (pss_one (ps_ret (pe_tup (pa_cons (pe_ix (ix_listK K) (pe_lst (pa_cons pe_str (pa_cons pe_str pa_nil))) (pe_u c__law_next hr (by first | decide | omega) (by rfl) (pa_cons (pv 0) (pa_cons pe_int pa_nil))) (fun _ _ => rfl)) (pa_cons (pv 5) (pa_cons (pe_u c__law_typed hr (by first | decide | omega) (by rfl) (pa_cons (pv 0) (pa_cons (pv 1) (pa_cons pe_str (pa_cons (pv 3) pa_nil))))) pa_nil))))))) pss_nil)
      (pss_cons (ps_set (i := 6) sc__law_typed_truth.nd rfl (.inl rfl) (pe_ix (ix_listK K) (pe_lst (pa_cons pe_str (pa_cons pe_str (pa_cons pe_str (pa_cons pe_str (pa_cons pe_str (pa_cons pe_str pa_nil))))))) (pe_u c__law_next hr (by first | decide | omega) (by rfl) (pa_cons (pv 0) (pa_cons pe_int pa_nil))) (fun _ _ => rfl)))
      (pss_cons (ps_set (i := 5) sc__law_typed_truth.nd rfl (.inl rfl) (pe_u c__law_typed hr (by first | decide | omega) (by rfl) (pa_cons (pv 0) (pa_cons (pv 1) (pa_cons (pv 4) (pa_cons (pv 3) pa_nil))))))
      (pss_one (ps_ret (pe_tup (pa_cons (pv 6) (pa_cons (pv 5) (pa_cons (pe_u c__law_typed hr (by first | decide | omega) (by rfl) (pa_cons (pv 0) (pa_cons (pv 1) (pa_cons (pv 4) (pa_cons (pv 3) pa_nil))))) pa_nil))))))))))))), ?_⟩
  refine ⟨by show 3 ≤ sizeLine; decide, fun l3 n3 => ?_⟩
  have s3 := same_upd n3 (o := .lst ([Kd.int, .text, .truth].map fun k => V.str (Str.ofString k.s)))
  have el3 : (upd H l3 (.lst ([Kd.int, .text, .truth].map fun k => V.str (Str.ofString k.s)))) l3 = some (.lst ([Kd.int, .text, .truth].map fun k => V.str (Str.ofString k.s))) := upd_same
  have n3d := dr_ne dr (fun _ _ h => h) n3
  show tCall sp_next [] E0 _ _ (upd H l3 (.lst ([Kd.int, .text, .truth].map fun k => V.str (Str.ofString k.s)))) _
  generalize upd H l3 (.lst ([Kd.int, .text, .truth].map fun k => V.str (Str.ofString k.s))) = H0 at s3 el3 ⊢
  have dr0 := dr.ext s3
  refine ⟨_, rfl, d, c, 3, rfl, dr0, by decide, by decide, fun H1 r f1' _ dr1 r0 r1 => ?_⟩
  obtain ⟨r, rfl⟩ := Int.eq_ofNat_of_zero_le r0
  obtain ⟨ko, hko⟩ := pickK (ks := [.int, .text, .truth]) (k := r) (by show r < 3; omega)
  have f1 := (Fd.of s3).trans f1'
  refine ⟨l3, _, _, .str (Str.ofString ko.s), rfl, rfl, .of (f1' _ _ n3d el3), atI_nat hko, ?_⟩
  obtain ⟨el1, hcs1⟩ := env f1
  clear f1' s3 el3
  refine ⟨_, rfl, rfl, _, rfl, ite2 (fun _ => ?_) (fun _ => ?_)⟩
  · refine ⟨_, rfl, _, rfl, _, rfl, _, rfl, d, c, l, ys, ko, dp, rfl, dr1, el1, nld, hcs1, hdp, fun H2 v1 e1 f2 dr2 d1 w1 h1 => ⟨by show 2 ≤ sizeLine; decide, fun p np => ?_⟩⟩
    exact fin (e := .op1 .missing e1) (f1.trans f2) dr2 np (.cons (.str _) (.cons d1 .nil)) rfl (wk_missing w1) (by show e1.ht + 1 ≤ dp + 1; omega)
  refine ⟨_, rfl, rfl, _, rfl, ite2 (fun _ => ?_) (fun _ => ?_)⟩
  · refine ⟨_, rfl, _, rfl, _, rfl, d, c, l, ys, .truth, dp, rfl, dr1, el1, nld, hcs1, hdp, fun H2 v1 e1 f2 dr2 d1 w1 h1 => ⟨by show 2 ≤ sizeLine; decide, fun p np => ?_⟩⟩
    exact fin (e := .op1 .nt e1) (f1.trans f2) dr2 np (.cons (.str _) (.cons d1 .nil)) rfl (wk1 (x := .truth) rfl rfl w1) (by show e1.ht + 1 ≤ dp + 1; omega)
  refine ⟨_, rfl, rfl, _, rfl, ite2 (fun _ => ?_) (fun _ => ?_)⟩
  · refine ⟨_, rfl, _, rfl, _, rfl, d, c, l, ys, .text, dp, rfl, dr1, el1, nld, hcs1, hdp, fun H2 v1 e1 f2 dr2 d1 w1 h1 => ?_⟩
    obtain ⟨el2, hcs2⟩ := env (f1.trans f2)
    refine ⟨_, rfl, _, rfl, _, rfl, _, rfl, d, c, l, ys, .text, dp, rfl, dr2, el2, nld, hcs2, hdp, fun H3 v2 e2 f3 dr3 d2 w2 h2 => ⟨by show 3 ≤ sizeLine; decide, fun p np => ?_⟩⟩
    exact fin (e := .op2 .starts e1 e2) ((f1.trans f2).trans f3) dr3 np (.cons (.str _) (.cons (dpe_fd dr2 f3 d1) (.cons d2 .nil))) rfl (wk2 (x := .text) rfl rfl w1 w2) (by show max e1.ht e2.ht + 1 ≤ dp + 1; omega)
  refine ⟨_, rfl, rfl, _, rfl, ite2 (fun _ => ?_) (fun _ => ?_)⟩
  · refine ⟨_, rfl, _, rfl, _, rfl, d, c, l, ys, .truth, dp, rfl, dr1, el1, nld, hcs1, hdp, fun H2 v1 e1 f2 dr2 d1 w1 h1 => ?_⟩
    refine ⟨by show 2 ≤ sizeLine; decide, fun l5 n5 => ?_⟩
    have s5 := same_upd n5 (o := .lst ([Ow.and, .or].map fun o => V.str o.w))
    have el5 : (upd H2 l5 (.lst ([Ow.and, .or].map fun o => V.str o.w))) l5 = some (.lst ([Ow.and, .or].map fun o => V.str o.w)) := upd_same
    have n5d := dr_ne dr2 (fun _ _ h => h) n5
    show tCall sp_next [] E0 _ _ (upd H2 l5 (.lst ([Ow.and, .or].map fun o => V.str o.w))) _
    generalize upd H2 l5 (.lst ([Ow.and, .or].map fun o => V.str o.w)) = H5 at s5 el5 ⊢
    have dr5 := dr2.ext s5
    refine ⟨_, rfl, d, c, 2, rfl, dr5, by decide, by decide, fun H6 r6 f6 _ dr6 r0 r1 => ?_⟩
    obtain ⟨r6, rfl⟩ := Int.eq_ofNat_of_zero_le r0
    obtain ⟨o5, ho5, eo5⟩ := pickO (ops := [.and, .or]) (k := r6) (by show r6 < 2; omega)
    have hw5 : o5.want = some (.truth, .truth) ∧ o5.ar = 2 := by
      simp only [List.mem_cons, List.not_mem_nil, or_false] at ho5
      rcases ho5 with rfl | rfl <;> exact ⟨rfl, rfl⟩
    have f06 := ((f1.trans f2).trans (Fd.of s5)).trans f6
    obtain ⟨el6, hcs6⟩ := env f06
    have d16 := dpe_fd dr5 f6 (Dp.ext s5 _ _ d1)
    refine ⟨l5, _, _, .str o5.w, rfl, rfl, .of (f6 _ _ n5d el5), atI_nat eo5, _, rfl, _, rfl, _, rfl, _, rfl, d, c, l, ys, .truth, dp, rfl, dr6, el6, nld, hcs6, hdp, fun H3 v2 e2 f3 dr3 d2 w2 h2 => ⟨by show 3 ≤ sizeLine; decide, fun p np => ?_⟩⟩
    exact fin (e := .op2 o5 e1 e2) (f06.trans f3) dr3 np (.cons (.str _) (.cons (dpe_fd dr6 f3 d16) (.cons d2 .nil))) rfl (wk2 (x := .truth) hw5.1 hw5.2 w1 w2) (by show max e1.ht e2.ht + 1 ≤ dp + 1; omega)
  refine ⟨by show 6 ≤ sizeLine; decide, fun l6 n6 => ?_⟩
  have s6 := same_upd n6 (o := .lst ([Ow.lt, .le, .eq, .ne, .ge, .gt].map fun o => V.str o.w))
  have el6 : (upd H1 l6 (.lst ([Ow.lt, .le, .eq, .ne, .ge, .gt].map fun o => V.str o.w))) l6 = some (.lst ([Ow.lt, .le, .eq, .ne, .ge, .gt].map fun o => V.str o.w)) := upd_same
  have n6d := dr_ne dr1 (fun _ _ h => h) n6
  show tCall sp_next [] E0 _ _ (upd H1 l6 (.lst ([Ow.lt, .le, .eq, .ne, .ge, .gt].map fun o => V.str o.w))) _
  generalize upd H1 l6 (.lst ([Ow.lt, .le, .eq, .ne, .ge, .gt].map fun o => V.str o.w)) = H4 at s6 el6 ⊢
  have dr4 := dr1.ext s6
  refine ⟨_, rfl, d, c, 6, rfl, dr4, by decide, by decide, fun H5 k6 f5 _ dr5 r0 r1 => ?_⟩
  obtain ⟨k6, rfl⟩ := Int.eq_ofNat_of_zero_le r0
  obtain ⟨o6, ho6, eo6⟩ := pickO (ops := [.lt, .le, .eq, .ne, .ge, .gt]) (k := k6) (by show k6 < 6; omega)
  have hcmp : o6.cmp = true := by
    simp only [List.mem_cons, List.not_mem_nil, or_false] at ho6
    rcases ho6 with rfl | rfl | rfl | rfl | rfl | rfl <;> rfl
  have f05 := (f1.trans (Fd.of s6)).trans f5
  obtain ⟨el7, hcs7⟩ := env f05
  refine ⟨l6, _, _, .str o6.w, rfl, rfl, .of (f5 _ _ n6d el6), atI_nat eo6, ?_⟩
  refine ⟨_, rfl, _, rfl, _, rfl, _, rfl, d, c, l, ys, ko, dp, rfl, dr5, el7, nld, hcs7, hdp, fun H6 v1 e1 f6 dr6 d1 w1 h1 => ?_⟩
  obtain ⟨el8, hcs8⟩ := env (f05.trans f6)
  refine ⟨_, rfl, _, rfl, _, rfl, _, rfl, _, rfl, _, rfl, d, c, l, ys, ko, dp, rfl, dr6, el8, nld, hcs8, hdp, fun H7 v2 e2 f7 dr7 d2 w2 h2 => ⟨by show 3 ≤ sizeLine; decide, fun p np => ?_⟩⟩
  exact fin (e := .op2 o6 e1 e2) ((f05.trans f6).trans f7) dr7 np (.cons (.str _) (.cons (dpe_fd dr6 f7 d1) (.cons d2 .nil))) rfl (wk_cmp hcmp w1 w2) (by show max e1.ht e2.ht + 1 ≤ dp + 1; omega)
theorem cl_typed {cols : List Col} {f f' : Addr} {fd fd' : FuncData} (F : Fun K "_law_typed" "_law_typed" s__law_typed f fd) (F' : Fun K "_law_typed_truth" "_law_typed_truth" s__law_typed_truth f' fd') (M : Mg mg) (g : mg "_law_typed" = some (.ref f)) (b : Binds K fd ["draw", "columns", "kind", "depth"] []) (g' : mg "_law_typed_truth" = some (.ref f')) (b' : Binds K fd' ["draw", "columns", "form", "depth"] []) (c__law_next : Cl P w K mg base 1 "_law_next" sp_next) (c__law_named : Cl P w K mg base 2 "_law_named" (sp_named K cols)) (c__law_constant : Cl P w K mg base 2 "_law_constant" (sp_const K cols)) : ∀ n, Cl P w K mg base (2 * n + 2) "_law_typed" (sp_typed K cols n)
  | 0 => FnOk.cl (P := P) (w := w) (base := base) (F.ok sc__law_typed (fun vs H Q E h => by obtain ⟨d, c, l, ys, k, dp, rfl, _⟩ := h; rfl) (fun cdv A outer s H vs Q E hr h => by obtain ⟨d, c, l, ys, k, dp, rfl, _, _, _, _, h0, _⟩ := h; exact absurd h0 (Nat.not_lt_zero _))) F g b
  | n + 1 => FnOk.cl (ok_typed n F M c__law_next c__law_named c__law_constant (cl_typed F F' M g b g' b' c__law_next c__law_named c__law_constant n) (FnOk.cl (ok_tyT n F' M c__law_next (cl_typed F F' M g b g' b' c__law_next c__law_named c__law_constant n)) F' g' b')) F g b
end

/-! ### values of rows -/
section
variable {X : Cx}
def rCmpA (K : PySem.W.Frag) (f : PyData → PyData → Bool) : R2 := fun x y H Q => ∃ d e, Dp K H x d ∧ Dp K H y e ∧ SeqAt.shaped d = true ∧ SeqAt.shaped e = true ∧ PySem.W.alike d e = true ∧ d ≠ .none ∧ Q (.bl (f d e)) H
theorem op_ltA (K : PySem.W.Frag) (hu : X.A.units + 64 < cLine) (h : X.K = K := by rfl) : OpR X (compareOp .Lt) (rCmpA K fun d e => PySem.W.dataLt d e) := by
  subst h
  intro pins s σ H x y v u Q I rx ry h
  obtain ⟨d, e, hd, he, sd, se, ho, hn, q⟩ := h
  obtain ⟨as, r1⟩ := Dp.reads I d x v hd rx
  obtain ⟨bs, r2⟩ := Dp.reads I e y u he ry
  have go := PySem.W.rcLt_alike d e X.A s v u as bs r1 r2 ho hn (SeqAt.room_of_shaped sd hu)
  exact go _ _ _ _ ⟨.bl _, H, I, rfl, q⟩
theorem op_leA (K : PySem.W.Frag) (hu : X.A.units + 64 < cLine) (h : X.K = K := by rfl) : OpR X (compareOp .LtE) (rCmpA K fun d e => !PySem.W.dataLt e d) := by
  subst h
  intro pins s σ H x y v u Q I rx ry h
  obtain ⟨d, e, hd, he, sd, se, ho, hn, q⟩ := h
  obtain ⟨as, r1⟩ := Dp.reads I d x v hd rx
  obtain ⟨bs, r2⟩ := Dp.reads I e y u he ry
  have go := PySem.W.rcLe_alike d e X.A s v u as bs r1 r2 ho hn (SeqAt.room_of_shaped sd hu)
  exact go _ _ _ _ ⟨.bl _, H, I, rfl, q⟩
theorem op_gtA (K : PySem.W.Frag) (hu : X.A.units + 64 < cLine) (h : X.K = K := by rfl) : OpR X (compareOp .Gt) (rCmpA K fun d e => PySem.W.dataLt e d) := by
  subst h
  intro pins s σ H x y v u Q I rx ry h
  obtain ⟨d, e, hd, he, sd, se, ho, hn, q⟩ := h
  obtain ⟨as, r1⟩ := Dp.reads I d x v hd rx
  obtain ⟨bs, r2⟩ := Dp.reads I e y u he ry
  have go := PySem.W.rcGt_alike d e X.A s v u as bs r1 r2 ho hn (SeqAt.room_of_shaped sd hu)
  exact go _ _ _ _ ⟨.bl _, H, I, rfl, q⟩
theorem op_geA (K : PySem.W.Frag) (hu : X.A.units + 64 < cLine) (h : X.K = K := by rfl) : OpR X (compareOp .GtE) (rCmpA K fun d e => !PySem.W.dataLt d e) := by
  subst h
  intro pins s σ H x y v u Q I rx ry h
  obtain ⟨d, e, hd, he, sd, se, ho, hn, q⟩ := h
  obtain ⟨as, r1⟩ := Dp.reads I d x v hd rx
  obtain ⟨bs, r2⟩ := Dp.reads I e y u he ry
  have go := PySem.W.rcGe_alike d e X.A s v u as bs r1 r2 ho hn (SeqAt.room_of_shaped sd hu)
  exact go _ _ _ _ ⟨.bl _, H, I, rfl, q⟩
end

/-! ### values by their kinds -/
inductive Wv where
  | n
  | i (k : Int)
  | s (x : Str)
deriving DecidableEq
def Wv.v : Wv → V
  | .n => .non
  | .i k => .int k
  | .s x => .str x
def Wv.p : Wv → PyData
  | .n => .none
  | .i k => .int k
  | .s x => .str x
def Wv.key : Wv → PyData
  | .n => .tuple [.int 0, .int 0, .str ""]
  | .i k => .tuple [.int 1, .int k, .str ""]
  | .s x => .tuple [.int 2, .int 0, .str x]
def BD : Int := 1000000000000000
/-- a value of a kind (or none) -/
def Fk : Option Kd → Wv → Prop
  | _, .n => True
  | some .int, .i k => -BD ≤ k ∧ k ≤ BD
  | some .text, .s x => x.length ≤ 100 ∧ PyData.strOk x = true
  | some .truth, .i k => k = 0 ∨ k = 1
  | _, _ => False
theorem fk_n (k : Option Kd) : Fk k .n := by
  cases k with
  | none => trivial
  | some k => cases k <;> trivial
theorem fk_none {v : Wv} (h : Fk none v) : v = .n := by
  cases v with
  | n => rfl
  | i k => exact h.elim
  | s x => exact h.elim
theorem fk_need {x : Kd} {k : Option Kd} {v : Wv} (h : Fk k v) (hn : need x k = true) : Fk (some x) v := by
  rcases need_or hn with rfl | rfl
  · rw [fk_none h]
    exact fk_n _
  · exact h
theorem Wv.v_inj {a b : Wv} (h : a.v = b.v) : a = b := by
  cases a <;> cases b <;> first | rfl | (cases h; rfl) | cases h
theorem wv_dec (a b : Wv) : decide (a.v = b.v) = decide (a = b) := decide_eq_decide.mpr ⟨Wv.v_inj, fun e => by rw [e]⟩
theorem wv_flat (a : Wv) : flatV a.v = true := by cases a <;> rfl
theorem wv_non (a : Wv) : decide (a.v = .non) = decide (a = .n) := wv_dec a .n
theorem wv_dp {K : PySem.W.Frag} {H : Hp} : ∀ a : Wv, Dp K H a.v a.p
  | .n => .non
  | .i _ => .int _
  | .s _ => .str _
theorem dp_wv {K : PySem.W.Frag} {H : Hp} {v : V} {a : Wv} (h : Dp K H v a.p) : v = a.v := by
  cases a <;> (cases h; rfl)
theorem key_shaped {k : Option Kd} {v : Wv} (h : Fk k v) : SeqAt.shaped v.key = true := by
  have hs : PyData.strOk "" = true := by decide +kernel
  cases v with
  | n => decide +kernel
  | i j =>
    unfold SeqAt.shaped
    rw [Bool.and_eq_true]
    refine ⟨?_, decide_eq_true (by show (PyData.depth (.tuple _)) ≤ _; simp [PyData.depth, PyData.depthAll])⟩
    simp [Wv.key, PyData.canLay0, PyData.canLayAll0, hs]
  | s x =>
    have hx : PyData.strOk x = true := by
      cases k with
      | none => exact h.elim
      | some k => cases k <;> first | exact h.2 | exact h.elim
    unfold SeqAt.shaped
    rw [Bool.and_eq_true]
    refine ⟨?_, decide_eq_true (by show (PyData.depth (.tuple _)) ≤ _; simp [PyData.depth, PyData.depthAll])⟩
    simp [Wv.key, PyData.canLay0, PyData.canLayAll0, hx]
theorem key_alike {k : Kd} {a b : Wv} (ha : Fk (some k) a) (hb : Fk (some k) b) (na : a ≠ .n) (nb : b ≠ .n) : PySem.W.alike a.key b.key = true := by
  cases a with
  | n => exact absurd rfl na
  | i j =>
    cases b with
    | n => exact absurd rfl nb
    | i j' => rfl
    | s y => cases k <;> first | exact ha.elim | exact hb.elim
  | s x =>
    cases b with
    | n => exact absurd rfl nb
    | i j' => cases k <;> first | exact ha.elim | exact hb.elim
    | s y => rfl
theorem key_eqv (a b : Wv) : PyData.eqv a.key b.key = decide (a = b) := by
  cases a <;> cases b <;> simp [Wv.key, PyData.eqv, PyData.eqvAll]
  all_goals (rw [Bool.eq_iff_iff]; simp)
/-! what the operators give -/
def oneW (b : Bool) : Wv := .i (if b = true then 1 else 0)
def bw (k : Int) : Wv := if -BD ≤ k ∧ k ≤ BD then .i k else .n
def cntW (o : Ow) : Wv → Wv → Wv
  | .i a, .i b => match o with
    | .add => bw (a + b)
    | .sub => bw (a - b)
    | .mul => bw (a * b)
    | .div => if b < 1 then .n else .i (a / b)
    | _ => if b < 1 then .n else .i (a % b)
  | _, _ => .n
def lgW (D : Int) (a b : Wv) : Wv := if a = .i D then .i D else if b = .i D then .i D else if a = .n then .n else if b = .n then .n else .i (1 - D)
def cmpB (o : Ow) (a b : Wv) : Bool :=
  match o with
  | .lt => PySem.W.dataLt a.key b.key
  | .le => !PySem.W.dataLt b.key a.key
  | .eq => decide (a = b)
  | .ne => !decide (a = b)
  | .ge => !PySem.W.dataLt a.key b.key
  | _ => PySem.W.dataLt b.key a.key
def cmpW (o : Ow) (a b : Wv) : Wv := if a = .n then .n else if b = .n then .n else oneW (cmpB o a b)
def staW : Wv → Wv → Wv
  | .s x, .s y => oneW (Txt.startswith x y)
  | _, _ => .n
def oneOf (o : Ow) : Wv → Wv
  | .n => if o = .missing then oneW true else .n
  | .i k => match o with | .missing => oneW false | .nt => .i (1 - k) | .neg => .i (-k) | _ => .n
  | .s x => match o with | .missing => oneW false | .length => .i ((x.length : Nat) : Int) | _ => .n
def opW (o : Ow) : List Wv → Wv
  | [a] => oneOf o a
  | [a, b] => match o with
    | .coalesce => if a = .n then b else a
    | .starts => staW a b
    | .and => lgW 0 a b
    | .or => lgW 1 a b
    | .add | .sub | .mul | .div | .mod => cntW o a b
    | _ => cmpW o a b
  | [a, b, c] => if a = .i 1 then b else c
  | _ => .n
/-- the operands are of the operator's kinds -/
def vok (o : Ow) (vs : List Wv) : Prop := (∀ x r, o.want = some (x, r) → ∀ v ∈ vs, Fk (some x) v) ∧ (o.cmp = true → ∃ k, ∀ v ∈ vs, Fk (some k) v) ∧ (o = .ite → ∀ a rest, vs = a :: rest → Fk (some .truth) a)
inductive All2 {α β : Type} (p : α → β → Prop) : List α → List β → Prop
  | nil : All2 p [] []
  | cons {a b as bs} : p a b → All2 p as bs → All2 p (a :: as) (b :: bs)
theorem All2.mem {α β : Type} {p : α → β → Prop} {as : List α} {bs : List β} (h : All2 p as bs) : ∀ b ∈ bs, ∃ a ∈ as, p a b := by
  induction h with
  | nil => exact fun b hb => by cases hb
  | cons h1 _ ih =>
    intro b hb
    rcases List.mem_cons.mp hb with rfl | hb
    · exact ⟨_, List.mem_cons_self, h1⟩
    · obtain ⟨a, ha, hp⟩ := ih b hb
      exact ⟨a, List.mem_cons_of_mem _ ha, hp⟩
theorem oneW_truth (b : Bool) : Fk (some .truth) (oneW b) := by cases b <;> first | exact .inl rfl | exact .inr rfl
theorem bw_int (k : Int) : Fk (some .int) (bw k) := by
  unfold bw
  split
  · rename_i h
    exact h
  · exact fk_n _
theorem lgW_truth {D : Int} (hD : D = 0 ∨ D = 1) (a b : Wv) : Fk (some .truth) (lgW D a b) := by
  unfold lgW
  have h1 : Fk (some .truth) (.i D) := hD
  have h2 : Fk (some .truth) (.i (1 - D)) := by rcases hD with rfl | rfl <;> first | exact .inr rfl | exact .inl rfl
  repeat' split
  all_goals first | exact h1 | exact h2 | exact fk_n _
theorem cmpW_truth (o : Ow) (a b : Wv) : Fk (some .truth) (cmpW o a b) := by
  unfold cmpW
  repeat' split
  all_goals first | exact fk_n _ | exact oneW_truth _
theorem cntW_int {o : Ow} {a b : Wv} (ha : Fk (some .int) a) (hb : Fk (some .int) b) : Fk (some .int) (cntW o a b) := by
  cases a with
  | n => exact fk_n _
  | s x => exact ha.elim
  | i j =>
    cases b with
    | n => exact fk_n _
    | s x => exact hb.elim
    | i l =>
      have ha : -BD ≤ j ∧ j ≤ BD := ha
      have hb : -BD ≤ l ∧ l ≤ BD := hb
      have hz : (0 : Int) ≤ BD := by decide
      have hdiv : Fk (some .int) (if l < 1 then .n else .i (j / l)) := by
        split
        · exact fk_n _
        · rename_i h1
          refine ⟨?_, ?_⟩
          · refine Int.le_trans ?_ (Int.ediv_le_ediv (c := l) (by omega) ha.1)
            rw [Int.le_ediv_iff_mul_le (by omega)]
            have : -BD * l ≤ -BD * 1 := Int.mul_le_mul_of_nonpos_left (by omega) (by omega)
            omega
          · by_cases hj : 0 ≤ j
            · exact Int.le_trans (Int.ediv_le_self l hj) ha.2
            · have : j / l ≤ 0 := by
                have := Int.ediv_le_ediv (a := j) (b := 0) (c := l) (by omega) (by omega)
                rwa [Int.zero_ediv] at this
              omega
      have hmod : Fk (some .int) (if l < 1 then .n else .i (j % l)) := by
        split
        · exact fk_n _
        · rename_i h1
          have := Int.emod_nonneg j (b := l) (by omega)
          have := Int.emod_lt_of_pos j (b := l) (by omega)
          exact ⟨by omega, by omega⟩
      cases o <;> first | exact bw_int _ | exact hdiv | exact hmod
theorem staW_truth (a b : Wv) : Fk (some .truth) (staW a b) := by
  unfold staW
  split
  · exact oneW_truth _
  · exact fk_n _
theorem opK_want {o : Ow} {x r : Kd} {ks : List (Option Kd)} {k : Option Kd} (hw : o.want = some (x, r)) (h : opK o ks = .ok k) : k = some r ∧ ∀ y ∈ ks, need x y = true := by
  unfold opK at h
  rw [hw] at h
  dsimp only at h
  split at h
  · rename_i ha
    cases h
    exact ⟨rfl, fun y hy => List.all_eq_true.mp ha y hy⟩
  · cases h
theorem common_inv {a b c : Option Kd} (h : common a b = .ok c) {x y : Wv} (hx : Fk a x) (hy : Fk b y) : Fk c x ∧ Fk c y ∧ ∃ k, need k a = true ∧ need k b = true := by
  unfold common at h
  split at h
  · cases h
    rw [fk_none hx]
    refine ⟨fk_n _, hy, ?_⟩
    cases b with
    | none => exact ⟨.int, rfl, rfl⟩
    | some k => exact ⟨k, rfl, need_self k⟩
  · rename_i k
    split at h
    · rename_i hn
      cases h
      exact ⟨hx, fk_need hy hn, k, need_self k, hn⟩
    · cases h
/-- an operator's value is of its kind -/
theorem opW_fit {o : Ow} {ks : List (Option Kd)} {vs : List Wv} {k : Option Kd} (h : All2 Fk ks vs) (hl : vs.length = o.ar) (hk : opK o ks = .ok k) : Fk k (opW o vs) ∧ vok o vs := by
  cases hw : o.want with
  | some xr =>
    obtain ⟨x, r⟩ := xr
    obtain ⟨rfl, hn⟩ := opK_want hw hk
    have hv : ∀ v ∈ vs, Fk (some x) v := fun v hv => by
      obtain ⟨a, ha, hp⟩ := h.mem v hv
      exact fk_need hp (hn a ha)
    refine ⟨?_, fun x' r' e v m => ?_, fun e => ?_, fun e => ?_⟩
    · match vs, hl, hv with
      | [a], hl, hv =>
        have ha := hv a List.mem_cons_self
        cases o <;> first | (cases hl; done) | cases hw
        all_goals (cases a with
          | n => exact fk_n _
          | i j => first | exact ha.elim | exact ⟨by have := ha.1; have := ha.2; omega, by have := ha.1; have := ha.2; omega⟩ | (rcases ha with rfl | rfl <;> first | exact .inr rfl | exact .inl rfl)
          | s y => first | exact ha.elim | exact ⟨by have := ha.1; show -1000000000000000 ≤ ((y.length : Nat) : Int); omega, by have := ha.1; show ((y.length : Nat) : Int) ≤ 1000000000000000; omega⟩)
      | [a, b], hl, hv =>
        have ha := hv a List.mem_cons_self
        have hb := hv b (List.mem_cons_of_mem _ List.mem_cons_self)
        cases o <;> first | (cases hl; done) | cases hw
        all_goals first | exact cntW_int (o := .add) ha hb | exact cntW_int (o := .sub) ha hb | exact cntW_int (o := .mul) ha hb | exact cntW_int (o := .div) ha hb | exact cntW_int (o := .mod) ha hb | exact staW_truth a b | exact lgW_truth (.inl rfl) a b | exact lgW_truth (.inr rfl) a b
      | [a, b, c], hl, hv => cases o <;> first | (cases hl; done) | (cases hw; done)
      | [], hl, _ => cases o <;> cases hl
      | a :: b :: c :: d :: l, hl, _ => cases o <;> cases hl
    · rw [hw] at e
      cases e
      exact hv v m
    · cases o <;> first | (cases hw; done) | (cases e; done)
    · subst e
      cases hw
  | none =>
    have nw : ∀ x r, o.want = some (x, r) → ∀ v ∈ vs, Fk (some x) v := fun x r e => by rw [hw] at e; cases e
    match ks, vs, h, hl with
    | [], [], _, hl => cases o <;> cases hl
    | [x], [a], _, hl =>
      cases o <;> first | (cases hl; done) | (cases hw; done) | skip
      cases hk
      refine ⟨?_, nw, (fun e => by cases e), (fun e => by cases e)⟩
      cases a <;> exact oneW_truth _
    | [x, y], [a, b], .cons ha (.cons hb .nil), hl =>
      by_cases hc : o.cmp = true ∨ o = .coalesce
      · rw [opK_two hc] at hk
        cases e : common x y with
        | error m => rw [e] at hk; cases hk
        | ok c =>
          rw [e] at hk
          cases hk
          obtain ⟨fa, fb, z, n1, n2⟩ := common_inv e ha hb
          rcases hc with hc | rfl
          · dsimp only
            rw [if_pos hc]
            refine ⟨?_, nw, fun _ => ⟨z, fun v hv => ?_⟩, fun e => by subst e; cases hc⟩
            · cases o <;> first | (cases hc; done) | exact cmpW_truth _ a b
            · simp only [List.mem_cons, List.not_mem_nil, or_false] at hv
              rcases hv with rfl | rfl
              · exact fk_need ha n1
              · exact fk_need hb n2
          · refine ⟨?_, nw, (fun e => by cases e), (fun e => by cases e)⟩
            show Fk c (if a = .n then b else a)
            split
            · exact fb
            · exact fa
      · cases o <;> first | (cases hl; done) | (cases hw; done) | exact absurd (.inl rfl) hc | exact absurd (.inr rfl) hc
    | [x, y, z], [a, b, c], .cons ha (.cons hb (.cons hc .nil)), hl =>
      cases o <;> first | (cases hl; done) | (cases hw; done) | skip
      replace hk : (if need .truth x = true then common y z else .error (exM .truth)) = .ok k := hk
      split at hk
      · rename_i hn
        obtain ⟨fb, fc, _⟩ := common_inv hk hb hc
        refine ⟨?_, nw, (fun e => by cases e), (fun _ a' rest e => by cases e; exact fk_need ha hn)⟩
        show Fk k (if a = .i 1 then b else c)
        split
        · exact fb
        · exact fc
      · cases hk
    | _ :: _ :: _ :: _ :: _, a :: b :: c :: d :: l, _, hl => cases o <;> cases hl
/-! ### expressions and plain forms, valued -/
inductive Pt where
  | col (i : Nat) | con (v : Wv) | p1 (o : Ow) (a : Pt) | p2 (o : Ow) (a b : Pt) | p3 (o : Ow) (a b c : Pt)
def Ow.ps (o : Ow) : Str := Str.ofString o.plain
def Pt.d : Pt → PyData
  | .col i => .tuple [.str "column", .int ((i : Nat) : Int)]
  | .con v => .tuple [.str "constant", v.p]
  | .p1 o a => .tuple [.str o.ps, a.d]
  | .p2 o a b => .tuple [.str o.ps, a.d, b.d]
  | .p3 o a b c => .tuple [.str o.ps, a.d, b.d, c.d]
def Pt.ht : Pt → Nat
  | .p1 _ a => a.ht + 1
  | .p2 _ a b => max a.ht b.ht + 1
  | .p3 _ a b c => max a.ht (max b.ht c.ht) + 1
  | _ => 0
def Ow.pl : Ow → Bool
  | .le => false | .ne => false | .ge => false | .gt => false | .coalesce => false | _ => true
section
variable (row : List Wv)
def pvW : Pt → Wv
  | .col i => (row[i]?).getD .n
  | .con v => v
  | .p1 o a => opW o [pvW a]
  | .p2 o a b => opW o [pvW a, pvW b]
  | .p3 o a b c => opW o [pvW a, pvW b, pvW c]
def Pk : Pt → Prop
  | .col i => i < row.length
  | .con _ => True
  | .p1 o a => o.pl = true ∧ o.ar = 1 ∧ vok o [pvW row a] ∧ Pk a
  | .p2 o a b => o.pl = true ∧ o.ar = 2 ∧ vok o [pvW row a, pvW row b] ∧ Pk a ∧ Pk b
  | .p3 o a b c => o.pl = true ∧ o.ar = 3 ∧ vok o [pvW row a, pvW row b, pvW row c] ∧ Pk a ∧ Pk b ∧ Pk c
end
section
variable (cols : List Col)
def at1 (p : Col → Bool) : Nat := (plcs cols p).head?.getD 0
def cplO (o : Ow) : List Pt → Pt
  | [a] => .p1 o a
  | [a, b] => match o with
    | .le => .p1 .nt (.p2 .lt b a)
    | .ne => .p1 .nt (.p2 .eq a b)
    | .ge => .p1 .nt (.p2 .lt a b)
    | .gt => .p2 .lt b a
    | .coalesce => .p3 .ite (.p1 .missing a) b a
    | o => .p2 o a b
  | [a, b, c] => .p3 o a b c
  | _ => .con .n
def cpl : Et → Pt
  | .num i => .con (.i i)
  | .text x => .con (.s x)
  | .truth i => .con (.i i)
  | .null => .con .n
  | .name x => .col (at1 cols fun c => decide (c.nm = x))
  | .field x y => .col (at1 cols fun c => decide (c.src = some x) && decide (c.nm = y))
  | .op1 o a => cplO o [cpl a]
  | .op2 o a b => cplO o [cpl a, cpl b]
  | .op3 o a b c => cplO o [cpl a, cpl b, cpl c]
variable (row : List Wv)
def evW : Et → Wv
  | .num i => .i i
  | .text x => .s x
  | .truth i => .i i
  | .null => .n
  | .name x => (row[at1 cols fun c => decide (c.nm = x)]?).getD .n
  | .field x y => (row[at1 cols fun c => decide (c.src = some x) && decide (c.nm = y)]?).getD .n
  | .op1 o a => opW o [evW a]
  | .op2 o a b => opW o [evW a, evW b]
  | .op3 o a b c => opW o [evW a, evW b, evW c]
def Ek : Et → Prop
  | .name x => ∃ i, plcs cols (fun c => decide (c.nm = x)) = [i]
  | .field x y => ∃ i, plcs cols (fun c => decide (c.src = some x) && decide (c.nm = y)) = [i]
  | .op1 o a => o.ar = 1 ∧ vok o [evW cols row a] ∧ Ek a
  | .op2 o a b => o.ar = 2 ∧ vok o [evW cols row a, evW cols row b] ∧ Ek a ∧ Ek b
  | .op3 o a b c => o.ar = 3 ∧ vok o [evW cols row a, evW cols row b, evW cols row c] ∧ Ek a ∧ Ek b ∧ Ek c
  | _ => True
end
/-- a row of the columns' kinds -/
def Rok (cols : List Col) (row : List Wv) : Prop := row.length = cols.length ∧ ∀ (i : Nat) (c : Col) (v : Wv), cols[i]? = some c → row[i]? = some v → Fk c.kd v
theorem oneOf_not (b : Bool) : oneOf .nt (oneW b) = oneW (!b) := by cases b <;> rfl
theorem not_cmp {o o' : Ow} {a b a' b' : Wv} (hn : (a = .n ∨ b = .n) ↔ (a' = .n ∨ b' = .n)) (h : (!cmpB o a b) = cmpB o' a' b') : oneOf .nt (cmpW o a b) = cmpW o' a' b' := by
  unfold cmpW
  by_cases h1 : a = .n ∨ b = .n
  · have h2 := hn.mp h1
    have e1 : (if a = .n then Wv.n else if b = .n then .n else oneW (cmpB o a b)) = .n := by
      rcases h1 with h1 | h1
      · rw [if_pos h1]
      · rw [if_pos h1]; split <;> rfl
    have e2 : (if a' = .n then Wv.n else if b' = .n then .n else oneW (cmpB o' a' b')) = .n := by
      rcases h2 with h2 | h2
      · rw [if_pos h2]
      · rw [if_pos h2]; split <;> rfl
    rw [e1, e2]
    rfl
  · have h2 : ¬ (a' = .n ∨ b' = .n) := fun z => h1 (hn.mpr z)
    rw [if_neg (fun z => h1 (.inl z)), if_neg (fun z => h1 (.inr z)), if_neg (fun z => h2 (.inl z)), if_neg (fun z => h2 (.inr z)), oneOf_not, h]
/-- what a tree and its compiled form say of each other -/
def Good (cols : List Col) (row : List Wv) (e : Et) (r : Cr) : Prop := r.1 = (cpl cols e).d ∧ Fk r.2.1 (evW cols row e) ∧ pvW row (cpl cols e) = evW cols row e ∧ Pk row (cpl cols e) ∧ Ek cols row e
theorem vok_cmp {o o' : Ow} (hc : o.cmp = true) (hc' : o'.cmp = true) {vs vs' : List Wv} (h : vok o vs) (hs : ∀ v ∈ vs', v ∈ vs) : vok o' vs' := by
  refine ⟨fun x r e => ?_, fun _ => ?_, fun e => ?_⟩
  · cases o' <;> first | (cases hc'; done) | (cases e; done)
  · obtain ⟨k, hk⟩ := h.2.1 hc
    exact ⟨k, fun v hv => hk v (hs v hv)⟩
  · subst e
    cases hc'
theorem vok_not {v : Wv} (h : Fk (some .truth) v) : vok .nt [v] := ⟨fun x r e u hu => by
    cases e
    rw [List.mem_singleton.mp hu]
    exact h, (fun e => by cases e), (fun e => by cases e)⟩
theorem vok_missing (v : Wv) : vok .missing [v] := ⟨(fun x r e => by cases e), (fun e => by cases e), (fun e => by cases e)⟩
theorem vok_ite {a b c : Wv} (h : Fk (some .truth) a) : vok .ite [a, b, c] := ⟨(fun x r e => by cases e), (fun e => by cases e), fun _ a' rest e => by
    cases e
    exact h⟩
theorem node1 {cols : List Col} {row : List Wv} {o : Ow} {a : Et} {r : Cr} {ra : Cr} (har : o.ar = 1) (ga : Good cols row a ra) {k : Option Kd} (hk : opK o [ra.2.1] = .ok k) (hr : r = (opF o [ra.1], k, opZ o [ra.2.2])) : Good cols row (.op1 o a) r := by
  obtain ⟨a1, a2, a3, a4, a5⟩ := ga
  obtain ⟨f1, f2⟩ := opW_fit (ks := [ra.2.1]) (vs := [evW cols row a]) (.cons a2 .nil) har.symm hk
  subst hr
  have hpl : o.pl = true := by cases o <;> first | rfl | cases har
  refine ⟨?_, f1, ?_, ⟨hpl, har, by rw [a3]; exact f2, a4⟩, har, f2, a5⟩
  · show opF o [ra.1] = _
    rw [a1]
    cases o <;> first | rfl | cases har
  · show opW o [pvW row (cpl cols a)] = opW o [evW cols row a]
    rw [a3]
theorem node2 {cols : List Col} {row : List Wv} {o : Ow} {a b : Et} {r : Cr} {ra rb : Cr} (har : o.ar = 2) (ga : Good cols row a ra) (gb : Good cols row b rb) {k : Option Kd} (hk : opK o [ra.2.1, rb.2.1] = .ok k) (hr : r = (opF o [ra.1, rb.1], k, opZ o [ra.2.2, rb.2.2])) : Good cols row (.op2 o a b) r := by
  obtain ⟨a1, a2, a3, a4, a5⟩ := ga
  obtain ⟨b1, b2, b3, b4, b5⟩ := gb
  obtain ⟨f1, f2⟩ := opW_fit (ks := [ra.2.1, rb.2.1]) (vs := [evW cols row a, evW cols row b]) (.cons a2 (.cons b2 .nil)) har.symm hk
  subst hr
  have main : opF o [ra.1, rb.1] = (cplO o [cpl cols a, cpl cols b]).d ∧ pvW row (cplO o [cpl cols a, cpl cols b]) = opW o [evW cols row a, evW cols row b] ∧ Pk row (cplO o [cpl cols a, cpl cols b]) := by
    rw [a1, b1]
    have sub : ∀ v ∈ [evW cols row b, evW cols row a], v ∈ [evW cols row a, evW cols row b] := fun v hv => by
      simp only [List.mem_cons, List.not_mem_nil, or_false] at hv ⊢
      exact hv.symm
    have nrm : o.pl = true → opF o [(cpl cols a).d, (cpl cols b).d] = (Pt.p2 o (cpl cols a) (cpl cols b)).d ∧ pvW row (.p2 o (cpl cols a) (cpl cols b)) = opW o [evW cols row a, evW cols row b] ∧ Pk row (.p2 o (cpl cols a) (cpl cols b)) := fun hpl => by
      refine ⟨(by cases o <;> first | rfl | cases hpl), ?_, hpl, har, (by rw [a3, b3]; exact f2), a4, b4⟩
      show opW o [pvW row (cpl cols a), pvW row (cpl cols b)] = _
      rw [a3, b3]
    by_cases hpl : o.pl = true
    · have e : cplO o [cpl cols a, cpl cols b] = .p2 o (cpl cols a) (cpl cols b) := by cases o <;> first | rfl | cases hpl
      rw [e]
      exact nrm hpl
    · cases o <;> first | exact absurd rfl hpl | skip
      · -- le
        refine ⟨rfl, ?_, rfl, rfl, vok_not ?_, rfl, rfl, by rw [a3, b3]; exact vok_cmp rfl rfl f2 sub, b4, a4⟩
        · show oneOf .nt (cmpW .lt (pvW row (cpl cols b)) (pvW row (cpl cols a))) = cmpW .le (evW cols row a) (evW cols row b)
          rw [a3, b3]
          exact not_cmp (Or.comm) rfl
        · exact cmpW_truth .lt _ _
      · -- ne
        refine ⟨rfl, ?_, rfl, rfl, vok_not ?_, rfl, rfl, by rw [a3, b3]; exact vok_cmp rfl rfl f2 (fun _ h => h), a4, b4⟩
        · show oneOf .nt (cmpW .eq (pvW row (cpl cols a)) (pvW row (cpl cols b))) = cmpW .ne (evW cols row a) (evW cols row b)
          rw [a3, b3]
          exact not_cmp Iff.rfl rfl
        · exact cmpW_truth .eq _ _
      · -- ge
        refine ⟨rfl, ?_, rfl, rfl, vok_not ?_, rfl, rfl, by rw [a3, b3]; exact vok_cmp rfl rfl f2 (fun _ h => h), a4, b4⟩
        · show oneOf .nt (cmpW .lt (pvW row (cpl cols a)) (pvW row (cpl cols b))) = cmpW .ge (evW cols row a) (evW cols row b)
          rw [a3, b3]
          exact not_cmp Iff.rfl rfl
        · exact cmpW_truth .lt _ _
      · -- gt
        refine ⟨rfl, ?_, rfl, rfl, by rw [a3, b3]; exact vok_cmp rfl rfl f2 sub, b4, a4⟩
        show cmpW .lt (pvW row (cpl cols b)) (pvW row (cpl cols a)) = cmpW .gt (evW cols row a) (evW cols row b)
        rw [a3, b3]
        unfold cmpW
        by_cases h1 : evW cols row a = .n
        · rw [if_pos h1, if_pos h1]
          split <;> rfl
        · rw [if_neg h1, if_neg h1]
          rfl
      · -- coalesce
        refine ⟨rfl, ?_, rfl, rfl, vok_ite ?_, ⟨rfl, rfl, vok_missing _, a4⟩, b4, a4⟩
        · show (if oneOf .missing (pvW row (cpl cols a)) = .i 1 then pvW row (cpl cols b) else pvW row (cpl cols a)) = (if evW cols row a = .n then evW cols row b else evW cols row a)
          rw [a3, b3]
          cases evW cols row a <;> rfl
        · show Fk _ (oneOf .missing (pvW row (cpl cols a)))
          cases pvW row (cpl cols a) <;> exact oneW_truth _
  exact ⟨main.1, f1, main.2.1, main.2.2, har, f2, a5, b5⟩
theorem node3 {cols : List Col} {row : List Wv} {o : Ow} {a b c : Et} {r : Cr} {ra rb rc : Cr} (har : o.ar = 3) (ga : Good cols row a ra) (gb : Good cols row b rb) (gc : Good cols row c rc) {k : Option Kd} (hk : opK o [ra.2.1, rb.2.1, rc.2.1] = .ok k) (hr : r = (opF o [ra.1, rb.1, rc.1], k, opZ o [ra.2.2, rb.2.2, rc.2.2])) : Good cols row (.op3 o a b c) r := by
  obtain ⟨a1, a2, a3, a4, a5⟩ := ga
  obtain ⟨b1, b2, b3, b4, b5⟩ := gb
  obtain ⟨c1, c2, c3, c4, c5⟩ := gc
  obtain ⟨f1, f2⟩ := opW_fit (ks := [ra.2.1, rb.2.1, rc.2.1]) (vs := [evW cols row a, evW cols row b, evW cols row c]) (.cons a2 (.cons b2 (.cons c2 .nil))) har.symm hk
  subst hr
  obtain rfl : o = .ite := by cases o <;> first | rfl | cases har
  refine ⟨?_, f1, ?_, ⟨rfl, rfl, by rw [a3, b3, c3]; exact f2, a4, b4, c4⟩, rfl, f2, a5, b5, c5⟩
  · show opF .ite [ra.1, rb.1, rc.1] = _
    rw [a1, b1, c1]
    rfl
  · show opW .ite [pvW row (cpl cols a), pvW row (cpl cols b), pvW row (cpl cols c)] = _
    rw [a3, b3, c3]
    rfl
theorem plcs_lt {cols : List Col} {p : Col → Bool} {i : Nat} (h : i ∈ plcs cols p) : i < cols.length ∧ ∃ c, cols[i]? = some c ∧ p c = true := by
  unfold plcs at h
  rw [List.mem_filter, List.mem_range] at h
  refine ⟨h.1, _, List.getElem?_eq_getElem h.1, ?_⟩
  have := h.2
  rw [List.getElem?_eq_getElem h.1] at this
  exact this
theorem named_good {cols : List Col} {row : List Wv} (rk : Rok cols row) {told : Str} {p : Col → Bool} {r : Cr} (h : namedC cols told p = .ok r) : (∃ i, plcs cols p = [i]) ∧ r.1 = (Pt.col (at1 cols p)).d ∧ Fk r.2.1 ((row[at1 cols p]?).getD .n) ∧ at1 cols p < row.length := by
  unfold namedC at h
  split at h
  · cases h
  · rename_i i e
    have ea : at1 cols p = i := by unfold at1; rw [e]; rfl
    cases h
    obtain ⟨hi, c, hc, _⟩ := plcs_lt (cols := cols) (p := p) (i := i) (by rw [e]; exact List.mem_cons_self)
    rw [ea]
    have hr : i < row.length := by rw [rk.1]; exact hi
    refine ⟨⟨i, e⟩, rfl, ?_, hr⟩
    rw [hc, List.getElem?_eq_getElem hr]
    exact rk.2 i c _ hc (List.getElem?_eq_getElem hr)
  · cases h
theorem seqE_one {a : Except Str Cr} {xs : List Cr} (h : seqE [a] = .ok xs) : ∃ r, a = .ok r ∧ xs = [r] := by
  cases a with
  | error m => cases h
  | ok r => cases h; exact ⟨r, rfl, rfl⟩
theorem seqE_two {a b : Except Str Cr} {xs : List Cr} (h : seqE [a, b] = .ok xs) : ∃ r s, a = .ok r ∧ b = .ok s ∧ xs = [r, s] := by
  cases a with
  | error m => cases h
  | ok r =>
    cases b with
    | error m => cases h
    | ok s => cases h; exact ⟨r, s, rfl, rfl, rfl⟩
theorem seqE_three {a b c : Except Str Cr} {xs : List Cr} (h : seqE [a, b, c] = .ok xs) : ∃ r s t, a = .ok r ∧ b = .ok s ∧ c = .ok t ∧ xs = [r, s, t] := by
  cases a with
  | error m => cases h
  | ok r =>
    cases b with
    | error m => cases h
    | ok s =>
      cases c with
      | error m => cases h
      | ok t => cases h; exact ⟨r, s, t, rfl, rfl, rfl, rfl⟩
/-- the compiled has the tree's value -/
theorem good {cols : List Col} {row : List Wv} (rk : Rok cols row) : ∀ (e : Et) (r : Cr), e.ok → comp cols e = .ok r → Good cols row e r
  | .num i, r, ho, h => by
    cases h
    exact ⟨rfl, ho, rfl, trivial, trivial⟩
  | .text x, r, ho, h => by
    cases h
    exact ⟨rfl, ho, rfl, trivial, trivial⟩
  | .truth i, r, ho, h => by
    cases h
    exact ⟨rfl, ho, rfl, trivial, trivial⟩
  | .null, r, ho, h => by
    cases h
    exact ⟨rfl, trivial, rfl, trivial, trivial⟩
  | .name x, r, ho, h => by
    obtain ⟨h1, h2, h3, h4⟩ := named_good rk h
    exact ⟨h2, h3, rfl, h4, h1⟩
  | .field x y, r, ho, h => by
    obtain ⟨h1, h2, h3, h4⟩ := named_good rk h
    exact ⟨h2, h3, rfl, h4, h1⟩
  | .op1 o a, r, ho, h => by
    obtain ⟨xs, k, e1, e2, e3⟩ := opC_inv h
    obtain ⟨ra, ea, rfl⟩ := seqE_one e1
    exact node1 ho.1 (good rk a ra ho.2 ea) e2 e3
  | .op2 o a b, r, ho, h => by
    obtain ⟨xs, k, e1, e2, e3⟩ := opC_inv h
    obtain ⟨ra, rb, ea, eb, rfl⟩ := seqE_two e1
    exact node2 ho.1 (good rk a ra ho.2.1 ea) (good rk b rb ho.2.2 eb) e2 e3
  | .op3 o a b c, r, ho, h => by
    obtain ⟨xs, k, e1, e2, e3⟩ := opC_inv h
    obtain ⟨ra, rb, rc, ea, eb, ec, rfl⟩ := seqE_three e1
    exact node3 ho.1 (good rk a ra ho.2.1 ea) (good rk b rb ho.2.2.1 eb) (good rk c rc ho.2.2.2 ec) e2 e3

theorem wv_scal (a b : Wv) : scal a.v b.v = true := by cases a <;> cases b <;> rfl
def Wv.tn : Wv → String
  | .n => "NoneType"
  | .i _ => "int"
  | .s _ => "str"
def Wv.isS : Wv → Bool
  | .s _ => true
  | _ => false
def Wv.isI : Wv → Bool
  | .i _ => true
  | _ => false
theorem Wv.ty {K : PySem.W.Frag} {H : Hp} : ∀ v : Wv, TyX K H v.v (.type v.tn)
  | .n => .base .non
  | .i k => .base (.int k)
  | .s _ => .base (.str _)
theorem Wv.kS : ∀ v : Wv, kitB v.tn "str" = some v.isS
  | .n => by show kitB "NoneType" "str" = some false; decide +kernel
  | .i _ => by show kitB "int" "str" = some false; decide +kernel
  | .s _ => by show kitB "str" "str" = some true; decide +kernel
theorem Wv.kI : ∀ v : Wv, kitB v.tn "int" = some v.isI
  | .n => by show kitB "NoneType" "int" = some false; decide +kernel
  | .i _ => by show kitB "int" "int" = some true; decide +kernel
  | .s _ => by show kitB "str" "int" = some false; decide +kernel
theorem Wv.kB : ∀ v : Wv, kitB v.tn "bool" = some false
  | .n => by show kitB "NoneType" "bool" = some false; decide +kernel
  | .i _ => by show kitB "int" "bool" = some false; decide +kernel
  | .s _ => by show kitB "str" "bool" = some false; decide +kernel
def sp_wkey (K : PySem.W.Frag) : Sp := fun vs H Q _ => ∃ v : Wv, vs = [v.v] ∧ ∀ H' p, Same H H' → Dp K H' (.ref p) v.key → Q (.ref p) H'
def sp_wbnd : Sp := fun vs H Q _ => ∃ k : Int, vs = [.int k] ∧ Q (bw k).v H
def sp_wcnt : Sp := fun vs H Q _ => ∃ (o : Ow) (a b : Wv), o.want = some (.int, .int) ∧ o.ar = 2 ∧ vs = [.str o.w, a.v, b.v] ∧ Fk (some .int) a ∧ Fk (some .int) b ∧ Q (cntW o a b).v H
def sp_wlog : Sp := fun vs H Q _ => ∃ (o : Ow) (a b : Wv), (o = .and ∨ o = .or) ∧ vs = [.str o.w, a.v, b.v] ∧ Q (opW o [a, b]).v H
def sp_wcmp : Sp := fun vs H Q _ => ∃ (o : Ow) (a b : Wv) (k : Kd), o.cmp = true ∧ vs = [.str o.w, a.v, b.v] ∧ Fk (some k) a ∧ Fk (some k) b ∧ ∀ H', Same H H' → Q (cmpW o a b).v H'
def sp_wsame : Sp := fun vs H Q _ => ∃ a : Wv, vs = [a.v, a.v] ∧ Q (.bl true) H
theorem pow15w : (10 : Int) ^ (15 : Int).toNat = BD := by decide +kernel
section
variable {P : Program} {w : World} {K : PySem.W.Frag} {mg : Str → Option Value} {base : Heap} {C : Addr}
theorem ok_wkey {f : Addr} {fd : FuncData} (F : Fun K "_law_key" "_law_key" s__law_key f fd) (M : Mg mg) : FnOk P w K mg base CX0 1 f fd ["value"] (sp_wkey K) := by
  refine F.ok sc__law_key (fun vs H Q E h => ?_) (fun cdv A outer s H vs Q E hr h => ?_)
  · obtain ⟨v, rfl, _⟩ := h
    rfl
  · obtain ⟨v, rfl, q⟩ := h
    refine ⟨_, (pss_cons (ps_if (pt_cmpR op_isN (pv 0) pe_non (nomark _)) (pss_one (ps_ret (pe_tup (pa_cons pe_int (pa_cons pe_int (pa_cons pe_str pa_nil)))))) pss_nil)
      (pss_cons (ps_if (pt_val (pe_callB (isiK K) (by rfl) M.isinstance (by decide +kernel) (pa_cons (pv 0) (pa_cons (pe_bltn (v := .ty "str") (by rfl) M.str (by decide +kernel) rfl) pa_nil)))) (pss_one (ps_ret (pe_tup (pa_cons pe_int (pa_cons pe_int (pa_cons (pv 0) pa_nil)))))) pss_nil)
      (pss_one (ps_ret (pe_tup (pa_cons pe_int (pa_cons (pv 0) (pa_cons pe_str pa_nil)))))))), ?_⟩
    refine ⟨_, rfl, rfl, _, rfl, ?_⟩
    rw [wv_non]
    cases v with
    | n => exact iteT ⟨by show 3 ≤ sizeLine; decide, fun p np => q _ p (same_upd np) (.tup (.of upd_same) (.cons (.int _) (.cons (.int _) (.cons (.str _) .nil))))⟩
    | i k =>
      refine iteF ⟨_, rfl, _, _, _, _, _, rfl, .ty _, (Wv.i k).ty, kit_ty (Wv.i k).kS, _, rfl, iteF ?_⟩
      exact ⟨_, rfl, by show 3 ≤ sizeLine; decide, fun p np => q _ p (same_upd np) (.tup (.of upd_same) (.cons (.int _) (.cons (.int _) (.cons (.str _) .nil))))⟩
    | s l =>
      refine iteF ⟨_, rfl, _, _, _, _, _, rfl, .ty _, (Wv.s l).ty, kit_ty (Wv.s l).kS, _, rfl, iteT ?_⟩
      exact ⟨_, rfl, by show 3 ≤ sizeLine; decide, fun p np => q _ p (same_upd np) (.tup (.of upd_same) (.cons (.int _) (.cons (.int _) (.cons (.str _) .nil))))⟩
theorem ok_wbnd {f : Addr} {fd : FuncData} (F : Fun K "_law_bounded" "_law_bounded" s__law_bounded f fd) (M : Mg mg) : FnOk P w K mg base CX0 1 f fd ["number"] sp_wbnd := by
  refine F.ok sc__law_bounded (fun vs H Q E h => ?_) (fun cdv A outer s H vs Q E hr h => ?_)
  · obtain ⟨k, rfl, _⟩ := h
    rfl
  · obtain ⟨k, rfl, q⟩ := h
    refine ⟨_, (pss_one (ps_ret (pe_ifExp (pt_chain op_le op_le (pe_un un_neg (pe_op op_pow pe_int pe_int)) (pv 0) (pe_op op_pow pe_int pe_int)) (pv 0) pe_non))), ?_⟩
    unfold bw at q
    refine ⟨_, _, rfl, rfl, ⟨by decide, by decide, by decide⟩, _, rfl, _, rfl, _, _, rfl, rfl, _, rfl, ?_⟩
    rw [pow15w]
    by_cases h1 : -BD ≤ k
    · rw [decide_eq_true h1]
      refine iteT ⟨_, _, rfl, rfl, ⟨by decide, by decide, by decide⟩, _, _, rfl, rfl, _, rfl, ?_⟩
      rw [pow15w]
      by_cases h2 : k ≤ BD
      · rw [if_pos ⟨h1, h2⟩] at q
        rw [decide_eq_true h2]
        exact iteT ⟨_, rfl, q⟩
      · rw [if_neg (fun z => h2 z.2)] at q
        rw [decide_eq_false h2]
        exact iteF q
    · rw [if_neg (fun z => h1 z.1)] at q
      rw [decide_eq_false h1]
      exact iteF ⟨_, rfl, iteF q⟩
theorem ok_wcnt {f : Addr} {fd : FuncData} (F : Fun K "_law_count" "_law_count" s__law_count f fd) (M : Mg mg) (c__law_bounded : Cl P w K mg base 1 "_law_bounded" sp_wbnd) : FnOk P w K mg base CX0 2 f fd ["word", "first", "second"] sp_wcnt := by
  refine F.ok sc__law_count (fun vs H Q E h => ?_) (fun cdv A outer s H vs Q E hr h => ?_)
  · obtain ⟨o, a, b, _, _, rfl, _⟩ := h
    rfl
  · obtain ⟨o, a, b, ho, har, rfl, ha, hb, q⟩ := h
    refine ⟨_, (pss_cons (ps_if (PW.pt (pw_or (pt_cmpR op_isN (pv 1) pe_non (nomark _)) (pw_or1 (pt_cmpR op_isN (pv 2) pe_non (nomark _))))) (pss_one (ps_ret pe_non)) pss_nil)
      (pss_cons (ps_if (pt_cmpR op_eq (pv 0) pe_str (nomark _)) (pss_one (ps_ret (pe_u c__law_bounded hr (by first | decide | omega) (by rfl) (pa_cons (pe_op op_add (pv 1) (pv 2)) pa_nil)))) pss_nil)
      (pss_cons (ps_if (pt_cmpR op_eq (pv 0) pe_str (nomark _)) (pss_one (ps_ret (pe_u c__law_bounded hr (by first | decide | omega) (by rfl) (pa_cons (pe_op op_sub (pv 1) (pv 2)) pa_nil)))) pss_nil)
      (pss_cons (ps_if (pt_cmpR op_eq (pv 0) pe_str (nomark _)) (pss_one (ps_ret (pe_u c__law_bounded hr (by first | decide | omega) (by rfl) (pa_cons (pe_op op_mul (pv 1) (pv 2)) pa_nil)))) pss_nil)
      (pss_cons (ps_if (pt_cmpR op_lt (pv 2) pe_int (nomark _)) (pss_one (ps_ret pe_non)) pss_nil)
      (pss_one (ps_ret (pe_ifExp (pt_cmpR op_eq (pv 0) pe_str (nomark _)) (pe_op op_fdivW (pv 1) (pv 2)) (pe_op op_mod (pe_callTy call_int1 (by rfl) M.int (by decide +kernel) (pa_cons (pv 1) pa_nil)) (pv 2)))))))))), ?_⟩
    refine ⟨_, rfl, rfl, _, rfl, ?_⟩
    rw [wv_non]
    cases a with
    | n => exact iteT (iteT q)
    | s x => exact ha.elim
    | i j =>
    refine iteF ⟨_, rfl, rfl, _, rfl, ?_⟩
    rw [wv_non]
    cases b with
    | n => exact iteT q
    | s x => exact hb.elim
    | i l =>
    have hj : -(2 ^ 60 : Int) < j ∧ j < 2 ^ 60 := by
      have h : -BD ≤ j ∧ j ≤ BD := ha
      unfold BD at h
      omega
    have hl : -(2 ^ 60 : Int) < l ∧ l < 2 ^ 60 := by
      have h : -BD ≤ l ∧ l ≤ BD := hb
      unfold BD at h
      omega
    have dec : ∀ s : String, decide (V.str o.w = V.str (Str.ofString s)) = true ∨ decide (V.str o.w = V.str (Str.ofString s)) = false := fun s => by cases decide (V.str o.w = V.str (Str.ofString s)) <;> simp
    refine iteF ⟨_, rfl, rfl, _, rfl, ?_⟩
    by_cases h1 : o = .add
    · subst h1
      rw [show decide (V.str Ow.add.w = V.str "+") = true from weq _]
      exact iteT ⟨_, rfl, _, rfl, _, _, rfl, rfl, _, rfl, q⟩
    rw [show decide (V.str o.w = V.str "+") = false by cases o <;> first | exact absurd rfl h1 | exact wne _ _ (by decide)]
    refine iteF ⟨_, rfl, rfl, _, rfl, ?_⟩
    by_cases h2 : o = .sub
    · subst h2
      rw [show decide (V.str Ow.sub.w = V.str "-") = true from weq _]
      exact iteT ⟨_, rfl, _, rfl, _, _, rfl, rfl, _, rfl, q⟩
    rw [show decide (V.str o.w = V.str "-") = false by cases o <;> first | exact absurd rfl h2 | exact wne _ _ (by decide)]
    refine iteF ⟨_, rfl, rfl, _, rfl, ?_⟩
    by_cases h3 : o = .mul
    · subst h3
      rw [show decide (V.str Ow.mul.w = V.str "*") = true from weq _]
      exact iteT ⟨_, rfl, _, rfl, _, _, rfl, rfl, .inl ⟨by omega, by omega⟩, _, rfl, q⟩
    rw [show decide (V.str o.w = V.str "*") = false by cases o <;> first | exact absurd rfl h3 | exact wne _ _ (by decide)]
    refine iteF ⟨_, rfl, _, _, rfl, rfl, _, rfl, ?_⟩
    by_cases h4 : l < 1
    · rw [decide_eq_true h4]
      refine iteT ?_
      have e : cntW o (.i j) (.i l) = .n := by
        cases o <;> first | (cases har; done) | (cases ho; done) | exact absurd rfl h1 | exact absurd rfl h2 | exact absurd rfl h3 | exact if_pos h4
      rw [e] at q
      exact q
    · rw [decide_eq_false h4]
      refine iteF ⟨_, rfl, rfl, _, rfl, ?_⟩
      by_cases h5 : o = .div
      · subst h5
        rw [show cntW .div (.i j) (.i l) = .i (j / l) from if_neg h4] at q
        rw [show decide (V.str Ow.div.w = V.str "div") = true from weq _]
        exact iteT ⟨_, rfl, _, rfl, _, _, rfl, rfl, wide_div (b := 60) (by omega) (by omega) (by decide) (by decide), q⟩
      · obtain rfl : o = .mod := by cases o <;> first | rfl | (cases har; done) | (cases ho; done) | exact absurd rfl h1 | exact absurd rfl h2 | exact absurd rfl h3 | exact absurd rfl h5
        rw [show cntW .mod (.i j) (.i l) = .i (j % l) from if_neg h4] at q
        rw [show decide (V.str Ow.mod.w = V.str "div") = false from wne _ _ (by decide)]
        exact iteF ⟨_, rfl, .inl ⟨_, rfl, _, rfl, _, _, rfl, rfl, by omega, q⟩⟩
theorem ok_wlog {f : Addr} {fd : FuncData} (F : Fun K "_law_logic" "_law_logic" s__law_logic f fd) (M : Mg mg) : FnOk P w K mg base CX0 2 f fd ["word", "first", "second"] sp_wlog := by
  refine F.ok sc__law_logic (fun vs H Q E h => ?_) (fun cdv A outer s H vs Q E hr h => ?_)
  · obtain ⟨o, a, b, _, rfl, _⟩ := h
    rfl
  · obtain ⟨o, a, b, ho, rfl, q⟩ := h
    refine ⟨_, (pss_cons (ps_if (pt_cmpR op_eq (pv 0) pe_str (nomark _)) (pss_cons (ps_if (PW.pt (pw_or (pt_cmpR op_eq (pv 1) pe_int (nomark _)) (pw_or1 (pt_cmpR op_eq (pv 2) pe_int (nomark _))))) (pss_one (ps_ret pe_int)) pss_nil)
      (pss_one (ps_ret (pe_ifExp (PW.pt (pw_or (pt_cmpR op_isN (pv 1) pe_non (nomark _)) (pw_or1 (pt_cmpR op_isN (pv 2) pe_non (nomark _))))) pe_non pe_int)))) pss_nil)
      (pss_cons (ps_if (PW.pt (pw_or (pt_cmpR op_eq (pv 1) pe_int (nomark _)) (pw_or1 (pt_cmpR op_eq (pv 2) pe_int (nomark _))))) (pss_one (ps_ret pe_int)) pss_nil)
      (pss_one (ps_ret (pe_ifExp (PW.pt (pw_or (pt_cmpR op_isN (pv 1) pe_non (nomark _)) (pw_or1 (pt_cmpR op_isN (pv 2) pe_non (nomark _))))) pe_non pe_int))))), ?_⟩
    refine ⟨_, rfl, rfl, _, rfl, ?_⟩
    rcases ho with rfl | rfl
    · rw [show decide (V.str Ow.and.w = V.str "or") = false from wne _ _ (by decide)]
      have q : Q (lgW 0 a b).v H := q
      unfold lgW at q
      refine iteF ⟨_, rfl, wv_scal a (.i 0), _, rfl, ?_⟩
      rw [show decide (a.v = V.int 0) = decide (a = .i 0) from wv_dec a (.i 0)]
      by_cases h1 : a = .i 0
      · rw [if_pos h1] at q
        rw [decide_eq_true h1]
        exact iteT (iteT q)
      rw [if_neg h1] at q
      rw [decide_eq_false h1]
      refine iteF ⟨_, rfl, wv_scal b (.i 0), _, rfl, ?_⟩
      rw [show decide (b.v = V.int 0) = decide (b = .i 0) from wv_dec b (.i 0)]
      by_cases h2 : b = .i 0
      · rw [if_pos h2] at q
        rw [decide_eq_true h2]
        exact iteT q
      rw [if_neg h2] at q
      rw [decide_eq_false h2]
      refine iteF ⟨_, rfl, rfl, _, rfl, ?_⟩
      rw [wv_non]
      by_cases h3 : a = .n
      · rw [if_pos h3] at q
        rw [decide_eq_true h3]
        exact iteT (iteT q)
      rw [if_neg h3] at q
      rw [decide_eq_false h3]
      refine iteF ⟨_, rfl, rfl, _, rfl, ?_⟩
      rw [wv_non]
      by_cases h4 : b = .n
      · rw [if_pos h4] at q
        rw [decide_eq_true h4]
        exact iteT q
      rw [if_neg h4] at q
      rw [decide_eq_false h4]
      exact iteF q
    · rw [show decide (V.str Ow.or.w = V.str "or") = true from weq _]
      have q : Q (lgW 1 a b).v H := q
      unfold lgW at q
      refine iteT ⟨_, rfl, wv_scal a (.i 1), _, rfl, ?_⟩
      rw [show decide (a.v = V.int 1) = decide (a = .i 1) from wv_dec a (.i 1)]
      by_cases h1 : a = .i 1
      · rw [if_pos h1] at q
        rw [decide_eq_true h1]
        exact iteT (iteT q)
      rw [if_neg h1] at q
      rw [decide_eq_false h1]
      refine iteF ⟨_, rfl, wv_scal b (.i 1), _, rfl, ?_⟩
      rw [show decide (b.v = V.int 1) = decide (b = .i 1) from wv_dec b (.i 1)]
      by_cases h2 : b = .i 1
      · rw [if_pos h2] at q
        rw [decide_eq_true h2]
        exact iteT q
      rw [if_neg h2] at q
      rw [decide_eq_false h2]
      refine iteF ⟨_, rfl, rfl, _, rfl, ?_⟩
      rw [wv_non]
      by_cases h3 : a = .n
      · rw [if_pos h3] at q
        rw [decide_eq_true h3]
        exact iteT (iteT q)
      rw [if_neg h3] at q
      rw [decide_eq_false h3]
      refine iteF ⟨_, rfl, rfl, _, rfl, ?_⟩
      rw [wv_non]
      by_cases h4 : b = .n
      · rw [if_pos h4] at q
        rw [decide_eq_true h4]
        exact iteT q
      rw [if_neg h4] at q
      rw [decide_eq_false h4]
      exact iteF q
theorem six_val (o : Ow) (hc : o.cmp = true) (a b : Wv) : valV (mergeK [] [((.inr "<" : Key), V.bl (cmpB .lt a b)), (.inr "<=", .bl (cmpB .le a b)), (.inr "=", .bl (cmpB .eq a b)), (.inr "!=", .bl (cmpB .ne a b)), (.inr ">=", .bl (cmpB .ge a b)), (.inr ">", .bl (cmpB .gt a b))]) (.inr o.w) = some (.bl (cmpB o a b)) := by
  cases o <;> first | (cases hc; done) | rfl
theorem ok_wcmp {f : Addr} {fd : FuncData} (F : Fun K "_law_compare" "_law_compare" s__law_compare f fd) (M : Mg mg) (c__law_key : Cl P w K mg base 1 "_law_key" (sp_wkey K)) : FnOk P w K mg base CX0 2 f fd ["word", "first", "second"] sp_wcmp := by
  refine F.ok sc__law_compare (fun vs H Q E h => ?_) (fun cdv A outer s H vs Q E hr h => ?_)
  · obtain ⟨o, a, b, k, _, rfl, _⟩ := h
    rfl
  · obtain ⟨o, a, b, k, hc, rfl, ha, hb, q⟩ := h
    refine ⟨_, (pss_cons (ps_if (PW.pt (pw_or (pt_cmpR op_isN (pv 1) pe_non (nomark _)) (pw_or1 (pt_cmpR op_isN (pv 2) pe_non (nomark _))))) (pss_one (ps_ret pe_non)) pss_nil)
      (pss_cons (ps_set (i := 3) sc__law_compare.nd rfl (.inl rfl) (pe_u c__law_key hr (by first | decide | omega) (by rfl) (pa_cons (pv 1) pa_nil)))
      (pss_cons (ps_set (i := 4) sc__law_compare.nd rfl (.inl rfl) (pe_u c__law_key hr (by first | decide | omega) (by rfl) (pa_cons (pv 2) pa_nil)))
      (pss_cons (ps_set (i := 5) sc__law_compare.nd rfl (.inl rfl) (pe_disp (pps_cons pe_str (pe_cmpR (op_ltA K hr.units) (pv 3) (pv 4) (nomark _)) (pps_cons pe_str (pe_cmpR (op_leA K hr.units) (pv 3) (pv 4) (nomark _)) (pps_cons pe_str (pe_cmpR (eqDK K hr.units) (pv 3) (pv 4) (nomark _)) (pps_cons pe_str (pe_cmpR (neDK K hr.units) (pv 3) (pv 4) (nomark _)) (pps_cons pe_str (pe_cmpR (op_geA K hr.units) (pv 3) (pv 4) (nomark _)) (pps_cons pe_str (pe_cmpR (op_gtA K hr.units) (pv 3) (pv 4) (nomark _)) pps_nil)))))) (by rfl) (by rfl) (fun z => by cases z) (by decide)))
      (pss_one (ps_ret (pe_callTy call_int1 (by rfl) M.int (by decide +kernel) (pa_cons (pe_dget (hu_of hr) (pv 5) (pv 0) (fun _ _ => rfl)) pa_nil)))))))), ?_⟩
    unfold cmpW at q
    refine ⟨_, rfl, rfl, _, rfl, ?_⟩
    rw [wv_non]
    by_cases h1 : a = .n
    · rw [if_pos h1] at q
      rw [decide_eq_true h1]
      exact iteT (iteT (q H (.refl H)))
    rw [if_neg h1] at q
    rw [decide_eq_false h1]
    refine iteF ⟨_, rfl, rfl, _, rfl, ?_⟩
    rw [wv_non]
    by_cases h2 : b = .n
    · rw [if_pos h2] at q
      rw [decide_eq_true h2]
      exact iteT (q H (.refl H))
    rw [if_neg h2] at q
    rw [decide_eq_false h2]
    refine iteF ⟨_, rfl, a, rfl, fun H1 p1 s1 d1 => ?_⟩
    refine ⟨_, rfl, b, rfl, fun H2 p2 s2 d2 => ?_⟩
    have d1 := Dp.ext s2 _ _ d1
    have sa := key_shaped ha
    have sb := key_shaped hb
    have al := key_alike ha hb h1 h2
    have nk : a.key ≠ .none := by cases a <;> exact fun z => by cases z
    refine fun D nD => ?_
    have sD := same_upd nD (o := .dK [])
    have e1 := Dp.ext sD _ _ d1
    have e2 := Dp.ext sD _ _ d2
    refine ⟨_, rfl, _, rfl, _, _, e1, e2, sa, sb, al, nk, ?_⟩
    refine ⟨_, rfl, _, rfl, _, _, e1, e2, sa, sb, al, nk, ?_⟩
    refine ⟨_, rfl, _, rfl, _, _, e1, e2, sa, sb, ?_⟩
    refine ⟨_, rfl, _, rfl, _, _, e1, e2, sa, sb, ?_⟩
    refine ⟨_, rfl, _, rfl, _, _, e1, e2, sa, sb, al, nk, ?_⟩
    refine ⟨_, rfl, _, rfl, _, _, e1, e2, sa, sb, al, nk, ?_⟩
    rw [key_eqv]
    refine ⟨upd_same, [((.inr "<" : Key), V.bl (cmpB .lt a b)), (.inr "<=", .bl (cmpB .le a b)), (.inr "=", .bl (cmpB .eq a b)), (.inr "!=", .bl (cmpB .ne a b)), (.inr ">=", .bl (cmpB .ge a b)), (.inr ">", .bl (cmpB .gt a b))], rfl, by show 6 ≤ 15; decide, ?_⟩
    refine ⟨_, rfl, _, rfl, D, .bl (cmpB o a b), rfl, .inl ⟨_, .inr o.w, .of upd_same, rfl, (six_val o hc a b).symm⟩, .inr ⟨_, rfl, ?_⟩⟩
    refine q _ ((s1.trans s2).trans fun x ob hx => ?_)
    rw [upd_ne (ne_of_none hx nD), upd_ne (ne_of_none hx nD)]
    exact hx
theorem ok_wsame {f : Addr} {fd : FuncData} (F : Fun K "_law_same_value" "_law_same_value" s__law_same_value f fd) (M : Mg mg) : FnOk P w K mg base CX0 1 f fd ["actual", "due"] sp_wsame := by
  refine F.ok sc__law_same_value (fun vs H Q E h => ?_) (fun cdv A outer s H vs Q E hr h => ?_)
  · obtain ⟨a, rfl, _⟩ := h
    rfl
  · obtain ⟨a, rfl, q⟩ := h
    refine ⟨_, (pss_cons (ps_if (pt_cmpR op_isN (pv 1) pe_non (nomark _)) (pss_one (ps_ret (pe_cmpR op_isN (pv 0) pe_non (nomark _)))) pss_nil)
      (pss_one (ps_ret (pe_and (pe_cmpR op_eq (pe_callB (isiK K) (by rfl) M.isinstance (by decide +kernel) (pa_cons (pv 0) (pa_cons (pe_bltn (v := .ty "str") (by rfl) M.str (by decide +kernel) rfl) pa_nil))) (pe_callB (isiK K) (by rfl) M.isinstance (by decide +kernel) (pa_cons (pv 1) (pa_cons (pe_bltn (v := .ty "str") (by rfl) M.str (by decide +kernel) rfl) pa_nil))) (nomark _)) (pe_and (pe_not (pe_callB (isiK K) (by rfl) M.isinstance (by decide +kernel) (pa_cons (pv 0) (pa_cons (pe_bltn (v := .ty "bool") (by rfl) M.bool (by decide +kernel) rfl) pa_nil)))) (pe_one (pe_cmpR op_eq (pv 0) (pv 1) (nomark _)))))))), ?_⟩
    refine ⟨_, rfl, rfl, _, rfl, ?_⟩
    rw [wv_non]
    by_cases h1 : a = .n
    · rw [decide_eq_true h1]
      refine iteT ⟨_, rfl, rfl, ?_⟩
      rw [wv_non, decide_eq_true h1]
      exact q
    rw [decide_eq_false h1]
    refine iteF ⟨_, rfl, _, _, _, _, _, rfl, .ty _, a.ty, kit_ty a.kS, _, rfl, _, _, _, _, _, rfl, .ty _, a.ty, kit_ty a.kS, rfl, ?_⟩
    refine ⟨_, rfl, ?_⟩
    rw [decide_eq_true rfl]
    refine iteT ⟨_, rfl, _, _, _, _, _, rfl, .ty _, a.ty, kit_ty a.kB, _, rfl, _, rfl, iteT ⟨_, rfl, _, rfl, wv_scal a a, ?_⟩⟩
    rw [decide_eq_true rfl]
    exact q
end

/-! ### the law's columns and rows -/
def letW (m : Nat) : Str := ⟨#[97 + m]⟩
theorem abc6 : ∀ m : Nat, m < 6 → (Str.ofString "abcdef").cps.toList[m]? = some (97 + m) := fun m h => (by decide +kernel : ∀ m : Fin 6, (Str.ofString "abcdef").cps.toList[m.val]? = some (97 + m.val)) ⟨m, h⟩
theorem letW_inj {a b : Nat} (h : letW a = letW b) : a = b := by
  have e := congrArg Array.toList (Str.mk.inj h)
  have := (List.cons.inj e).1
  omega
theorem letW_name : ∀ m : Nat, m < 6 → (Et.name (letW m)).ok := fun m h => (by decide +kernel : ∀ m : Fin 6, (letW m.val).length ≤ 100 ∧ (tld [letW m.val]).length ≤ 900 ∧ PyData.strOk (letW m.val) = true) ⟨m, h⟩
theorem letW_field : ∀ (m : Nat) (b : Bool), m < 6 → (Et.field (if b = true then Str.ofString "t" else Str.ofString "u") (letW m)).ok := fun m b h => (by decide +kernel : ∀ (m : Fin 6) (b : Bool), (if b = true then Str.ofString "t" else Str.ofString "u").length ≤ 100 ∧ (letW m.val).length ≤ 100 ∧ (tld [if b = true then Str.ofString "t" else Str.ofString "u", letW m.val]).length ≤ 900 ∧ PyData.strOk (if b = true then Str.ofString "t" else Str.ofString "u") = true ∧ PyData.strOk (letW m.val) = true) ⟨m, h⟩ b
/-- the law's i-th column -/
def Ci (i : Nat) (c : Col) : Prop := c.src = some (if decide (i < 3) = true then Str.ofString "t" else Str.ofString "u") ∧ (∃ m, m < 6 ∧ c.nm = letW m ∧ (m = i ∨ (3 ≤ i ∧ m + 3 = i))) ∧ ∃ k, c.kd = some k
theorem ci_cok {cols : List Col} (hl : cols.length ≤ 6) (h : ∀ i c, cols[i]? = some c → Ci i c) : Cok cols := by
  refine ⟨by omega, fun c hc => ?_, fun c hc => ?_, fun i j ci cj hi hj e1 e2 => ?_⟩
  · obtain ⟨i, hi, rfl⟩ := List.getElem_of_mem hc
    obtain ⟨h1, ⟨m, h2, h3, _⟩, _⟩ := h i _ (List.getElem?_eq_getElem hi)
    have hn := letW_name m h2
    have hf := letW_field m (decide (i < 3)) h2
    rw [← h3] at hn hf
    refine ⟨⟨hn.2.2, fun x hx => ?_⟩, hn, fun x hx => ?_⟩
    · rw [h1] at hx
      cases hx
      exact hf.2.2.2.1
    · rw [h1] at hx
      cases hx
      exact hf
  · obtain ⟨i, hi, rfl⟩ := List.getElem_of_mem hc
    exact (h i _ (List.getElem?_eq_getElem hi)).2.2
  · obtain ⟨a1, ⟨m, a2, a3, a4⟩, _⟩ := h i ci hi
    obtain ⟨b1, ⟨m', b2, b3, b4⟩, _⟩ := h j cj hj
    have em : m = m' := letW_inj (a3.symm.trans (e2.trans b3))
    have hs : decide (i < 3) = decide (j < 3) := by
      have := a1.symm.trans (e1.trans b1)
      have := Option.some.inj this
      cases hx : decide (i < 3) <;> cases hy : decide (j < 3) <;> rw [hx, hy] at this <;> first | rfl | exact absurd this (by decide +kernel)
    have hs := decide_eq_decide.mp hs
    have hi6 := (List.getElem?_eq_some_iff.mp hi).1
    have hj6 := (List.getElem?_eq_some_iff.mp hj).1
    omega
theorem tu6 : ∀ i : Nat, i < 6 → ([V.str "t", V.str "u"])[i / 3]? = some (.str (if decide (i < 3) = true then Str.ofString "t" else Str.ofString "u")) := fun i h => (by decide +kernel : ∀ i : Fin 6, ([V.str "t", V.str "u"])[i.val / 3]? = some (.str (if decide (i.val < 3) = true then Str.ofString "t" else Str.ofString "u"))) ⟨i, h⟩
def sp_wcols (K : PySem.W.Frag) : Sp := fun vs H Q _ => ∃ (d c : Addr), vs = [.ref d] ∧ Dr H d c ∧ ∀ H' l ys cols, Fd d H H' → Dr H' d c → H' l = some (.lst ys) → l ≠ d → DpAll K H' ys (cols.map Col.d) → Cok cols → Q (.ref l) H'
def sp_wcell : Sp := fun vs H Q _ => ∃ (d c : Addr) (k : Kd), vs = [.ref d, .str (Str.ofString k.s)] ∧ Dr H d c ∧ ∀ H' v, Fd d H H' → Dr H' d c → Fk (some k) v → Q v.v H'
def sp_wrow (K : PySem.W.Frag) : Sp := fun vs H Q _ => ∃ (d c l : Addr) (ks : List Kd), vs = [.ref d, .ref l] ∧ Dr H d c ∧ l ≠ d ∧ H l = some (.lst (ks.map fun k => V.str (Str.ofString k.s))) ∧ ks.length ≤ 10 ∧ ∀ H' p (row : List Wv), Fd d H H' → Dr H' d c → SqT K H' p (row.map Wv.v) → row.length = ks.length → (∀ (i : Nat) k v, ks[i]? = some k → row[i]? = some v → Fk (some k) v) → Q (.ref p) H'
section
variable {P : Program} {w : World} {K : PySem.W.Frag} {mg : Str → Option Value} {base : Heap} {C : Addr}
theorem ok_wcell {f : Addr} {fd : FuncData} (F : Fun K "_law_cell_value" "_law_cell_value" s__law_cell_value f fd) (M : Mg mg) (c__law_next : Cl P w K mg base 1 "_law_next" sp_next) : FnOk P w K mg base CX0 2 f fd ["draw", "kind"] sp_wcell := by
  refine F.ok sc__law_cell_value (fun vs H Q E h => ?_) (fun cdv A outer s H vs Q E hr h => ?_)
  · obtain ⟨d, c, k, rfl, _⟩ := h
    rfl
  obtain ⟨d, c, k, rfl, dr, q⟩ := h
  refine ⟨_, (pss_cons (ps_if (pt_cmpR op_eq (pe_u c__law_next hr (by first | decide | omega) (by rfl) (pa_cons (pv 0) (pa_cons pe_int pa_nil))) pe_int (nomark _)) (pss_one (ps_ret pe_non)) pss_nil)
      (pss_cons (ps_if (pt_cmpR op_eq (pv 1) pe_str (nomark _)) (pss_one (ps_ret (pe_ix (ix_listK K) (pe_lst (pa_cons pe_int (pa_cons pe_int (pa_cons pe_int (pa_cons pe_int (pa_cons (pe_un un_neg pe_int) (pa_cons pe_int pa_nil))))))) (pe_u c__law_next hr (by first | decide | omega) (by rfl) (pa_cons (pv 0) (pa_cons pe_int pa_nil))) (fun _ _ => rfl)))) pss_nil)
      (pss_cons (ps_if (pt_cmpR op_eq (pv 1) pe_str (nomark _)) (pss_one (ps_ret (pe_ix (ix_listK K) (pe_lst (pa_cons pe_str (pa_cons pe_str (pa_cons pe_str (pa_cons pe_str (pa_cons pe_str pa_nil)))))) (pe_u c__law_next hr (by first | decide | omega) (by rfl) (pa_cons (pv 0) (pa_cons pe_int pa_nil))) (fun _ _ => rfl)))) pss_nil)
      (pss_one (ps_ret (pe_u c__law_next hr (by first | decide | omega) (by rfl) (pa_cons (pv 0) (pa_cons pe_int pa_nil)))))))), ?_⟩
  refine ⟨_, rfl, d, c, 6, rfl, dr, by decide, by decide, fun H1 r f1 _ dr1 _ _ => ⟨rfl, _, rfl, ite2 (fun _ => q _ .n f1 dr1 (fk_n _)) (fun _ => ?_)⟩⟩
  refine ⟨_, rfl, rfl, _, rfl, ?_⟩
  rw [show decide (V.str (Str.ofString k.s) = V.str (Str.ofString "int")) = decide (k = .int) from kdS_dec k .int]
  by_cases h1 : k = .int
  · subst h1
    refine iteT ⟨_, rfl, by show 6 ≤ sizeLine; decide, fun l nl => ?_⟩
    have s0 := same_upd nl (o := .lst (([0, 1, 2, 3, -1, 1000000000000000] : List Int).map V.int))
    have el : (upd H1 l (.lst (([0, 1, 2, 3, -1, 1000000000000000] : List Int).map V.int))) l = some (.lst (([0, 1, 2, 3, -1, 1000000000000000] : List Int).map V.int)) := upd_same
    have nld := dr_ne dr1 (fun _ _ h => h) nl
    show tCall sp_next [] E0 _ _ (upd H1 l (.lst (([0, 1, 2, 3, -1, 1000000000000000] : List Int).map V.int))) _
    generalize upd H1 l (.lst (([0, 1, 2, 3, -1, 1000000000000000] : List Int).map V.int)) = H2 at s0 el ⊢
    have dr2 := dr1.ext s0
    refine ⟨_, rfl, d, c, 6, rfl, dr2, by decide, by decide, fun H3 r f3 _ dr3 r0 r1 => ?_⟩
    obtain ⟨r, rfl⟩ := Int.eq_ofNat_of_zero_le r0
    have hr6 : r < ([0, 1, 2, 3, -1, 1000000000000000] : List Int).length := by show r < 6; omega
    have hx := List.getElem?_eq_getElem hr6
    generalize ([0, 1, 2, 3, -1, 1000000000000000] : List Int)[r] = x at hx
    have hm := List.mem_of_getElem? hx
    refine ⟨l, _, _, .int x, rfl, rfl, .of (f3 _ _ nld el), atI_nat (by rw [List.getElem?_map, hx]; rfl), ?_⟩
    refine q _ (.i x) ((f1.trans (Fd.of s0)).trans f3) dr3 ?_
    simp only [List.mem_cons, List.not_mem_nil, or_false] at hm
    show -1000000000000000 ≤ x ∧ x ≤ 1000000000000000
    omega
  rw [decide_eq_false h1]
  refine iteF ⟨_, rfl, rfl, _, rfl, ?_⟩
  rw [show decide (V.str (Str.ofString k.s) = V.str (Str.ofString "text")) = decide (k = .text) from kdS_dec k .text]
  by_cases h2 : k = .text
  · subst h2
    refine iteT ⟨by show 5 ≤ sizeLine; decide, fun l nl => ?_⟩
    have s0 := same_upd nl (o := .lst (([Str.ofString "", Str.ofString "a", Str.ofString "b", Str.ofString "ab", Str.ofString "ba"]).map V.str))
    have el : (upd H1 l (.lst (([Str.ofString "", Str.ofString "a", Str.ofString "b", Str.ofString "ab", Str.ofString "ba"]).map V.str))) l = some (.lst (([Str.ofString "", Str.ofString "a", Str.ofString "b", Str.ofString "ab", Str.ofString "ba"]).map V.str)) := upd_same
    have nld := dr_ne dr1 (fun _ _ h => h) nl
    show tCall sp_next [] E0 _ _ (upd H1 l (.lst (([Str.ofString "", Str.ofString "a", Str.ofString "b", Str.ofString "ab", Str.ofString "ba"]).map V.str))) _
    generalize upd H1 l (.lst (([Str.ofString "", Str.ofString "a", Str.ofString "b", Str.ofString "ab", Str.ofString "ba"]).map V.str)) = H2 at s0 el ⊢
    have dr2 := dr1.ext s0
    refine ⟨_, rfl, d, c, 5, rfl, dr2, by decide, by decide, fun H3 r f3 _ dr3 r0 r1 => ?_⟩
    obtain ⟨r, rfl⟩ := Int.eq_ofNat_of_zero_le r0
    have hr5 : r < ([Str.ofString "", Str.ofString "a", Str.ofString "b", Str.ofString "ab", Str.ofString "ba"]).length := by show r < 5; omega
    obtain ⟨x, hx⟩ : ∃ x, ([Str.ofString "", Str.ofString "a", Str.ofString "b", Str.ofString "ab", Str.ofString "ba"])[r]? = some x := ⟨_, List.getElem?_eq_getElem hr5⟩
    refine ⟨l, _, _, .str x, rfl, rfl, .of (f3 _ _ nld el), atI_nat (by rw [List.getElem?_map, hx]; rfl), ?_⟩
    refine q _ (.s x) ((f1.trans (Fd.of s0)).trans f3) dr3 ?_
    have hm := List.mem_of_getElem? hx
    simp only [List.mem_cons, List.not_mem_nil, or_false] at hm
    show x.length ≤ 100 ∧ PyData.strOk x = true
    rcases hm with rfl | rfl | rfl | rfl | rfl <;> exact ⟨by decide +kernel, by decide +kernel⟩
  rw [decide_eq_false h2]
  obtain rfl : k = .truth := by cases k <;> first | rfl | exact absurd rfl h1 | exact absurd rfl h2
  refine iteF ⟨_, rfl, d, c, 2, rfl, dr1, by decide, by decide, fun H2 r f2 _ dr2 r0 r1 => ?_⟩
  exact q _ (.i r) (f1.trans f2) dr2 (by show r = 0 ∨ r = 1; omega)
theorem ok_wrow {f : Addr} {fd : FuncData} (F : Fun K "_law_row" "_law_row" s__law_row f fd) (M : Mg mg) (c__law_cell_value : Cl P w K mg base 2 "_law_cell_value" sp_wcell) : FnOk P w K mg base CX0 3 f fd ["draw", "kinds"] (sp_wrow K) := by
  refine F.ok sc__law_row (fun vs H Q E h => ?_) (fun cdv A outer s H vs Q E hr h => ?_)
  · obtain ⟨d, c, l, ks, rfl, _⟩ := h
    rfl
  obtain ⟨d, c, l, ks, rfl, dr, nld, el, lks, q⟩ := h
  refine ⟨_, (pss_one (ps_ret (pe_callTy (tupleK K) (by rfl) M.tuple (by decide +kernel) (pa_cons (pe_lc (own := [("kind", 2)]) (g := gName 2) (tt := tYes) rfl sc__law_row.nd (pi_list (pv 1)) (blkOk_by (N := N__law_row) (sc := defScope s__law_row) (by decide +kernel)) (fun _ _ _ _ _ => (pg_name (i := 2) sc__law_row.nd rfl (.inl rfl))) (fun _ _ _ _ _ => pts_nil) (fun _ _ _ _ _ => (pe_u c__law_cell_value hr (by first | decide | omega) (by rfl) (pa_cons (pv 0) (pa_cons (pv 2) pa_nil))))) pa_nil)))), ?_⟩
  refine ⟨_, rfl, l, rfl, ⟨_, .of el⟩, fun D nD => ?_⟩
  refine lc_list (K := K) (a := l) (xs := ks.map fun k => V.str (Str.ofString k.s)) (fun i Hi => Fd d H Hi ∧ D ≠ d ∧ D ≠ c ∧ Dr Hi d c ∧ ∃ row : List Wv, row.length = i ∧ Hi D = some (.lst (row.map Wv.v)) ∧ ∀ (j : Nat) k v, ks[j]? = some k → row[j]? = some v → Fk (some k) v) ⟨Fd.new nD, dr.nd nD, dr.nc nD, dr.ext (same_upd nD), [], rfl, upd_same, fun j k v _ h => by simp at h⟩ (fun i Hi _ hp => .of (hp.1 _ _ nld el)) (fun i y Hi hy hp => ?_) (fun HE hp => ?_)
  · obtain ⟨fi, n1, n2, dri, row, lr, eD, hrow⟩ := hp
    rw [List.getElem?_map] at hy
    obtain ⟨k, hk, rfl⟩ := Option.map_eq_some_iff.mp hy
    have hi := (List.getElem?_eq_some_iff.mp hk).1
    refine ⟨rfl, ?_⟩
    refine ⟨_, rfl, _, rfl, d, c, k, rfl, dri, fun H' v f' dr' hv => ?_⟩
    refine ⟨_, f' _ _ n1 eD, ?_, fun b o nb eb => ?_, n1, n2, dr'.upd n1 n2, row ++ [v], ?_, ?_, fun j k' v' hk' hv' => ?_⟩
    · rw [List.length_map, lr]
      exact Nat.lt_of_lt_of_le (m := 11) (by omega) (by decide)
    · rw [upd_ne (ne_of_none eb nD)]
      exact f' _ _ nb (fi _ _ nb eb)
    · rw [List.length_append, lr]
      rfl
    · rw [upd_same, List.map_append]
      rfl
    · by_cases hj : j < row.length
      · rw [List.getElem?_append_left hj] at hv'
        exact hrow j k' v' hk' hv'
      · have hj2 := (List.getElem?_eq_some_iff.mp hv').1
        rw [List.length_append] at hj2
        have ej : j = row.length := by
          have : j < row.length + 1 := hj2
          omega
        subst ej
        rw [List.getElem?_append_right (Nat.le_refl _), Nat.sub_self] at hv'
        cases hv'
        rw [lr] at hk'
        cases hk.symm.trans hk'
        exact hv
  · obtain ⟨fE, n1, n2, drE, row, lr, eD, hrow⟩ := hp
    rw [List.length_map] at lr
    refine ⟨D, _, rfl, .inl ⟨.of eD, fun T nT => ?_⟩⟩
    exact q _ T row (fE.trans (Fd.new nT)) (drE.ext (same_upd nT)) (.of upd_same) lr hrow
theorem ok_wcols {f : Addr} {fd : FuncData} (F : Fun K "_law_columns" "_law_columns" s__law_columns f fd) (M : Mg mg) (c__law_next : Cl P w K mg base 1 "_law_next" sp_next) : FnOk P w K mg base CX0 2 f fd ["draw"] (sp_wcols K) := by
  refine F.ok sc__law_columns (fun vs H Q E h => ?_) (fun cdv A outer s H vs Q E hr h => ?_)
  · obtain ⟨d, c, rfl, _⟩ := h
    rfl
  obtain ⟨d, c, rfl, dr, q⟩ := h
  refine ⟨_, (pss_cons (ps_set (i := 1) sc__law_columns.nd rfl (.inl rfl) (pe_lst pa_nil))
      (pss_cons (ps_for PassesOwn.never rfl (pi_range1 (by rfl) M.range (pa_cons (pe_op op_add pe_int (pe_u c__law_next hr (by first | decide | omega) (by rfl) (pa_cons (pv 0) (pa_cons pe_int pa_nil)))) pa_nil)) (pg_name (i := 2) sc__law_columns.nd rfl (.inl rfl)) (pss_cons (ps_set (i := 3) sc__law_columns.nd rfl (.inl rfl) (pe_ix ix_str pe_str (pv 2) (fun _ _ => rfl)))
      (pss_cons (ps_if (PW.pt (pw_and (pt_cmpR op_gt (pv 2) pe_int (nomark _)) (pw_and1 (pt_cmpR op_eq (pe_u c__law_next hr (by first | decide | omega) (by rfl) (pa_cons (pv 0) (pa_cons pe_int pa_nil))) pe_int (nomark _))))) (pss_one (ps_set (i := 3) sc__law_columns.nd rfl (.inl rfl) (pe_ix ix_str pe_str (pe_op op_sub (pv 2) pe_int) (fun _ _ => rfl)))) pss_nil)
      (pss_one (ps_expr (pe_bmK K PySem.F.plainAttrs_list PySem.F.slot_list_append PySem.F.type_list_append mt_append (pv 1) (pa_cons (pe_tup (pa_cons (pe_ix (ix_listK K) (pe_lst (pa_cons pe_str (pa_cons pe_str pa_nil))) (pe_op op_fdivW (pv 2) pe_int) (fun _ _ => rfl)) (pa_cons (pv 3) (pa_cons (pe_ix (ix_listK K) (pe_lst (pa_cons pe_str (pa_cons pe_str (pa_cons pe_str pa_nil)))) (pe_u c__law_next hr (by first | decide | omega) (by rfl) (pa_cons (pv 0) (pa_cons pe_int pa_nil))) (fun _ _ => rfl)) pa_nil)))) pa_nil)))))))
      (pss_one (ps_ret (pv 1))))), ?_⟩
  refine ⟨by show 0 ≤ sizeLine; decide, fun l nl => ?_⟩
  have s0 := same_upd nl (o := .lst [])
  have nld := dr_ne dr (fun _ _ h => h) nl
  have el0 : (upd H l (.lst [])) l = some (.lst []) := upd_same
  generalize upd H l (.lst []) = H0 at s0 el0 ⊢
  have dr0 := dr.ext s0
  have nlc := dr.nc nl
  refine ⟨_, rfl, d, c, 6, rfl, dr0, by decide, by decide, fun H1 r f1 _ dr1 r0 r1 => ⟨_, _, rfl, rfl, 1 + r, rfl, by omega, by omega, ?_⟩⟩
  have f01 := (Fd.of s0).trans f1
  refine for_range (lo := 0) (n := (1 + r).toNat) (fun i σ Hi => (Fd d H Hi ∧ Dr Hi d c ∧ ∃ (ys : List V) (cols : List Col), Hi l = some (.lst ys) ∧ cols.length = i ∧ DpAll K Hi ys (cols.map Col.d) ∧ ∀ j c, cols[j]? = some c → Ci j c) ∧ ∃ z2 z3, σ = [some (.ref d), some (.ref l), z2, z3]) ⟨⟨f01, dr1, [], [], f1 _ _ nld el0, rfl, .nil, fun j c h => by simp at h⟩, _, _, rfl⟩ (fun i σ Hi hi hp => ?_) (fun σ Hn hp => ?_)
  · obtain ⟨⟨fi, dri, ys, cols, eli, lc, hcs, hci⟩, z2, z3, rfl⟩ := hp
    have hi6 : i < 6 := by omega
    rw [show (0 : Int) + ((i : Nat) : Int) = ((i : Nat) : Int) from Int.zero_add _]
    have lys : ys.length = i := by rw [DpAll.len hcs, List.length_map, lc]
    have fin : ∀ (H5 : Hp) (m : Nat) (t : Addr) (x : Kd), Fd d Hi H5 → Dr H5 d c → m < 6 → (m = i ∨ (3 ≤ i ∧ m + 3 = i)) → H5 t = none → ∀ H6 H7, H6 = upd H5 t (.tup [.str (if decide (i < 3) = true then Str.ofString "t" else Str.ofString "u"), .str (letW m), .str (Str.ofString x.s)]) → H7 = upd H6 l (.lst (ys ++ [.ref t])) → H6 l = some (.lst ys) ∧ (Fd d H H7 ∧ Dr H7 d c ∧ ∃ (ys : List V) (cols : List Col), H7 l = some (.lst ys) ∧ cols.length = i + 1 ∧ DpAll K H7 ys (cols.map Col.d) ∧ ∀ j c, cols[j]? = some c → Ci j c) := fun H5 m t x f5 dr5 hm hmi nt H6 H7 e6 e7 => by
      have s6 : Same H5 H6 := by rw [e6]; exact same_upd nt
      have el6 := s6 _ _ (f5 _ _ nld eli)
      have f6 := f5.trans (Fd.of s6)
      have dr6 := dr5.ext s6
      have hc6 := DpAll.fd dri.lst f6 _ _ (cols_only cols) hcs
      have ht6 : Dp K H6 (.ref t) (Col.d ⟨some (if decide (i < 3) = true then Str.ofString "t" else Str.ofString "u"), letW m, some x⟩) := by
        rw [e6]
        exact mk_dp nt (.cons (.str _) (.cons (.str _) (.cons (.str _) .nil)))
      subst e7
      refine ⟨el6, fun b o nb eb => ?_, dr6.upd nld nlc, _, cols ++ [⟨some (if decide (i < 3) = true then Str.ofString "t" else Str.ofString "u"), letW m, some x⟩], upd_same, by rw [List.length_append, lc]; rfl, ?_, fun j cj hj => ?_⟩
      · rw [upd_ne (ne_of_none eb nl)]
        exact f6 _ _ nb (fi _ _ nb eb)
      · rw [List.map_append]
        exact DpAll.snoc (DpAll.away el6 _ _ (cols_only cols) hc6) (Dp.away el6 _ _ (col_only _) ht6)
      · by_cases hjc : j < cols.length
        · rw [List.getElem?_append_left hjc] at hj
          exact hci j cj hj
        · have hj2 := (List.getElem?_eq_some_iff.mp hj).1
          rw [List.length_append] at hj2
          have ej : j = cols.length := by
            have : j < cols.length + 1 := hj2
            omega
          subst ej
          rw [List.getElem?_append_right (Nat.le_refl _), Nat.sub_self] at hj
          cases hj
          rw [lc]
          exact ⟨rfl, ⟨m, hm, rfl, hmi⟩, x, rfl⟩
    refine ⟨_, rfl, _, _, 97 + i, rfl, rfl, by decide, atI_nat (abc6 i hi6), ?_⟩
    refine ⟨_, rfl, _, _, rfl, rfl, _, rfl, ite2 (fun h3 => ?_) (fun h3 => ?_)⟩
    · have h3' := of_decide_eq_true h3
      refine ⟨_, rfl, d, c, 2, rfl, dri, by decide, by decide, fun Hx k4 fx _ drx _ _ => ⟨rfl, _, rfl, ite2 (fun _ => ?_) (fun _ => ?_)⟩⟩
      · have elx := fx _ _ nld eli
        refine ⟨_, rfl, _, _, rfl, rfl, _, _, 97 + (i - 3), rfl, rfl, by decide, (by rw [show ((i : Nat) : Int) - 3 = ((i - 3 : Nat) : Int) by omega]; exact atI_nat (abc6 (i - 3) (by omega))), ?_⟩
        refine ⟨_, rfl, .inl ⟨rfl, _, .inl (.inl elx)⟩, by show 2 ≤ sizeLine; decide, fun l1 n1 => ?_⟩
        have u1 := same_upd n1 (o := .lst [.str "t", .str "u"])
        have e1 : (upd Hx l1 (.lst [.str "t", .str "u"])) l1 = some (.lst [.str "t", .str "u"]) := upd_same
        have n1d := drx.nd n1
        refine ⟨_, rfl, _, _, rfl, rfl, wide_div (b := 60) (by decide) (by decide) (by decide) (by decide), l1, _, _, _, rfl, rfl, .of e1, (by rw [show ((i : Nat) : Int) / 3 = ((i / 3 : Nat) : Int) by omega]; exact atI_nat (tu6 i hi6)), _, rfl, by show 3 ≤ sizeLine; decide, fun l2 n2 => ?_⟩
        have u2 := same_upd n2 (o := .lst ([Kd.int, .text, .truth].map fun k => V.str (Str.ofString k.s)))
        have e2 : (upd (upd Hx l1 (.lst [.str "t", .str "u"])) l2 (.lst ([Kd.int, .text, .truth].map fun k => V.str (Str.ofString k.s)))) l2 = some (.lst ([Kd.int, .text, .truth].map fun k => V.str (Str.ofString k.s))) := upd_same
        have dr1x := drx.ext u1
        have n2d := dr1x.nd n2
        have elx1 := u2 _ _ (u1 _ _ elx)
        have u12 := u1.trans u2
        show tCall sp_next [] E0 _ _ (upd (upd Hx l1 (.lst [.str "t", .str "u"])) l2 (.lst ([Kd.int, .text, .truth].map fun k => V.str (Str.ofString k.s)))) _
        generalize upd (upd Hx l1 (.lst [.str "t", .str "u"])) l2 (.lst ([Kd.int, .text, .truth].map fun k => V.str (Str.ofString k.s))) = H4 at u12 e2 elx1 ⊢
        have dr4 := drx.ext u12
        refine ⟨_, rfl, d, c, 3, rfl, dr4, by decide, by decide, fun H5 k5 f5 _ dr5 q0 q1 => ?_⟩
        obtain ⟨k5, rfl⟩ := Int.eq_ofNat_of_zero_le q0
        obtain ⟨x, hx⟩ := pickK (ks := [.int, .text, .truth]) (k := k5) (by show k5 < 3; omega)
        refine ⟨l2, _, _, .str (Str.ofString x.s), rfl, rfl, .of (f5 _ _ n2d e2), atI_nat hx, by show 3 ≤ sizeLine; decide, fun t nt => ?_⟩
        have el5 := f5 _ _ nld elx1
        obtain ⟨g1, g2⟩ := fin H5 (i - 3) t x (fx.trans ((Fd.of u12).trans f5)) dr5 (by omega) (.inr ⟨by omega, by omega⟩) nt _ _ rfl rfl
        refine ⟨l, ys, _, rfl, rfl, g1, by rw [lys]; exact Nat.lt_of_lt_of_le (m := 6) hi6 (by decide), g2, _, _, rfl⟩
      · have elx := fx _ _ nld eli
        refine ⟨_, rfl, .inl ⟨rfl, _, .inl (.inl elx)⟩, by show 2 ≤ sizeLine; decide, fun l1 n1 => ?_⟩
        have u1 := same_upd n1 (o := .lst [.str "t", .str "u"])
        have e1 : (upd Hx l1 (.lst [.str "t", .str "u"])) l1 = some (.lst [.str "t", .str "u"]) := upd_same
        have n1d := drx.nd n1
        refine ⟨_, rfl, _, _, rfl, rfl, wide_div (b := 60) (by decide) (by decide) (by decide) (by decide), l1, _, _, _, rfl, rfl, .of e1, (by rw [show ((i : Nat) : Int) / 3 = ((i / 3 : Nat) : Int) by omega]; exact atI_nat (tu6 i hi6)), _, rfl, by show 3 ≤ sizeLine; decide, fun l2 n2 => ?_⟩
        have u2 := same_upd n2 (o := .lst ([Kd.int, .text, .truth].map fun k => V.str (Str.ofString k.s)))
        have e2 : (upd (upd Hx l1 (.lst [.str "t", .str "u"])) l2 (.lst ([Kd.int, .text, .truth].map fun k => V.str (Str.ofString k.s)))) l2 = some (.lst ([Kd.int, .text, .truth].map fun k => V.str (Str.ofString k.s))) := upd_same
        have dr1x := drx.ext u1
        have n2d := dr1x.nd n2
        have elx1 := u2 _ _ (u1 _ _ elx)
        have u12 := u1.trans u2
        show tCall sp_next [] E0 _ _ (upd (upd Hx l1 (.lst [.str "t", .str "u"])) l2 (.lst ([Kd.int, .text, .truth].map fun k => V.str (Str.ofString k.s)))) _
        generalize upd (upd Hx l1 (.lst [.str "t", .str "u"])) l2 (.lst ([Kd.int, .text, .truth].map fun k => V.str (Str.ofString k.s))) = H4 at u12 e2 elx1 ⊢
        have dr4 := drx.ext u12
        refine ⟨_, rfl, d, c, 3, rfl, dr4, by decide, by decide, fun H5 k5 f5 _ dr5 q0 q1 => ?_⟩
        obtain ⟨k5, rfl⟩ := Int.eq_ofNat_of_zero_le q0
        obtain ⟨x, hx⟩ := pickK (ks := [.int, .text, .truth]) (k := k5) (by show k5 < 3; omega)
        refine ⟨l2, _, _, .str (Str.ofString x.s), rfl, rfl, .of (f5 _ _ n2d e2), atI_nat hx, by show 3 ≤ sizeLine; decide, fun t nt => ?_⟩
        have el5 := f5 _ _ nld elx1
        obtain ⟨g1, g2⟩ := fin H5 i t x (fx.trans ((Fd.of u12).trans f5)) dr5 (by omega) (.inl rfl) nt _ _ rfl rfl
        refine ⟨l, ys, _, rfl, rfl, g1, by rw [lys]; exact Nat.lt_of_lt_of_le (m := 6) hi6 (by decide), g2, _, _, rfl⟩
    · obtain ⟨Hx, eHx⟩ : ∃ Hx, Hx = Hi := ⟨_, rfl⟩
      have fx : Fd d Hi Hx := by rw [eHx]; exact Fd.refl _ _
      have elx := fx _ _ nld eli
      have drx : Dr Hx d c := by rw [eHx]; exact dri
      rw [← eHx]
      refine ⟨_, rfl, .inl ⟨rfl, _, .inl (.inl elx)⟩, by show 2 ≤ sizeLine; decide, fun l1 n1 => ?_⟩
      have u1 := same_upd n1 (o := .lst [.str "t", .str "u"])
      have e1 : (upd Hx l1 (.lst [.str "t", .str "u"])) l1 = some (.lst [.str "t", .str "u"]) := upd_same
      have n1d := drx.nd n1
      refine ⟨_, rfl, _, _, rfl, rfl, wide_div (b := 60) (by decide) (by decide) (by decide) (by decide), l1, _, _, _, rfl, rfl, .of e1, (by rw [show ((i : Nat) : Int) / 3 = ((i / 3 : Nat) : Int) by omega]; exact atI_nat (tu6 i hi6)), _, rfl, by show 3 ≤ sizeLine; decide, fun l2 n2 => ?_⟩
      have u2 := same_upd n2 (o := .lst ([Kd.int, .text, .truth].map fun k => V.str (Str.ofString k.s)))
      have e2 : (upd (upd Hx l1 (.lst [.str "t", .str "u"])) l2 (.lst ([Kd.int, .text, .truth].map fun k => V.str (Str.ofString k.s)))) l2 = some (.lst ([Kd.int, .text, .truth].map fun k => V.str (Str.ofString k.s))) := upd_same
      have dr1x := drx.ext u1
      have n2d := dr1x.nd n2
      have elx1 := u2 _ _ (u1 _ _ elx)
      have u12 := u1.trans u2
      show tCall sp_next [] E0 _ _ (upd (upd Hx l1 (.lst [.str "t", .str "u"])) l2 (.lst ([Kd.int, .text, .truth].map fun k => V.str (Str.ofString k.s)))) _
      generalize upd (upd Hx l1 (.lst [.str "t", .str "u"])) l2 (.lst ([Kd.int, .text, .truth].map fun k => V.str (Str.ofString k.s))) = H4 at u12 e2 elx1 ⊢
      have dr4 := drx.ext u12
      refine ⟨_, rfl, d, c, 3, rfl, dr4, by decide, by decide, fun H5 k5 f5 _ dr5 q0 q1 => ?_⟩
      obtain ⟨k5, rfl⟩ := Int.eq_ofNat_of_zero_le q0
      obtain ⟨x, hx⟩ := pickK (ks := [.int, .text, .truth]) (k := k5) (by show k5 < 3; omega)
      refine ⟨l2, _, _, .str (Str.ofString x.s), rfl, rfl, .of (f5 _ _ n2d e2), atI_nat hx, by show 3 ≤ sizeLine; decide, fun t nt => ?_⟩
      have el5 := f5 _ _ nld elx1
      obtain ⟨g1, g2⟩ := fin H5 i t x (fx.trans ((Fd.of u12).trans f5)) dr5 (by omega) (.inl rfl) nt _ _ rfl rfl
      refine ⟨l, ys, _, rfl, rfl, g1, by rw [lys]; exact Nat.lt_of_lt_of_le (m := 6) hi6 (by decide), g2, _, _, rfl⟩
  · obtain ⟨⟨fi, dri, ys, cols, eli, lc, hcs, hci⟩, z2, z3, rfl⟩ := hp
    exact ⟨_, rfl, q Hn l ys cols fi dri eli nld hcs (ci_cok (by omega) hci)⟩
end

/-! ### the law's kinds -/
def Ow.rI (o : Ow) : Bool := match o.want with | some (_, .int) => true | _ => false
def Ow.ci : Ow → Bool | .coalesce => true | .ite => true | _ => false
theorem opK_kind {o : Ow} {ks : List (Option Kd)} {k : Option Kd} (hl : ks.length = o.ar) (hc : o.ci = false) (h : opK o ks = .ok k) : k = some (if o.rI = true then .int else .truth) := by
  cases hw : o.want with
  | some xr =>
    obtain ⟨x, r⟩ := xr
    rw [(opK_want hw h).1]
    cases o <;> first | (cases hw; done) | (cases hw; rfl)
  | none =>
    match ks, hl with
    | [], hl => cases o <;> cases hl
    | [a], hl =>
      cases o <;> first | (cases hl; done) | (cases hw; done) | (cases h; rfl)
    | [a, b], hl =>
      by_cases hcm : o.cmp = true
      · rw [opK_two (.inl hcm)] at h
        cases e : common a b with
        | error m => rw [e] at h; cases h
        | ok c =>
          rw [e] at h
          cases h
          dsimp only
          rw [if_pos hcm]
          cases o <;> first | (cases hcm; done) | rfl
      · cases o <;> first | (cases hl; done) | (cases hw; done) | (cases hc; done) | exact absurd rfl hcm
    | [a, b, c], hl => cases o <;> first | (cases hl; done) | (cases hw; done) | (cases hc; done)
    | _ :: _ :: _ :: _ :: _, hl => cases o <;> cases hl
theorem common_first {a b c : Option Kd} (h : common a b = .ok c) : c = if a = none then b else a := by
  unfold common at h
  split at h
  · cases h
    rfl
  · split at h
    · cases h
      rfl
    · cases h
/-- what the law sees of a tree that is compiled -/
theorem kd_view {cols : List Col} {e : Et} {r : Cr} (hok : e.ok) (h : comp cols e = .ok r) :
    (∃ y, e.d = .tuple [.str "number", y] ∧ r.2.1 = some .int) ∨ (∃ y, e.d = .tuple [.str "text", y] ∧ r.2.1 = some .text) ∨ (∃ y, e.d = .tuple [.str "truth", y] ∧ r.2.1 = some .truth) ∨ (e.d = .tuple [.str "null"] ∧ r.2.1 = none) ∨
    (∃ (w : Str) (rest : List Str) (x : Str) (p : Col → Bool) (i : Nat) (c : Col), e.d = .tuple (.str w :: rest.map PyData.str) ∧ plcs cols p = [i] ∧ cols[i]? = some c ∧ r.2.1 = c.kd ∧ ((w = "name" ∧ rest = [x] ∧ p = fun c : Col => decide (c.nm = x)) ∨ ∃ s, w = "field" ∧ rest = [s, x] ∧ p = fun c : Col => decide (c.src = some s) && decide (c.nm = x))) ∨
    (∃ (o : Ow) (ds : List PyData), e.d = .tuple (.str o.w :: ds) ∧ o.ci = false ∧ r.2.1 = some (if o.rI = true then .int else .truth)) ∨
    ∃ (o : Ow) (pre : List PyData) (a b : Et) (ra rb : Cr), e.d = .tuple (.str o.w :: (pre ++ [a.d, b.d])) ∧ (pre = [] ∨ ∃ t, pre = [t]) ∧ o.ci = true ∧ a.ok ∧ b.ok ∧ a.ht < e.ht ∧ b.ht < e.ht ∧ comp cols a = .ok ra ∧ comp cols b = .ok rb ∧ r.2.1 = if ra.2.1 = none then rb.2.1 else ra.2.1 := by
  have nmd : ∀ {told : Str} {p : Col → Bool}, namedC cols told p = .ok r → ∃ i c, plcs cols p = [i] ∧ cols[i]? = some c ∧ r.2.1 = c.kd := fun {told p} h => by
    unfold namedC at h
    split at h
    · cases h
    · rename_i i e
      obtain ⟨hi, c, hc, _⟩ := plcs_lt (cols := cols) (p := p) (i := i) (by rw [e]; exact List.mem_cons_self)
      cases h
      refine ⟨i, c, e, hc, ?_⟩
      rw [hc]
      rfl
    · cases h
  cases e with
  | num i => cases h; exact .inl ⟨_, rfl, rfl⟩
  | text x => cases h; exact .inr (.inl ⟨_, rfl, rfl⟩)
  | truth i => cases h; exact .inr (.inr (.inl ⟨_, rfl, rfl⟩))
  | null => cases h; exact .inr (.inr (.inr (.inl ⟨rfl, rfl⟩)))
  | name x =>
    obtain ⟨i, c, h1, h2, h3⟩ := nmd h
    exact .inr (.inr (.inr (.inr (.inl ⟨"name", [x], x, _, i, c, rfl, h1, h2, h3, .inl ⟨rfl, rfl, rfl⟩⟩))))
  | field s x =>
    obtain ⟨i, c, h1, h2, h3⟩ := nmd h
    exact .inr (.inr (.inr (.inr (.inl ⟨"field", [s, x], x, _, i, c, rfl, h1, h2, h3, .inr ⟨s, rfl, rfl, rfl⟩⟩))))
  | op1 o a =>
    obtain ⟨xs, k, e1, e2, rfl⟩ := opC_inv h
    obtain ⟨ra, ea, rfl⟩ := seqE_one e1
    have hc : o.ci = false := by cases o <;> first | rfl | cases hok.1
    exact .inr (.inr (.inr (.inr (.inr (.inl ⟨o, _, rfl, hc, opK_kind (ks := [ra.2.1]) hok.1.symm hc e2⟩)))))
  | op2 o a b =>
    obtain ⟨xs, k, e1, e2, rfl⟩ := opC_inv h
    obtain ⟨ra, rb, ea, eb, rfl⟩ := seqE_two e1
    cases hc : o.ci with
    | false => exact .inr (.inr (.inr (.inr (.inr (.inl ⟨o, _, rfl, hc, opK_kind (ks := [ra.2.1, rb.2.1]) hok.1.symm hc e2⟩)))))
    | true =>
      obtain rfl : o = .coalesce := by cases o <;> first | rfl | (cases hc; done) | cases hok.1
      refine .inr (.inr (.inr (.inr (.inr (.inr ⟨.coalesce, [], a, b, ra, rb, rfl, .inl rfl, rfl, hok.2.1, hok.2.2, ?_, ?_, ea, eb, ?_⟩)))))
      · show a.ht < max a.ht b.ht + 1
        omega
      · show b.ht < max a.ht b.ht + 1
        omega
      · replace e2 : opK .coalesce [ra.2.1, rb.2.1] = .ok k := e2
        rw [opK_two (.inr rfl)] at e2
        cases ec : common ra.2.1 rb.2.1 with
        | error m => rw [ec] at e2; cases e2
        | ok c =>
          rw [ec] at e2
          cases e2
          exact common_first ec
  | op3 o t a b =>
    obtain ⟨xs, k, e1, e2, rfl⟩ := opC_inv h
    obtain ⟨rt, ra, rb, et, ea, eb, rfl⟩ := seqE_three e1
    obtain rfl : o = .ite := by cases o <;> first | rfl | cases hok.1
    refine .inr (.inr (.inr (.inr (.inr (.inr ⟨.ite, [t.d], a, b, ra, rb, rfl, .inr ⟨_, rfl⟩, rfl, hok.2.2.1, hok.2.2.2, ?_, ?_, ea, eb, ?_⟩)))))
    · show a.ht < max t.ht (max a.ht b.ht) + 1
      omega
    · show b.ht < max t.ht (max a.ht b.ht) + 1
      omega
    · replace e2 : (if need .truth rt.2.1 = true then common ra.2.1 rb.2.1 else .error (exM .truth)) = .ok k := e2
      split at e2
      · exact common_first e2
      · cases e2
def sp_wkind (K : PySem.W.Frag) (cols : List Col) (n : Nat) : Sp := fun vs H Q _ => ∃ (v : V) (l : Addr) (ys : List V) (e : Et) (r : Cr), vs = [v, .ref l] ∧ Dp K H v e.d ∧ e.ok ∧ e.ht < n ∧ comp cols e = .ok r ∧ H l = some (.lst ys) ∧ DpAll K H ys (cols.map Col.d) ∧ ∀ H', Same H H' → Q (kdV r.2.1) H'
section
variable {P : Program} {w : World} {K : PySem.W.Frag} {mg : Str → Option Value} {base : Heap} {C : Addr}
set_option maxHeartbeats 1000000 in
theorem ok_wkind {cols : List Col} (n : Nat) {f : Addr} {fd : FuncData} (F : Fun K "_law_kind" "_law_kind" s__law_kind f fd) (M : Mg mg) (c__law_kind : Cl P w K mg base (n + 1) "_law_kind" (sp_wkind K cols n)) : FnOk P w K mg base CX0 (n + 2) f fd ["tree", "columns"] (sp_wkind K cols (n + 1)) := by
  refine F.ok sc__law_kind (fun vs H Q E h => ?_) (fun cdv A outer s H vs Q E hr h => ?_)
  · obtain ⟨v, l, ys, e, r, rfl, _⟩ := h
    rfl
  obtain ⟨v, l, ys, e, r, rfl, hv, hok, hht, hcm, el, hcs, q⟩ := h
  refine ⟨_, (pss_cons (ps_set (i := 2) sc__law_kind.nd rfl (.inl rfl) (pe_ix (ix_tupK K) (pv 0) pe_int (fun _ _ => rfl)))
      (pss_cons (ps_if (pt_cmpR (inK K) (pv 2) (pe_tup (pa_cons pe_str (pa_cons pe_str pa_nil))) (by rfl)) (pss_one (ps_for PassesOwn.never rfl (pi_list (pv 1)) (pg_name (i := 3) sc__law_kind.nd rfl (.inl rfl)) (pss_one (ps_if (PW.pt (pw_and (pt_cmpR op_eq (pe_ix (ix_tupK K) (pv 3) pe_int (fun _ _ => rfl)) (pe_ix (ix_tupK K) (pv 0) (pe_un un_neg pe_int) (fun _ _ => rfl)) (nomark _)) (pw_and1 (PW.pt (pw_or (pt_cmpR op_eq (pv 2) pe_str (nomark _)) (pw_or1 (pt_cmpR op_eq (pe_ix (ix_tupK K) (pv 3) pe_int (fun _ _ => rfl)) (pe_ix (ix_tupK K) (pv 0) pe_int (fun _ _ => rfl)) (nomark _)))))))) (pss_one (ps_ret (pe_ix (ix_tupK K) (pv 3) pe_int (fun _ _ => rfl)))) pss_nil)))) pss_nil)
      (pss_cons (ps_if (pt_cmpR (inK K) (pv 2) (pe_tup (pa_cons pe_str (pa_cons pe_str (pa_cons pe_str (pa_cons pe_str (pa_cons pe_str (pa_cons pe_str (pa_cons pe_str (pa_cons pe_str pa_nil))))))))) (by rfl)) (pss_one (ps_ret pe_str)) pss_nil)
      (pss_cons (ps_if (pt_cmpR op_eq (pv 2) pe_str (nomark _)) (pss_one (ps_ret pe_str)) pss_nil)
      (pss_cons (ps_if (pt_cmpR op_eq (pv 2) pe_str (nomark _)) (pss_one (ps_ret pe_non)) pss_nil)
      (pss_cons (ps_if (pt_cmpR (inK K) (pv 2) (pe_tup (pa_cons pe_str (pa_cons pe_str pa_nil))) (by rfl)) (pss_cons (ps_set (i := 4) sc__law_kind.nd rfl (.inl rfl) (pe_u c__law_kind hr (by first | decide | omega) (by rfl) (pa_cons (pe_ix (ix_tupK K) (pv 0) (pe_un un_neg pe_int) (fun _ _ => rfl)) (pa_cons (pv 1) pa_nil))))
      (pss_one (ps_ret (pe_ifExp (pt_cmpR op_isN (pv 4) pe_non (nomark _)) (pe_u c__law_kind hr (by first | decide | omega) (by rfl) (pa_cons (pe_ix (ix_tupK K) (pv 0) (pe_un un_neg pe_int) (fun _ _ => rfl)) (pa_cons (pv 1) pa_nil))) (pv 4))))) pss_nil)
      (pss_one (ps_ret pe_str)))))))), ?_⟩
  rcases kd_view hok hcm with ⟨y, hd, hk⟩ | ⟨y, hd, hk⟩ | ⟨y, hd, hk⟩ | ⟨hd, hk⟩ | ⟨w0, rest, x, p, i, c, hd, hp, hc, hk, hw⟩ | ⟨o, ds, hd, hci, hk⟩ | ⟨o, pre, a, b, ra, rb, hd, hpre, hci, oka, okb, hta, htb, ea, eb, hk⟩
  · rw [hd] at hv
    rw [hk] at q
    obtain ⟨b, xs, rfl, hb, hx⟩ := dp_tup hv
    cases hx with
    | cons k1 k2 =>
    cases k1
    refine ⟨_, rfl, b, _, _, .str "number", rfl, rfl, hb, atI_nat (j := 0) rfl, ?_⟩
    refine ⟨_, rfl, by show 2 ≤ sizeLine; decide, fun p0 np0 => ⟨p0, _, rfl, .inr (.of upd_same), rfl, rfl, ?_⟩⟩
    have s0 := same_upd np0 (o := .tup [.str "name", .str "field"])
    rw [if_neg Bool.false_ne_true, show inV (.str "number") [.str "name", .str "field"] = false by decide +kernel]
    refine ⟨_, rfl, iteF ⟨_, rfl, by show 8 ≤ sizeLine; decide, fun p1 np1 => ⟨p1, _, rfl, .inr (.of upd_same), rfl, rfl, ?_⟩⟩⟩
    have s1 := same_upd np1 (o := .tup [.str "number", .str "negate", .str "length", .str "+", .str "-", .str "*", .str "div", .str "mod"])
    rw [if_neg Bool.false_ne_true, show inV (.str "number") [.str "number", .str "negate", .str "length", .str "+", .str "-", .str "*", .str "div", .str "mod"] = true by decide +kernel]
    exact ⟨_, rfl, iteT (q _ (s0.trans s1))⟩
  · rw [hd] at hv
    rw [hk] at q
    obtain ⟨b, xs, rfl, hb, hx⟩ := dp_tup hv
    cases hx with
    | cons k1 k2 =>
    cases k1
    refine ⟨_, rfl, b, _, _, .str "text", rfl, rfl, hb, atI_nat (j := 0) rfl, ?_⟩
    refine ⟨_, rfl, by show 2 ≤ sizeLine; decide, fun p0 np0 => ⟨p0, _, rfl, .inr (.of upd_same), rfl, rfl, ?_⟩⟩
    have s0 := same_upd np0 (o := .tup [.str "name", .str "field"])
    rw [if_neg Bool.false_ne_true, show inV (.str "text") [.str "name", .str "field"] = false by decide +kernel]
    refine ⟨_, rfl, iteF ⟨_, rfl, by show 8 ≤ sizeLine; decide, fun p1 np1 => ⟨p1, _, rfl, .inr (.of upd_same), rfl, rfl, ?_⟩⟩⟩
    have s1 := same_upd np1 (o := .tup [.str "number", .str "negate", .str "length", .str "+", .str "-", .str "*", .str "div", .str "mod"])
    rw [if_neg Bool.false_ne_true, show inV (.str "text") [.str "number", .str "negate", .str "length", .str "+", .str "-", .str "*", .str "div", .str "mod"] = false by decide +kernel]
    refine ⟨_, rfl, iteF ⟨_, rfl, rfl, _, rfl, ?_⟩⟩
    rw [weq]
    exact iteT (q _ (s0.trans s1))
  · rw [hd] at hv
    rw [hk] at q
    obtain ⟨b, xs, rfl, hb, hx⟩ := dp_tup hv
    cases hx with
    | cons k1 k2 =>
    cases k1
    refine ⟨_, rfl, b, _, _, .str "truth", rfl, rfl, hb, atI_nat (j := 0) rfl, ?_⟩
    refine ⟨_, rfl, by show 2 ≤ sizeLine; decide, fun p0 np0 => ⟨p0, _, rfl, .inr (.of upd_same), rfl, rfl, ?_⟩⟩
    have s0 := same_upd np0 (o := .tup [.str "name", .str "field"])
    rw [if_neg Bool.false_ne_true, show inV (.str "truth") [.str "name", .str "field"] = false by decide +kernel]
    refine ⟨_, rfl, iteF ⟨_, rfl, by show 8 ≤ sizeLine; decide, fun p1 np1 => ⟨p1, _, rfl, .inr (.of upd_same), rfl, rfl, ?_⟩⟩⟩
    have s1 := same_upd np1 (o := .tup [.str "number", .str "negate", .str "length", .str "+", .str "-", .str "*", .str "div", .str "mod"])
    rw [if_neg Bool.false_ne_true, show inV (.str "truth") [.str "number", .str "negate", .str "length", .str "+", .str "-", .str "*", .str "div", .str "mod"] = false by decide +kernel]
    refine ⟨_, rfl, iteF ⟨_, rfl, rfl, _, rfl, ?_⟩⟩
    rw [wne "truth" "text" (by decide)]
    refine iteF ⟨_, rfl, rfl, _, rfl, ?_⟩
    rw [wne "truth" "null" (by decide)]
    refine iteF ⟨_, rfl, by show 2 ≤ sizeLine; decide, fun p2 np2 => ⟨p2, _, rfl, .inr (.of upd_same), rfl, rfl, ?_⟩⟩
    have s2 := same_upd np2 (o := .tup [.str "coalesce", .str "if"])
    rw [if_neg Bool.false_ne_true, show inV (.str "truth") [.str "coalesce", .str "if"] = false by decide +kernel]
    exact ⟨_, rfl, iteF (q _ ((s0.trans s1).trans s2))⟩
  · rw [hd] at hv
    rw [hk] at q
    obtain ⟨b, xs, rfl, hb, hx⟩ := dp_tup hv
    cases hx with
    | cons k1 k2 =>
    cases k1
    refine ⟨_, rfl, b, _, _, .str "null", rfl, rfl, hb, atI_nat (j := 0) rfl, ?_⟩
    refine ⟨_, rfl, by show 2 ≤ sizeLine; decide, fun p0 np0 => ⟨p0, _, rfl, .inr (.of upd_same), rfl, rfl, ?_⟩⟩
    have s0 := same_upd np0 (o := .tup [.str "name", .str "field"])
    rw [if_neg Bool.false_ne_true, show inV (.str "null") [.str "name", .str "field"] = false by decide +kernel]
    refine ⟨_, rfl, iteF ⟨_, rfl, by show 8 ≤ sizeLine; decide, fun p1 np1 => ⟨p1, _, rfl, .inr (.of upd_same), rfl, rfl, ?_⟩⟩⟩
    have s1 := same_upd np1 (o := .tup [.str "number", .str "negate", .str "length", .str "+", .str "-", .str "*", .str "div", .str "mod"])
    rw [if_neg Bool.false_ne_true, show inV (.str "null") [.str "number", .str "negate", .str "length", .str "+", .str "-", .str "*", .str "div", .str "mod"] = false by decide +kernel]
    refine ⟨_, rfl, iteF ⟨_, rfl, rfl, _, rfl, ?_⟩⟩
    rw [wne "null" "text" (by decide)]
    refine iteF ⟨_, rfl, rfl, _, rfl, ?_⟩
    rw [weq]
    exact iteT (q _ (s0.trans s1))
  · rw [hd] at hv
    rw [hk] at q
    obtain ⟨b, xs, rfl, hb, hx⟩ := dp_tup hv
    have hxs : xs = .str w0 :: rest.map V.str := by
      rcases hw with ⟨rfl, rfl, _⟩ | ⟨s, rfl, rfl, _⟩
      · cases hx with
        | cons k1 k2 =>
        cases k1
        cases k2 with
        | cons k2 k3 =>
        cases k2
        cases k3
        rfl
      · cases hx with
        | cons k1 k2 =>
        cases k1
        cases k2 with
        | cons k2 k3 =>
        cases k2
        cases k3 with
        | cons k3 k4 =>
        cases k3
        cases k4
        rfl
    subst hxs
    have lst : atI (V.str w0 :: rest.map V.str) (-1) = some (.str x) := by
      rcases hw with ⟨rfl, rfl, _⟩ | ⟨s, rfl, rfl, _⟩ <;> rfl
    refine ⟨_, rfl, b, _, _, .str w0, rfl, rfl, hb, atI_nat (j := 0) rfl, ?_⟩
    refine ⟨_, rfl, by show 2 ≤ sizeLine; decide, fun p0 np0 => ⟨p0, _, rfl, .inr (.of upd_same), rfl, rfl, ?_⟩⟩
    have s0 := same_upd np0 (o := .tup [.str "name", .str "field"])
    have hin : inV (.str w0) [.str "name", .str "field"] = true := by
      rcases hw with ⟨rfl, _⟩ | ⟨s, rfl, _⟩ <;> decide +kernel
    rw [if_neg Bool.false_ne_true, hin]
    have el0 := s0 _ _ el
    have hcs0 := DpAll.ext s0 _ _ hcs
    have hb0 := SqT.ext s0 hb
    refine ⟨_, rfl, iteT ⟨_, rfl, l, rfl, ⟨_, .of el0⟩, ?_⟩⟩
    generalize upd H p0 (.tup [.str "name", .str "field"]) = H0 at s0 el0 hcs0 hb0 ⊢
    have hic := (List.getElem?_eq_some_iff.mp hc).1
    have lys : ys.length = cols.length := by rw [DpAll.len hcs, List.length_map]
    refine for_list (K := K) (a := l) (xs := ys) (fun j σ Hj => Hj = H0 ∧ j ≤ i ∧ ∃ z3 z4, σ = [some (.ref b), some (.ref l), some (.str w0), z3, z4]) ⟨rfl, Nat.zero_le _, _, _, rfl⟩ (fun j σ Hj _ hp => by rw [hp.1]; exact .of el0) (fun j yj σ Hj hy hp => ?_) (fun σ Hn hp => ?_)
    · obtain ⟨rfl, hji, z3, z4, rfl⟩ := hp
      have hjc : j < cols.length := by rw [← lys]; exact (List.getElem?_eq_some_iff.mp hy).1
      have hcj := List.getElem?_eq_getElem hjc
      obtain ⟨z, hz, hE⟩ := DpAll.get (i := j) (d := (cols[j]).d) hcs0 (by rw [List.getElem?_map, hcj]; rfl)
      obtain rfl : z = yj := Option.some.inj (hz.symm.trans hy)
      generalize cols[j] = cj at hcj hE
      obtain ⟨tj, sv, rfl, htj, hsv⟩ := dp_col hE
      have hit : p cj = true → j = i := fun hpj => by
        have : j ∈ plcs cols p := by
          unfold plcs
          rw [List.mem_filter, List.mem_range]
          refine ⟨hjc, ?_⟩
          rw [hcj]
          exact hpj
        rw [hp] at this
        exact List.mem_singleton.mp this
      have nohit : p cj = false → j + 1 ≤ i := fun hpj => by
        by_cases e : j = i
        · subst e
          obtain ⟨_, c', hc', hpc⟩ := plcs_lt (cols := cols) (p := p) (i := j) (by rw [hp]; exact List.mem_cons_self)
          rw [hcj] at hc'
          cases hc'
          rw [hpj] at hpc
          cases hpc
        · omega
      have done : p cj = true → Q (kdV cj.kd) Hj := fun hpj => by
        have e := hit hpj
        subst e
        rw [hcj] at hc
        cases hc
        exact q _ s0
      refine ⟨_, rfl, tj, _, _, .str cj.nm, rfl, rfl, htj, rfl, _, rfl, _, rfl, b, _, _, .str x, rfl, rfl, hb0, lst, rfl, _, rfl, ?_⟩
      rw [str_dec]
      by_cases hn : cj.nm = x
      · rw [decide_eq_true hn]
        refine iteT ⟨_, rfl, rfl, _, rfl, ?_⟩
        rcases hw with ⟨rfl, rfl, rfl⟩ | ⟨sr, rfl, rfl, rfl⟩
        · rw [weq]
          exact iteT (iteT ⟨_, rfl, tj, _, _, kdV cj.kd, rfl, rfl, htj, rfl, done (decide_eq_true hn)⟩)
        · rw [wne "field" "name" (by decide)]
          cases hsrc : cj.src with
          | none =>
            rw [hsrc] at hsv
            cases hsv
            refine iteF ⟨_, rfl, tj, _, _, .non, rfl, rfl, htj, rfl, _, rfl, b, _, _, .str sr, rfl, rfl, hb0, rfl, rfl, _, rfl, ?_⟩
            rw [decide_eq_false (fun z => nomatch z)]
            exact iteF ⟨rfl, nohit (by dsimp only; rw [hsrc]; rfl), _, _, rfl⟩
          | some sx =>
            rw [hsrc] at hsv
            cases hsv
            refine iteF ⟨_, rfl, tj, _, _, .str sx, rfl, rfl, htj, rfl, _, rfl, b, _, _, .str sr, rfl, rfl, hb0, rfl, rfl, _, rfl, ?_⟩
            rw [str_dec]
            by_cases hs : sx = sr
            · rw [decide_eq_true hs]
              exact iteT ⟨_, rfl, tj, _, _, kdV cj.kd, rfl, rfl, htj, rfl, done (by dsimp only; rw [hsrc, decide_eq_true (congrArg some hs), decide_eq_true hn]; rfl)⟩
            · rw [decide_eq_false hs]
              exact iteF ⟨rfl, nohit (by dsimp only; rw [hsrc, decide_eq_false (fun z => hs (Option.some.inj z))]; rfl), _, _, rfl⟩
      · rw [decide_eq_false hn]
        refine iteF (iteF ⟨rfl, nohit ?_, _, _, rfl⟩)
        rcases hw with ⟨rfl, rfl, rfl⟩ | ⟨sr, rfl, rfl, rfl⟩
        · exact decide_eq_false hn
        · dsimp only
          rw [decide_eq_false hn, Bool.and_false]
    · obtain ⟨_, h2, _⟩ := hp
      omega
  · rw [hd] at hv
    rw [hk] at q
    obtain ⟨b, xs, rfl, hb, hx⟩ := dp_tup hv
    cases hx with
    | cons k1 k2 =>
    cases k1
    refine ⟨_, rfl, b, _, _, .str o.w, rfl, rfl, hb, atI_nat (j := 0) rfl, ?_⟩
    refine ⟨_, rfl, by show 2 ≤ sizeLine; decide, fun p0 np0 => ⟨p0, _, rfl, .inr (.of upd_same), rfl, rfl, ?_⟩⟩
    have s0 := same_upd np0 (o := .tup [.str "name", .str "field"])
    rw [if_neg Bool.false_ne_true, ow_names]
    refine ⟨_, rfl, iteF ⟨_, rfl, by show 8 ≤ sizeLine; decide, fun p1 np1 => ⟨p1, _, rfl, .inr (.of upd_same), rfl, rfl, ?_⟩⟩⟩
    have s1 := same_upd np1 (o := .tup [.str "number", .str "negate", .str "length", .str "+", .str "-", .str "*", .str "div", .str "mod"])
    rw [if_neg Bool.false_ne_true, show inV (.str o.w) [.str "number", .str "negate", .str "length", .str "+", .str "-", .str "*", .str "div", .str "mod"] = o.rI by cases o <;> decide +kernel]
    cases hrI : o.rI with
    | true =>
      rw [hrI] at q
      exact ⟨_, rfl, iteT (q _ (s0.trans s1))⟩
    | false =>
      rw [hrI] at q
      refine ⟨_, rfl, iteF ⟨_, rfl, rfl, _, rfl, ?_⟩⟩
      rw [show decide (V.str o.w = V.str "text") = false by cases o <;> exact wne _ _ (by decide)]
      refine iteF ⟨_, rfl, rfl, _, rfl, ?_⟩
      rw [ow_null]
      refine iteF ⟨_, rfl, by show 2 ≤ sizeLine; decide, fun p2 np2 => ⟨p2, _, rfl, .inr (.of upd_same), rfl, rfl, ?_⟩⟩
      have s2 := same_upd np2 (o := .tup [.str "coalesce", .str "if"])
      rw [if_neg Bool.false_ne_true, show inV (.str o.w) [.str "coalesce", .str "if"] = o.ci by cases o <;> decide +kernel, hci]
      exact ⟨_, rfl, iteF (q _ ((s0.trans s1).trans s2))⟩
  · rw [hd] at hv
    rw [hk] at q
    obtain ⟨t, xs, rfl, hb, hx⟩ := dp_tup hv
    cases hx with
    | cons k1 k2 =>
    cases k1
    rename_i xr
    obtain ⟨va, vb, hva, hvb, da, db⟩ : ∃ va vb, atI (V.str o.w :: xr) (-2) = some va ∧ atI (V.str o.w :: xr) (-1) = some vb ∧ Dp K H va a.d ∧ Dp K H vb b.d := by
      rcases hpre with rfl | ⟨t, rfl⟩
      · cases k2 with
        | cons g1 k2 =>
        cases k2 with
        | cons g2 k2 =>
        cases k2
        exact ⟨_, _, rfl, rfl, g1, g2⟩
      · cases k2 with
        | cons g0 k2 =>
        cases k2 with
        | cons g1 k2 =>
        cases k2 with
        | cons g2 k2 =>
        cases k2
        exact ⟨_, _, rfl, rfl, g1, g2⟩
    refine ⟨_, rfl, t, _, _, .str o.w, rfl, rfl, hb, atI_nat (j := 0) rfl, ?_⟩
    refine ⟨_, rfl, by show 2 ≤ sizeLine; decide, fun p0 np0 => ⟨p0, _, rfl, .inr (.of upd_same), rfl, rfl, ?_⟩⟩
    have s0 := same_upd np0 (o := .tup [.str "name", .str "field"])
    rw [if_neg Bool.false_ne_true, ow_names]
    refine ⟨_, rfl, iteF ⟨_, rfl, by show 8 ≤ sizeLine; decide, fun p1 np1 => ⟨p1, _, rfl, .inr (.of upd_same), rfl, rfl, ?_⟩⟩⟩
    have s1 := same_upd np1 (o := .tup [.str "number", .str "negate", .str "length", .str "+", .str "-", .str "*", .str "div", .str "mod"])
    rw [if_neg Bool.false_ne_true, show inV (.str o.w) [.str "number", .str "negate", .str "length", .str "+", .str "-", .str "*", .str "div", .str "mod"] = o.rI by cases o <;> decide +kernel, show o.rI = false by cases o <;> first | rfl | cases hci]
    refine ⟨_, rfl, iteF ⟨_, rfl, rfl, _, rfl, ?_⟩⟩
    rw [show decide (V.str o.w = V.str "text") = false by cases o <;> exact wne _ _ (by decide)]
    refine iteF ⟨_, rfl, rfl, _, rfl, ?_⟩
    rw [ow_null]
    refine iteF ⟨_, rfl, by show 2 ≤ sizeLine; decide, fun p2 np2 => ⟨p2, _, rfl, .inr (.of upd_same), rfl, rfl, ?_⟩⟩
    have s2 := same_upd np2 (o := .tup [.str "coalesce", .str "if"])
    rw [if_neg Bool.false_ne_true, show inV (.str o.w) [.str "coalesce", .str "if"] = o.ci by cases o <;> decide +kernel, hci]
    have s02 := (s0.trans s1).trans s2
    refine ⟨_, rfl, iteT ⟨_, rfl, _, rfl, t, _, _, va, rfl, rfl, SqT.ext s02 hb, hva, _, rfl, va, l, ys, a, ra, rfl, Dp.ext s02 _ _ da, oka, by omega, ea, s02 _ _ el, DpAll.ext s02 _ _ hcs, fun H3 s3 => ?_⟩⟩
    have s03 := s02.trans s3
    refine ⟨_, rfl, rfl, _, rfl, ?_⟩
    rw [kd_non]
    by_cases hn : ra.2.1 = none
    · rw [decide_eq_true hn]
      rw [if_pos hn] at q
      exact iteT ⟨_, rfl, _, rfl, t, _, _, vb, rfl, rfl, SqT.ext s03 hb, hvb, _, rfl, vb, l, ys, b, rb, rfl, Dp.ext s03 _ _ db, okb, by omega, eb, s03 _ _ el, DpAll.ext s03 _ _ hcs, fun H4 s4 => q _ (s03.trans s4)⟩
    · rw [decide_eq_false hn]
      rw [if_neg hn] at q
      exact iteF ⟨_, rfl, q _ s03⟩
theorem cl_wkind {cols : List Col} {f : Addr} {fd : FuncData} (F : Fun K "_law_kind" "_law_kind" s__law_kind f fd) (M : Mg mg) (g : mg "_law_kind" = some (.ref f)) (b : Binds K fd ["tree", "columns"] []) : ∀ n, Cl P w K mg base (n + 1) "_law_kind" (sp_wkind K cols n)
  | 0 => FnOk.cl (P := P) (w := w) (base := base) (F.ok sc__law_kind (fun vs H Q E h => by obtain ⟨v, l, ys, e, r, rfl, _⟩ := h; rfl) (fun cdv A outer s H vs Q E hr h => by obtain ⟨v, l, ys, e, r, rfl, _, _, h0, _⟩ := h; exact absurd h0 (Nat.not_lt_zero _))) F g b
  | n + 1 => FnOk.cl (ok_wkind n F M (cl_wkind F M g b n)) F g b
end

/-! ### the law's value of an expression -/
theorem len2 {α : Type} : ∀ {l : List α}, l.length = 2 → ∃ a b, l = [a, b]
  | [a, b], _ => ⟨a, b, rfl⟩
theorem len3 {α : Type} : ∀ {l : List α}, l.length = 3 → ∃ a b c, l = [a, b, c]
  | [a, b, c], _ => ⟨a, b, c, rfl⟩
theorem ev_view {cols : List Col} {row : List Wv} {e : Et} (h : Ek cols row e) :
    (∃ (w : Str) (u : Wv), e.d = .tuple [.str w, u.p] ∧ evW cols row e = u ∧ inV (.str w) [.str "number", .str "text", .str "truth"] = true) ∨ (e.d = .tuple [.str "null"] ∧ evW cols row e = .n) ∨
    (∃ (w : Str) (rest : List Str) (x : Str) (p : Col → Bool) (i : Nat), e.d = .tuple (.str w :: rest.map PyData.str) ∧ plcs cols p = [i] ∧ evW cols row e = (row[i]?).getD .n ∧ ((w = "name" ∧ rest = [x] ∧ p = fun c : Col => decide (c.nm = x)) ∨ ∃ s, w = "field" ∧ rest = [s, x] ∧ p = fun c : Col => decide (c.src = some s) && decide (c.nm = x))) ∨
    ∃ (o : Ow) (kids : List Et), e.d = .tuple (.str o.w :: kids.map Et.d) ∧ kids.length = o.ar ∧ vok o (kids.map (evW cols row)) ∧ evW cols row e = opW o (kids.map (evW cols row)) ∧ ∀ k ∈ kids, Ek cols row k ∧ k.ht < e.ht := by
  cases e with
  | num i => exact .inl ⟨"number", .i i, rfl, rfl, by decide +kernel⟩
  | text x => exact .inl ⟨"text", .s x, rfl, rfl, by decide +kernel⟩
  | truth i => exact .inl ⟨"truth", .i i, rfl, rfl, by decide +kernel⟩
  | null => exact .inr (.inl ⟨rfl, rfl⟩)
  | name x =>
    obtain ⟨i, hi⟩ := h
    refine .inr (.inr (.inl ⟨"name", [x], x, _, i, rfl, hi, ?_, .inl ⟨rfl, rfl, rfl⟩⟩))
    show (row[at1 cols _]?).getD .n = _
    unfold at1
    rw [hi]
    rfl
  | field s x =>
    obtain ⟨i, hi⟩ := h
    refine .inr (.inr (.inl ⟨"field", [s, x], x, _, i, rfl, hi, ?_, .inr ⟨s, rfl, rfl, rfl⟩⟩))
    show (row[at1 cols _]?).getD .n = _
    unfold at1
    rw [hi]
    rfl
  | op1 o a => exact .inr (.inr (.inr ⟨o, [a], rfl, h.1.symm, h.2.1, rfl, fun k hk => by
      rw [List.mem_singleton.mp hk]
      exact ⟨h.2.2, Nat.lt_succ_self _⟩⟩))
  | op2 o a b => exact .inr (.inr (.inr ⟨o, [a, b], rfl, h.1.symm, h.2.1, rfl, fun k hk => by
      simp only [List.mem_cons, List.not_mem_nil, or_false] at hk
      show _ ∧ _ < max a.ht b.ht + 1
      rcases hk with rfl | rfl
      · exact ⟨h.2.2.1, by omega⟩
      · exact ⟨h.2.2.2, by omega⟩⟩))
  | op3 o a b c => exact .inr (.inr (.inr ⟨o, [a, b, c], rfl, h.1.symm, h.2.1, rfl, fun k hk => by
      simp only [List.mem_cons, List.not_mem_nil, or_false] at hk
      show _ ∧ _ < max a.ht (max b.ht c.ht) + 1
      rcases hk with rfl | rfl | rfl
      · exact ⟨h.2.2.1, by omega⟩
      · exact ⟨h.2.2.2.1, by omega⟩
      · exact ⟨h.2.2.2.2, by omega⟩⟩))
def sp_wval (K : PySem.W.Frag) (cols : List Col) (row : List Wv) (n : Nat) : Sp := fun vs H Q _ => ∃ (v : V) (l rp : Addr) (ys : List V) (e : Et), vs = [v, .ref l, .ref rp] ∧ Dp K H v e.d ∧ Ek cols row e ∧ e.ht < n ∧ H l = some (.lst ys) ∧ DpAll K H ys (cols.map Col.d) ∧ SqT K H rp (row.map Wv.v) ∧ row.length = cols.length ∧ cols.length ≤ 10 ∧ ∀ H', Same H H' → Q (evW cols row e).v H'
section
variable {P : Program} {w : World} {K : PySem.W.Frag} {mg : Str → Option Value} {base : Heap} {C : Addr}
set_option maxHeartbeats 2000000 in
theorem ok_wval {cols : List Col} {row : List Wv} (n : Nat) {f : Addr} {fd : FuncData} (F : Fun K "_law_value" "_law_value" s__law_value f fd) (M : Mg mg) (c__law_value : Cl P w K mg base (n + 2) "_law_value" (sp_wval K cols row n)) (c__law_logic : Cl P w K mg base 2 "_law_logic" sp_wlog) (c__law_count : Cl P w K mg base 2 "_law_count" sp_wcnt) (c__law_compare : Cl P w K mg base 2 "_law_compare" (sp_wcmp)) : FnOk P w K mg base CX0 (n + 3) f fd ["tree", "columns", "row"] (sp_wval K cols row (n + 1)) := by
  refine F.ok sc__law_value (fun vs H Q E h => ?_) (fun cdv A outer s H vs Q E hr h => ?_)
  · obtain ⟨v, l, rp, ys, e, rfl, _⟩ := h
    rfl
  obtain ⟨v, l, rp, ys, e, rfl, hv, hek, hht, el, hcs, hrp, lrow, lc10, q⟩ := h
  refine ⟨_, (pss_cons (ps_set (i := 3) sc__law_value.nd rfl (.inl rfl) (pe_ix (ix_tupK K) (pv 0) pe_int (fun _ _ => rfl)))
      (pss_cons (ps_if (pt_cmpR (inK K) (pv 3) (pe_tup (pa_cons pe_str (pa_cons pe_str (pa_cons pe_str pa_nil)))) (by rfl)) (pss_one (ps_ret (pe_ix (ix_tupK K) (pv 0) pe_int (fun _ _ => rfl)))) pss_nil)
      (pss_cons (ps_if (pt_cmpR op_eq (pv 3) pe_str (nomark _)) (pss_one (ps_ret pe_non)) pss_nil)
      (pss_cons (ps_if (pt_cmpR (inK K) (pv 3) (pe_tup (pa_cons pe_str (pa_cons pe_str pa_nil))) (by rfl)) (pss_one (ps_for PassesOwn.never rfl (pi_range1 (by rfl) M.range (pa_cons (pe_callB (len_seqK K) (by rfl) M.len PySem.boot_len (pa_cons (pv 1) pa_nil)) pa_nil)) (pg_name (i := 4) sc__law_value.nd rfl (.inl rfl)) (pss_one (ps_if (PW.pt (pw_and (pt_cmpR op_eq (pe_ix (ix_tupK K) (pe_ix (ix_listK K) (pv 1) (pv 4) (fun _ _ => rfl)) pe_int (fun _ _ => rfl)) (pe_ix (ix_tupK K) (pv 0) (pe_un un_neg pe_int) (fun _ _ => rfl)) (nomark _)) (pw_and1 (PW.pt (pw_or (pt_cmpR op_eq (pv 3) pe_str (nomark _)) (pw_or1 (pt_cmpR op_eq (pe_ix (ix_tupK K) (pe_ix (ix_listK K) (pv 1) (pv 4) (fun _ _ => rfl)) pe_int (fun _ _ => rfl)) (pe_ix (ix_tupK K) (pv 0) pe_int (fun _ _ => rfl)) (nomark _)))))))) (pss_one (ps_ret (pe_ix (ix_tupK K) (pv 2) (pv 4) (fun _ _ => rfl)))) pss_nil)))) pss_nil)
      (pss_cons (ps_setLc (i := 5) (own := [("part", 6)]) (g := gName 6) (tt := tYes) rfl sc__law_value.nd rfl rfl (sw_true rfl rfl rfl (by decide +kernel)) (pi_tup (pe_slice sl_tup (pv 0) (po_some pe_int) po_none)) (blkOk_by (N := N__law_value) (sc := defScope s__law_value) (by decide +kernel)) (fun _ _ _ _ _ => (pg_name (i := 6) sc__law_value.nd rfl (.inl rfl))) (fun _ _ _ _ _ => pts_nil) (fun _ _ _ _ _ => (pe_u c__law_value hr (by first | decide | omega) (by rfl) (pa_cons (pv 6) (pa_cons (pv 1) (pa_cons (pv 2) pa_nil))))))
      (pss_cons (ps_if (pt_cmpR op_eq (pv 3) pe_str (nomark _)) (pss_one (ps_ret (pe_callTy call_int1 (by rfl) M.int (by decide +kernel) (pa_cons (pe_cmpR op_isN (pe_ix (ix_listK K) (pv 5) pe_int (fun _ _ => rfl)) pe_non (nomark _)) pa_nil)))) pss_nil)
      (pss_cons (ps_if (pt_cmpR op_eq (pv 3) pe_str (nomark _)) (pss_one (ps_ret (pe_ifExp (pt_cmpR op_isN (pe_ix (ix_listK K) (pv 5) pe_int (fun _ _ => rfl)) pe_non (nomark _)) (pe_ix (ix_listK K) (pv 5) pe_int (fun _ _ => rfl)) (pe_ix (ix_listK K) (pv 5) pe_int (fun _ _ => rfl))))) pss_nil)
      (pss_cons (ps_if (pt_cmpR op_eq (pv 3) pe_str (nomark _)) (pss_one (ps_ret (pe_ifExp (pt_cmpR op_eq (pe_ix (ix_listK K) (pv 5) pe_int (fun _ _ => rfl)) pe_int (nomark _)) (pe_ix (ix_listK K) (pv 5) pe_int (fun _ _ => rfl)) (pe_ix (ix_listK K) (pv 5) pe_int (fun _ _ => rfl))))) pss_nil)
      (pss_cons (ps_if (PW.pt (pw_and (pt_cmpR op_isN (pe_ix (ix_listK K) (pv 5) pe_int (fun _ _ => rfl)) pe_non (nomark _)) (pw_and1 (pt_cmpR op_eq (pe_callB (len_seqK K) (by rfl) M.len PySem.boot_len (pa_cons (pv 5) pa_nil)) pe_int (nomark _))))) (pss_one (ps_ret pe_non)) pss_nil)
      (pss_cons (ps_if (pt_cmpR op_eq (pv 3) pe_str (nomark _)) (pss_one (ps_ret (pe_op op_sub pe_int (pe_ix (ix_listK K) (pv 5) pe_int (fun _ _ => rfl))))) pss_nil)
      (pss_cons (ps_if (pt_cmpR op_eq (pv 3) pe_str (nomark _)) (pss_one (ps_ret (pe_un un_neg (pe_ix (ix_listK K) (pv 5) pe_int (fun _ _ => rfl))))) pss_nil)
      (pss_cons (ps_if (pt_cmpR op_eq (pv 3) pe_str (nomark _)) (pss_one (ps_ret (pe_callB call_len_str (by rfl) M.len PySem.boot_len (pa_cons (pe_ix (ix_listK K) (pv 5) pe_int (fun _ _ => rfl)) pa_nil)))) pss_nil)
      (pss_cons (ps_if (pt_cmpR op_eq (pv 3) pe_str (nomark _)) (pss_one (ps_ret (pe_ifExp (PW.pt (pw_or (pt_cmpR op_isN (pe_ix (ix_listK K) (pv 5) pe_int (fun _ _ => rfl)) pe_non (nomark _)) (pw_or1 (pt_cmpR op_isN (pe_ix (ix_listK K) (pv 5) pe_int (fun _ _ => rfl)) pe_non (nomark _))))) pe_non (pe_callTy call_int1 (by rfl) M.int (by decide +kernel) (pa_cons (pe_bmK K PySem.F.plainAttrs_str PySem.F.slot_str_startswith PySem.F.type_str_startswith mt_startswith (pe_ix (ix_listK K) (pv 5) pe_int (fun _ _ => rfl)) (pa_cons (pe_ix (ix_listK K) (pv 5) pe_int (fun _ _ => rfl)) pa_nil)) pa_nil))))) pss_nil)
      (pss_cons (ps_if (pt_cmpR (inK K) (pv 3) (pe_tup (pa_cons pe_str (pa_cons pe_str pa_nil))) (by rfl)) (pss_one (ps_ret (pe_u c__law_logic hr (by first | decide | omega) (by rfl) (pa_cons (pv 3) (pa_cons (pe_ix (ix_listK K) (pv 5) pe_int (fun _ _ => rfl)) (pa_cons (pe_ix (ix_listK K) (pv 5) pe_int (fun _ _ => rfl)) pa_nil)))))) pss_nil)
      (pss_cons (ps_if (pt_cmpR (inK K) (pv 3) (pe_tup (pa_cons pe_str (pa_cons pe_str (pa_cons pe_str (pa_cons pe_str (pa_cons pe_str pa_nil)))))) (by rfl)) (pss_one (ps_ret (pe_u c__law_count hr (by first | decide | omega) (by rfl) (pa_cons (pv 3) (pa_cons (pe_ix (ix_listK K) (pv 5) pe_int (fun _ _ => rfl)) (pa_cons (pe_ix (ix_listK K) (pv 5) pe_int (fun _ _ => rfl)) pa_nil)))))) pss_nil)
      (pss_one (ps_ret (pe_u c__law_compare hr (by first | decide | omega) (by rfl) (pa_cons (pv 3) (pa_cons (pe_ix (ix_listK K) (pv 5) pe_int (fun _ _ => rfl)) (pa_cons (pe_ix (ix_listK K) (pv 5) pe_int (fun _ _ => rfl)) pa_nil))))))))))))))))))))), ?_⟩
  rcases ev_view hek with ⟨w0, u, hd, he, hw⟩ | ⟨hd, he⟩ | ⟨w0, rest, x, p, i, hd, hp, he, hw⟩ | ⟨o, kids, hd, hl, hvok, he, hk⟩
  · rw [hd] at hv
    rw [he] at q
    obtain ⟨b, xs, rfl, hb, hx⟩ := dp_tup hv
    cases hx with
    | cons k1 k2 =>
    cases k1
    cases k2 with
    | cons k2 k3 =>
    cases k3
    rw [dp_wv k2] at hb
    refine ⟨_, rfl, b, _, _, .str w0, rfl, rfl, hb, atI_nat (j := 0) rfl, ?_⟩
    refine ⟨_, rfl, by show 3 ≤ sizeLine; decide, fun p0 np0 => ⟨p0, _, rfl, .inr (.of upd_same), rfl, rfl, ?_⟩⟩
    have s0 := same_upd np0 (o := .tup [.str "number", .str "text", .str "truth"])
    rw [if_neg Bool.false_ne_true, hw]
    exact ⟨_, rfl, iteT ⟨_, rfl, b, _, _, u.v, rfl, rfl, SqT.ext s0 hb, rfl, q _ s0⟩⟩
  · rw [hd] at hv
    rw [he] at q
    obtain ⟨b, xs, rfl, hb, hx⟩ := dp_tup hv
    cases hx with
    | cons k1 k2 =>
    cases k1
    refine ⟨_, rfl, b, _, _, .str "null", rfl, rfl, hb, atI_nat (j := 0) rfl, ?_⟩
    refine ⟨_, rfl, by show 3 ≤ sizeLine; decide, fun p0 np0 => ⟨p0, _, rfl, .inr (.of upd_same), rfl, rfl, ?_⟩⟩
    have s0 := same_upd np0 (o := .tup [.str "number", .str "text", .str "truth"])
    rw [if_neg Bool.false_ne_true, show inV (.str "null") [.str "number", .str "text", .str "truth"] = false by decide +kernel]
    refine ⟨_, rfl, iteF ⟨_, rfl, rfl, _, rfl, ?_⟩⟩
    rw [weq]
    exact iteT (q _ s0)
  · rw [hd] at hv
    rw [he] at q
    obtain ⟨b, xs, rfl, hb, hx⟩ := dp_tup hv
    have hxs : xs = .str w0 :: rest.map V.str := by
      rcases hw with ⟨rfl, rfl, _⟩ | ⟨s, rfl, rfl, _⟩
      · cases hx with
        | cons k1 k2 =>
        cases k1
        cases k2 with
        | cons k2 k3 =>
        cases k2
        cases k3
        rfl
      · cases hx with
        | cons k1 k2 =>
        cases k1
        cases k2 with
        | cons k2 k3 =>
        cases k2
        cases k3 with
        | cons k3 k4 =>
        cases k3
        cases k4
        rfl
    subst hxs
    have lst : atI (V.str w0 :: rest.map V.str) (-1) = some (.str x) := by
      rcases hw with ⟨rfl, rfl, _⟩ | ⟨s, rfl, rfl, _⟩ <;> rfl
    refine ⟨_, rfl, b, _, _, .str w0, rfl, rfl, hb, atI_nat (j := 0) rfl, ?_⟩
    refine ⟨_, rfl, by show 3 ≤ sizeLine; decide, fun p0 np0 => ⟨p0, _, rfl, .inr (.of upd_same), rfl, rfl, ?_⟩⟩
    have s0 := same_upd np0 (o := .tup [.str "number", .str "text", .str "truth"])
    rw [if_neg Bool.false_ne_true, show inV (.str w0) [.str "number", .str "text", .str "truth"] = false by rcases hw with ⟨rfl, _⟩ | ⟨s, rfl, _⟩ <;> decide +kernel]
    refine ⟨_, rfl, iteF ⟨_, rfl, rfl, _, rfl, ?_⟩⟩
    rw [show decide (V.str w0 = V.str "null") = false by rcases hw with ⟨rfl, _⟩ | ⟨s, rfl, _⟩ <;> exact wne _ _ (by decide)]
    refine iteF ⟨_, rfl, by show 2 ≤ sizeLine; decide, fun p1 np1 => ⟨p1, _, rfl, .inr (.of upd_same), rfl, rfl, ?_⟩⟩
    have s1 := same_upd np1 (o := .tup [.str "name", .str "field"])
    rw [if_neg Bool.false_ne_true, show inV (.str w0) [.str "name", .str "field"] = true by rcases hw with ⟨rfl, _⟩ | ⟨s, rfl, _⟩ <;> decide +kernel]
    have s01 := s0.trans s1
    have el0 := s01 _ _ el
    have hcs0 := DpAll.ext s01 _ _ hcs
    have hb0 := SqT.ext s01 hb
    have hr0 := SqT.ext s01 hrp
    have lys : ys.length = cols.length := by rw [DpAll.len hcs, List.length_map]
    refine ⟨_, rfl, iteT ⟨_, rfl, l, ys, rfl, .inl (.of el0), (ys.length : Int), rfl, by omega, by omega, ?_⟩⟩
    generalize upd (upd H p0 (.tup [.str "number", .str "text", .str "truth"])) p1 (.tup [.str "name", .str "field"]) = H0 at s01 el0 hcs0 hb0 hr0 ⊢
    clear s0 s1
    obtain ⟨hic, _⟩ := plcs_lt (cols := cols) (p := p) (i := i) (by rw [hp]; exact List.mem_cons_self)
    refine for_range (lo := 0) (n := ((ys.length : Nat) : Int).toNat) (fun j σ Hj => Hj = H0 ∧ j ≤ i ∧ ∃ z4 z5 z6, σ = [some (.ref b), some (.ref l), some (.ref rp), some (.str w0), z4, z5, z6]) ⟨rfl, Nat.zero_le _, _, _, _, rfl⟩ (fun j σ Hj hj hp' => ?_) (fun σ Hn hp' => ?_)
    · obtain ⟨rfl, hji, z4, z5, z6, rfl⟩ := hp'
      rw [show (0 : Int) + ((j : Nat) : Int) = ((j : Nat) : Int) from Int.zero_add _]
      have hjc : j < cols.length := by omega
      have hcj := List.getElem?_eq_getElem hjc
      obtain ⟨yj, hy, hE⟩ := DpAll.get (i := j) (d := (cols[j]).d) hcs0 (by rw [List.getElem?_map, hcj]; rfl)
      generalize cols[j] = cj at hcj hE
      obtain ⟨tj, sv, rfl, htj, hsv⟩ := dp_col hE
      have hit : p cj = true → j = i := fun hpj => by
        have : j ∈ plcs cols p := by
          unfold plcs
          rw [List.mem_filter, List.mem_range]
          refine ⟨hjc, ?_⟩
          rw [hcj]
          exact hpj
        rw [hp] at this
        exact List.mem_singleton.mp this
      have nohit : p cj = false → j + 1 ≤ i := fun hpj => by
        by_cases e : j = i
        · subst e
          obtain ⟨_, c', hc', hpc⟩ := plcs_lt (cols := cols) (p := p) (i := j) (by rw [hp]; exact List.mem_cons_self)
          rw [hcj] at hc'
          cases hc'
          rw [hpj] at hpc
          cases hpc
        · omega
      have done : p cj = true → ∃ u : Wv, (row.map Wv.v)[j]? = some u.v ∧ Q u.v Hj := fun hpj => by
        have e := hit hpj
        subst e
        have hjr : j < row.length := by omega
        rw [List.getElem?_eq_getElem hjr] at q
        exact ⟨row[j], by rw [List.getElem?_map, List.getElem?_eq_getElem hjr]; rfl, q _ s01⟩
      refine ⟨_, rfl, _, rfl, l, _, _, .ref tj, rfl, rfl, .of el0, atI_nat hy, tj, _, _, .str cj.nm, rfl, rfl, htj, rfl, _, rfl, _, rfl, b, _, _, .str x, rfl, rfl, hb0, lst, rfl, _, rfl, ?_⟩
      rw [str_dec]
      by_cases hn : cj.nm = x
      · rw [decide_eq_true hn]
        refine iteT ⟨_, rfl, rfl, _, rfl, ?_⟩
        rcases hw with ⟨rfl, rfl, rfl⟩ | ⟨sr, rfl, rfl, rfl⟩
        · rw [weq]
          obtain ⟨u, hu, qu⟩ := done (decide_eq_true hn)
          exact iteT (iteT ⟨_, rfl, _, rfl, rp, _, _, u.v, rfl, rfl, hr0, atI_nat hu, qu⟩)
        · rw [wne "field" "name" (by decide)]
          cases hsrc : cj.src with
          | none =>
            rw [hsrc] at hsv
            cases hsv
            refine iteF ⟨_, rfl, _, rfl, l, _, _, .ref tj, rfl, rfl, .of el0, atI_nat hy, tj, _, _, .non, rfl, rfl, htj, rfl, _, rfl, b, _, _, .str sr, rfl, rfl, hb0, rfl, rfl, _, rfl, ?_⟩
            rw [decide_eq_false (fun z => nomatch z)]
            exact iteF ⟨rfl, nohit (by dsimp only; rw [hsrc]; rfl), _, _, _, rfl⟩
          | some sx =>
            rw [hsrc] at hsv
            cases hsv
            refine iteF ⟨_, rfl, _, rfl, l, _, _, .ref tj, rfl, rfl, .of el0, atI_nat hy, tj, _, _, .str sx, rfl, rfl, htj, rfl, _, rfl, b, _, _, .str sr, rfl, rfl, hb0, rfl, rfl, _, rfl, ?_⟩
            rw [str_dec]
            by_cases hs : sx = sr
            · rw [decide_eq_true hs]
              obtain ⟨u, hu, qu⟩ := done (by dsimp only; rw [hsrc, decide_eq_true (congrArg some hs), decide_eq_true hn]; rfl)
              exact iteT ⟨_, rfl, _, rfl, rp, _, _, u.v, rfl, rfl, hr0, atI_nat hu, qu⟩
            · rw [decide_eq_false hs]
              exact iteF ⟨rfl, nohit (by dsimp only; rw [hsrc, decide_eq_false (fun z => hs (Option.some.inj z))]; rfl), _, _, _, rfl⟩
      · rw [decide_eq_false hn]
        refine iteF (iteF ⟨rfl, nohit ?_, _, _, _, rfl⟩)
        rcases hw with ⟨rfl, rfl, rfl⟩ | ⟨sr, rfl, rfl, rfl⟩
        · exact decide_eq_false hn
        · dsimp only
          rw [decide_eq_false hn, Bool.and_false]
    · obtain ⟨_, h2, _⟩ := hp'
      omega
  · rw [hd] at hv
    rw [he] at q
    obtain ⟨b, xs, rfl, hb, hx⟩ := dp_tup hv
    cases hx with
    | @cons _ zs _ _ k1 k2 =>
    cases k1
    refine ⟨_, rfl, b, _, _, .str o.w, rfl, rfl, hb, atI_nat (j := 0) rfl, ?_⟩
    refine ⟨_, rfl, by show 3 ≤ sizeLine; decide, fun p0 np0 => ⟨p0, _, rfl, .inr (.of upd_same), rfl, rfl, ?_⟩⟩
    have s0 := same_upd np0 (o := .tup [.str "number", .str "text", .str "truth"])
    rw [if_neg Bool.false_ne_true, show inV (.str o.w) [.str "number", .str "text", .str "truth"] = false by cases o <;> decide +kernel]
    refine ⟨_, rfl, iteF ⟨_, rfl, rfl, _, rfl, ?_⟩⟩
    rw [ow_null]
    refine iteF ⟨_, rfl, by show 2 ≤ sizeLine; decide, fun p1 np1 => ⟨p1, _, rfl, .inr (.of upd_same), rfl, rfl, ?_⟩⟩
    have s1 := same_upd np1 (o := .tup [.str "name", .str "field"])
    rw [if_neg Bool.false_ne_true, ow_names]
    refine ⟨_, rfl, iteF ?_⟩
    have s01 := s0.trans s1
    generalize upd (upd H p0 (.tup [.str "number", .str "text", .str "truth"])) p1 (.tup [.str "name", .str "field"]) = H1 at s01 ⊢
    clear s0 s1
    have lz : zs.length = kids.length := by rw [DpAll.len k2, List.length_map]
    have har : o.ar ≤ 3 := by cases o <;> decide
    have hcut : cutV (V.str o.w :: zs) (some 1) none = zs := by
      show ((V.str o.w :: zs).drop 1).take (zs.length + 1 - 1) = zs
      rw [Nat.add_sub_cancel, List.drop_one, List.tail_cons, List.take_length]
    refine ⟨_, rfl, _, rfl, b, _, rfl, SqT.ext s01 hb, by show ¬ (1 = 0 ∧ _); exact fun z => absurd z.1 (by decide), fun D1 nD1 => ?_⟩
    rw [hcut]
    have s2 := same_upd nD1 (o := .tup zs)
    have hT : SqT K (upd H1 D1 (.tup zs)) D1 zs := .of upd_same
    generalize upd H1 D1 (.tup zs) = H2 at s2 hT ⊢
    have s02 := s01.trans s2
    refine ⟨D1, rfl, ⟨_, hT⟩, fun D nD => ?_⟩
    refine lc_tup (K := K) (a := D1) (xs := zs) (fun i Hi => Same H2 Hi ∧ Hi D = some (.lst (((kids.take i).map (evW cols row)).map Wv.v))) ⟨same_upd nD, upd_same⟩ (fun i Hi _ hp => SqT.ext hp.1 hT) (fun i y Hi hy hp => ?_) (fun H3 hp => ?_)
    · obtain ⟨si, eD⟩ := hp
      have hi : i < kids.length := by rw [← lz]; exact (List.getElem?_eq_some_iff.mp hy).1
      have hc := List.getElem?_eq_getElem hi
      obtain ⟨z, hz, hE⟩ := DpAll.get (i := i) (d := (kids[i]).d) k2 (by rw [List.getElem?_map, hc]; rfl)
      obtain rfl : z = y := Option.some.inj (hz.symm.trans hy)
      have hki := hk _ (List.getElem_mem hi)
      have s0i := s02.trans si
      generalize kids[i] = k at hc hE hki
      refine ⟨rfl, _, rfl, _, rfl, _, rfl, z, l, rp, ys, k, rfl, Dp.ext s0i _ _ hE, hki.1, by omega, s0i _ _ el, DpAll.ext s0i _ _ hcs, SqT.ext s0i hrp, lrow, lc10, fun H' s' => ?_⟩
      refine ⟨_, s' _ _ eD, ?_, fun b o hb => ?_, ?_⟩
      · rw [List.length_map, List.length_map, List.length_take]
        exact Nat.lt_of_le_of_lt (m := 3) (by omega) (by decide)
      · rw [upd_ne (ne_of_none hb nD)]
        exact s' _ _ (si _ _ hb)
      · rw [upd_same, List.take_add_one, hc, List.map_append, List.map_append]
        rfl
    obtain ⟨s3, eD⟩ := hp
    rw [lz, List.take_of_length_le (Nat.le_refl _)] at eD
    have s03 := s02.trans s3
    have lvs : (kids.map (evW cols row)).length = o.ar := by rw [List.length_map, hl]
    generalize kids.map (evW cols row) = vs at hvok eD lvs q
    replace q : ∀ H', Same H3 H' → Q (opW o vs).v H' := fun H' s' => q H' (s03.trans s')
    clear s02 s01
    refine ⟨_, rfl, rfl, _, rfl, ?_⟩
    rw [ow_missing]
    by_cases h1 : o = .missing
    · subst h1
      obtain ⟨a, rfl⟩ := List.length_eq_one_iff.mp lvs
      rw [decide_eq_true rfl]
      refine iteT ⟨_, rfl, D, _, _, a.v, rfl, rfl, .of eD, rfl, rfl, .inr ⟨_, rfl, ?_⟩⟩
      rw [wv_non]
      have q := q H3 (.refl _)
      cases a <;> exact q
    rw [decide_eq_false h1]
    refine iteF ⟨_, rfl, rfl, _, rfl, ?_⟩
    rw [ow_coalesce]
    by_cases h2 : o = .coalesce
    · subst h2
      obtain ⟨a, b', rfl⟩ := len2 lvs
      rw [decide_eq_true rfl]
      refine iteT ⟨_, rfl, D, _, _, a.v, rfl, rfl, .of eD, rfl, rfl, _, rfl, ?_⟩
      rw [wv_non]
      have q : Q (if a = .n then b' else a).v H3 := q H3 (.refl _)
      by_cases hn : a = .n
      · rw [if_pos hn] at q
        rw [decide_eq_true hn]
        exact iteT ⟨_, rfl, D, _, _, b'.v, rfl, rfl, .of eD, rfl, q⟩
      · rw [if_neg hn] at q
        rw [decide_eq_false hn]
        exact iteF ⟨_, rfl, D, _, _, a.v, rfl, rfl, .of eD, rfl, q⟩
    rw [decide_eq_false h2]
    refine iteF ⟨_, rfl, rfl, _, rfl, ?_⟩
    rw [ow_if]
    by_cases h3 : o = .ite
    · subst h3
      obtain ⟨a, b', c', rfl⟩ := len3 lvs
      rw [decide_eq_true rfl]
      refine iteT ⟨_, rfl, D, _, _, a.v, rfl, rfl, .of eD, rfl, wv_scal a (.i 1), _, rfl, ?_⟩
      rw [show decide (a.v = V.int 1) = decide (a = .i 1) from wv_dec a (.i 1)]
      have q : Q (if a = .i 1 then b' else c').v H3 := q H3 (.refl _)
      by_cases hn : a = .i 1
      · rw [if_pos hn] at q
        rw [decide_eq_true hn]
        exact iteT ⟨_, rfl, D, _, _, b'.v, rfl, rfl, .of eD, rfl, q⟩
      · rw [if_neg hn] at q
        rw [decide_eq_false hn]
        exact iteF ⟨_, rfl, D, _, _, c'.v, rfl, rfl, .of eD, rfl, q⟩
    rw [decide_eq_false h3]
    refine iteF ?_
    have nm : o.ar = 1 ∨ o.ar = 2 := by cases o <;> first | exact .inl rfl | exact .inr rfl | exact absurd rfl h3
    have ownt : decide (V.str o.w = V.str "not") = decide (o = .nt) := by cases o <;> first | exact weq _ | exact wne _ _ (by decide)
    have owneg : decide (V.str o.w = V.str "negate") = decide (o = .neg) := by cases o <;> first | exact weq _ | exact wne _ _ (by decide)
    have owlen : decide (V.str o.w = V.str "length") = decide (o = .length) := by cases o <;> first | exact weq _ | exact wne _ _ (by decide)
    have owsta : decide (V.str o.w = V.str "starts") = decide (o = .starts) := by cases o <;> first | exact weq _ | exact wne _ _ (by decide)
    rcases nm with h4 | h4
    · obtain ⟨a, rfl⟩ := List.length_eq_one_iff.mp (lvs.trans h4)
      refine ⟨_, rfl, D, _, _, a.v, rfl, rfl, .of eD, rfl, rfl, _, rfl, ?_⟩
      rw [wv_non]
      by_cases hn : a = .n
      · subst hn
        rw [decide_eq_true rfl]
        refine iteT ⟨_, rfl, D, _, rfl, .inl (.of eD), rfl, _, rfl, ?_⟩
        rw [show decide (V.int ((([Wv.n].map Wv.v).length : Nat) : Int) = V.int 1) = true from decide_eq_true rfl]
        refine iteT ?_
        have e : opW o [.n] = .n := by
          show (if o = .missing then oneW true else .n) = _
          exact if_neg h1
        rw [e] at q
        exact q _ (.refl _)
      rw [decide_eq_false hn]
      have q : Q (oneOf o a).v H3 := q H3 (.refl _)
      refine iteF (iteF ⟨_, rfl, rfl, _, rfl, ?_⟩)
      rw [ownt]
      by_cases h5 : o = .nt
      · subst h5
        rw [decide_eq_true rfl]
        have fa := hvok.1 .truth .truth rfl a List.mem_cons_self
        cases a with
        | n => exact absurd rfl hn
        | s x => exact fa.elim
        | i k => exact iteT ⟨_, rfl, D, _, _, .int k, rfl, rfl, .of eD, rfl, _, _, rfl, rfl, q⟩
      rw [decide_eq_false h5]
      refine iteF ⟨_, rfl, rfl, _, rfl, ?_⟩
      rw [owneg]
      by_cases h6 : o = .neg
      · subst h6
        rw [decide_eq_true rfl]
        have fa := hvok.1 .int .int rfl a List.mem_cons_self
        cases a with
        | n => exact absurd rfl hn
        | s x => exact fa.elim
        | i k => exact iteT ⟨_, rfl, D, _, _, .int k, rfl, rfl, .of eD, rfl, _, rfl, q⟩
      rw [decide_eq_false h6]
      refine iteF ⟨_, rfl, rfl, _, rfl, ?_⟩
      rw [owlen]
      obtain rfl : o = .length := by cases o <;> first | rfl | (cases h4; done) | exact absurd rfl h1 | exact absurd rfl h5 | exact absurd rfl h6
      rw [decide_eq_true rfl]
      have fa := hvok.1 .text .int rfl a List.mem_cons_self
      cases a with
      | n => exact absurd rfl hn
      | i k => exact fa.elim
      | s x => exact iteT ⟨_, rfl, D, _, _, .str x, rfl, rfl, .of eD, rfl, _, rfl, Nat.le_trans fa.1 (by decide), q⟩
    · obtain ⟨a, b', rfl⟩ := len2 (lvs.trans h4)
      refine ⟨_, rfl, D, _, _, a.v, rfl, rfl, .of eD, rfl, rfl, _, rfl, ?_⟩
      rw [wv_non]
      have e2 : decide (V.int ((([a, b'].map Wv.v).length : Nat) : Int) = V.int 1) = false := decide_eq_false fun z => by
        have := V.int.inj z
        cases this
      cases hn : decide (a = .n)
      case' true =>
        refine iteT ⟨_, rfl, D, _, rfl, .inl (.of eD), rfl, _, rfl, ?_⟩
        rw [e2]
        refine iteF ?_
      case' false => refine iteF (iteF ?_)
      all_goals
        clear hn
        refine ⟨_, rfl, rfl, _, rfl, ?_⟩
        rw [ownt, decide_eq_false (show ¬ o = .nt from fun z => by subst z; cases h4)]
        refine iteF ⟨_, rfl, rfl, _, rfl, ?_⟩
        rw [owneg, decide_eq_false (show ¬ o = .neg from fun z => by subst z; cases h4)]
        refine iteF ⟨_, rfl, rfl, _, rfl, ?_⟩
        rw [owlen, decide_eq_false (show ¬ o = .length from fun z => by subst z; cases h4)]
        refine iteF ⟨_, rfl, rfl, _, rfl, ?_⟩
        rw [owsta]
        by_cases h5 : o = .starts
        · subst h5
          rw [decide_eq_true rfl]
          have fa := hvok.1 .text .truth rfl a List.mem_cons_self
          have fb := hvok.1 .text .truth rfl b' (List.mem_cons_of_mem _ List.mem_cons_self)
          have q : Q (staW a b').v H3 := q H3 (.refl _)
          refine iteT ⟨_, rfl, D, _, _, a.v, rfl, rfl, .of eD, rfl, rfl, _, rfl, ?_⟩
          rw [wv_non]
          cases a with
          | n => exact iteT (iteT q)
          | i k => exact fa.elim
          | s x =>
            refine iteF ⟨_, rfl, D, _, _, b'.v, rfl, rfl, .of eD, rfl, rfl, _, rfl, ?_⟩
            rw [wv_non]
            cases b' with
            | n => exact iteT q
            | i k => exact fb.elim
            | s y => exact iteF ⟨_, rfl, D, _, _, .str x, rfl, rfl, .of eD, rfl, rfl, _, rfl, D, _, _, .str y, rfl, rfl, .of eD, rfl, _, _, rfl, rfl, .inr ⟨_, rfl, q⟩⟩
        rw [decide_eq_false h5]
        refine iteF ⟨_, rfl, by show 2 ≤ sizeLine; decide, fun p3 np3 => ⟨p3, _, rfl, .inr (.of upd_same), rfl, rfl, ?_⟩⟩
        have s4 := same_upd np3 (o := .tup [.str "and", .str "or"])
        have eD4 := s4 _ _ eD
        rw [if_neg Bool.false_ne_true, show inV (.str o.w) [.str "and", .str "or"] = decide (o = .and ∨ o = .or) by cases o <;> decide +kernel]
        by_cases h6 : o = .and ∨ o = .or
        · rw [decide_eq_true h6]
          exact ⟨_, rfl, iteT ⟨_, rfl, _, rfl, D, _, _, a.v, rfl, rfl, .of eD4, rfl, _, rfl, D, _, _, b'.v, rfl, rfl, .of eD4, rfl, o, a, b', h6, rfl, q _ s4⟩⟩
        rw [decide_eq_false h6]
        refine ⟨_, rfl, iteF ⟨_, rfl, by show 5 ≤ sizeLine; decide, fun p4 np4 => ⟨p4, _, rfl, .inr (.of upd_same), rfl, rfl, ?_⟩⟩⟩
        have s5 := s4.trans (same_upd np4 (o := .tup [.str "+", .str "-", .str "*", .str "div", .str "mod"]))
        have eD5 := s5 _ _ eD
        rw [if_neg Bool.false_ne_true]
        by_cases h7 : o.want = some (.int, .int)
        · rw [show inV (.str o.w) [.str "+", .str "-", .str "*", .str "div", .str "mod"] = true by cases o <;> first | decide +kernel | (cases h7; done) | (cases h4; done)]
          have fa := hvok.1 .int .int h7 a List.mem_cons_self
          have fb := hvok.1 .int .int h7 b' (List.mem_cons_of_mem _ List.mem_cons_self)
          have e : opW o [a, b'] = cntW o a b' := by cases o <;> first | rfl | (cases h7; done) | (cases h4; done)
          rw [e] at q
          exact ⟨_, rfl, iteT ⟨_, rfl, _, rfl, D, _, _, a.v, rfl, rfl, .of eD5, rfl, _, rfl, D, _, _, b'.v, rfl, rfl, .of eD5, rfl, o, a, b', h7, h4, rfl, fa, fb, q _ s5⟩⟩
        have hcmp : o.cmp = true := by cases o <;> first | rfl | (cases h4; done) | exact absurd rfl h2 | exact absurd rfl h5 | exact absurd (.inl rfl) h6 | exact absurd (.inr rfl) h6 | exact absurd rfl h7
        rw [show inV (.str o.w) [.str "+", .str "-", .str "*", .str "div", .str "mod"] = false by cases o <;> first | (cases hcmp; done) | decide +kernel]
        obtain ⟨k, hkk⟩ := hvok.2.1 hcmp
        have e : opW o [a, b'] = cmpW o a b' := by cases o <;> first | (cases hcmp; done) | rfl
        rw [e] at q
        exact ⟨_, rfl, iteF ⟨_, rfl, _, rfl, D, _, _, a.v, rfl, rfl, .of eD5, rfl, _, rfl, D, _, _, b'.v, rfl, rfl, .of eD5, rfl, o, a, b', k, hcmp, rfl, hkk a List.mem_cons_self, hkk b' (List.mem_cons_of_mem _ List.mem_cons_self), fun H' s' => q _ (s5.trans s')⟩⟩
theorem cl_wval {cols : List Col} {row : List Wv} {f : Addr} {fd : FuncData} (F : Fun K "_law_value" "_law_value" s__law_value f fd) (M : Mg mg) (g : mg "_law_value" = some (.ref f)) (b : Binds K fd ["tree", "columns", "row"] []) (c__law_logic : Cl P w K mg base 2 "_law_logic" sp_wlog) (c__law_count : Cl P w K mg base 2 "_law_count" sp_wcnt) (c__law_compare : Cl P w K mg base 2 "_law_compare" (sp_wcmp)) : ∀ n, Cl P w K mg base (n + 2) "_law_value" (sp_wval K cols row n)
  | 0 => FnOk.cl (P := P) (w := w) (base := base) (F.ok sc__law_value (fun vs H Q E h => by obtain ⟨v, l, rp, ys, e, rfl, _⟩ := h; rfl) (fun cdv A outer s H vs Q E hr h => by obtain ⟨v, l, rp, ys, e, rfl, _, _, h0, _⟩ := h; exact absurd h0 (Nat.not_lt_zero _))) F g b
  | n + 1 => FnOk.cl (ok_wval n F M (cl_wval F M g b c__law_logic c__law_count c__law_compare n) c__law_logic c__law_count c__law_compare) F g b
end

/-! ### the law's value of a plain form -/
theorem pt_view {row : List Wv} {t : Pt} (h : Pk row t) :
    (∃ i, t.d = .tuple [.str "column", .int ((i : Nat) : Int)] ∧ i < row.length ∧ pvW row t = (row[i]?).getD .n) ∨ (∃ u : Wv, t.d = .tuple [.str "constant", u.p] ∧ pvW row t = u) ∨
    ∃ (o : Ow) (kids : List Pt), t.d = .tuple (.str o.ps :: kids.map Pt.d) ∧ o.pl = true ∧ kids.length = o.ar ∧ vok o (kids.map (pvW row)) ∧ pvW row t = opW o (kids.map (pvW row)) ∧ ∀ k ∈ kids, Pk row k ∧ k.ht < t.ht := by
  cases t with
  | col i => exact .inl ⟨i, rfl, h, rfl⟩
  | con v => exact .inr (.inl ⟨v, rfl, rfl⟩)
  | p1 o a => exact .inr (.inr ⟨o, [a], rfl, h.1, h.2.1.symm, h.2.2.1, rfl, fun k hk => by
      rw [List.mem_singleton.mp hk]
      exact ⟨h.2.2.2, Nat.lt_succ_self _⟩⟩)
  | p2 o a b => exact .inr (.inr ⟨o, [a, b], rfl, h.1, h.2.1.symm, h.2.2.1, rfl, fun k hk => by
      simp only [List.mem_cons, List.not_mem_nil, or_false] at hk
      show _ ∧ _ < max a.ht b.ht + 1
      rcases hk with rfl | rfl
      · exact ⟨h.2.2.2.1, by omega⟩
      · exact ⟨h.2.2.2.2, by omega⟩⟩)
  | p3 o a b c => exact .inr (.inr ⟨o, [a, b, c], rfl, h.1, h.2.1.symm, h.2.2.1, rfl, fun k hk => by
      simp only [List.mem_cons, List.not_mem_nil, or_false] at hk
      show _ ∧ _ < max a.ht (max b.ht c.ht) + 1
      rcases hk with rfl | rfl | rfl
      · exact ⟨h.2.2.2.1, by omega⟩
      · exact ⟨h.2.2.2.2.1, by omega⟩
      · exact ⟨h.2.2.2.2.2, by omega⟩⟩)
def sp_wpln (K : PySem.W.Frag) (row : List Wv) (n : Nat) : Sp := fun vs H Q _ => ∃ (v : V) (rp : Addr) (t : Pt), vs = [v, .ref rp] ∧ Dp K H v t.d ∧ Pk row t ∧ t.ht < n ∧ SqT K H rp (row.map Wv.v) ∧ ∀ H', Same H H' → Q (pvW row t).v H'
theorem two_val (o : Ow) (h : o = .lt ∨ o = .eq) : valV (mergeK [] [((.inr "less" : Key), V.str "<"), (.inr "equal", .str "=")]) (.inr o.ps) = some (.str o.w) := by
  rcases h with rfl | rfl <;> rfl
theorem five_val (o : Ow) (h : o.want = some (.int, .int)) (h2 : o.ar = 2) : valV (mergeK [] [((.inr "add" : Key), V.str "+"), (.inr "subtract", .str "-"), (.inr "multiply", .str "*"), (.inr "divide", .str "div"), (.inr "remainder", .str "mod")]) (.inr o.ps) = some (.str o.w) := by
  cases o <;> first | (cases h; done) | (cases h2; done) | rfl
section
variable {P : Program} {w : World} {K : PySem.W.Frag} {mg : Str → Option Value} {base : Heap} {C : Addr}
set_option maxHeartbeats 2000000 in
theorem ok_wpln {row : List Wv} (n : Nat) {f : Addr} {fd : FuncData} (F : Fun K "_law_plain" "_law_plain" s__law_plain f fd) (M : Mg mg) (c__law_plain : Cl P w K mg base (n + 2) "_law_plain" (sp_wpln K row n)) (c__law_logic : Cl P w K mg base 2 "_law_logic" sp_wlog) (c__law_count : Cl P w K mg base 2 "_law_count" sp_wcnt) (c__law_compare : Cl P w K mg base 2 "_law_compare" (sp_wcmp)) : FnOk P w K mg base CX0 (n + 3) f fd ["expression", "row"] (sp_wpln K row (n + 1)) := by
  refine F.ok sc__law_plain (fun vs H Q E h => ?_) (fun cdv A outer s H vs Q E hr h => ?_)
  · obtain ⟨v, rp, t, rfl, _⟩ := h
    rfl
  obtain ⟨v, rp, t, rfl, hv, hpk, hht, hrp, q⟩ := h
  refine ⟨_, (pss_cons (ps_set (i := 2) sc__law_plain.nd rfl (.inl rfl) (pe_ix (ix_tupK K) (pv 0) pe_int (fun _ _ => rfl)))
      (pss_cons (ps_if (pt_cmpR op_eq (pv 2) pe_str (nomark _)) (pss_one (ps_ret (pe_ix (ix_tupK K) (pv 1) (pe_ix (ix_tupK K) (pv 0) pe_int (fun _ _ => rfl)) (fun _ _ => rfl)))) pss_nil)
      (pss_cons (ps_if (pt_cmpR op_eq (pv 2) pe_str (nomark _)) (pss_one (ps_ret (pe_ix (ix_tupK K) (pv 0) pe_int (fun _ _ => rfl)))) pss_nil)
      (pss_cons (ps_setLc (i := 3) (own := [("part", 5)]) (g := gName 5) (tt := tYes) rfl sc__law_plain.nd rfl rfl (sw_true rfl rfl rfl (by decide +kernel)) (pi_tup (pe_slice sl_tup (pv 0) (po_some pe_int) po_none)) (blkOk_by (N := N__law_plain) (sc := defScope s__law_plain) (by decide +kernel)) (fun _ _ _ _ _ => (pg_name (i := 5) sc__law_plain.nd rfl (.inl rfl))) (fun _ _ _ _ _ => pts_nil) (fun _ _ _ _ _ => (pe_u c__law_plain hr (by first | decide | omega) (by rfl) (pa_cons (pv 5) (pa_cons (pv 1) pa_nil)))))
      (pss_cons (ps_if (pt_cmpR op_eq (pv 2) pe_str (nomark _)) (pss_one (ps_ret (pe_ifExp (PW.pt (pw_and (pt_val (pe_callB (isiK K) (by rfl) M.isinstance (by decide +kernel) (pa_cons (pe_ix (ix_listK K) (pv 3) pe_int (fun _ _ => rfl)) (pa_cons (pe_bltn (v := .ty "int") (by rfl) M.int (by decide +kernel) rfl) pa_nil)))) (pw_and1 (pt_cmpR op_ne (pe_ix (ix_listK K) (pv 3) pe_int (fun _ _ => rfl)) pe_int (nomark _))))) (pe_ix (ix_listK K) (pv 3) pe_int (fun _ _ => rfl)) (pe_ix (ix_listK K) (pv 3) pe_int (fun _ _ => rfl))))) pss_nil)
      (pss_cons (ps_if (pt_cmpR op_eq (pv 2) pe_str (nomark _)) (pss_one (ps_ret (pe_callTy call_int1 (by rfl) M.int (by decide +kernel) (pa_cons (pe_cmpR op_isN (pe_ix (ix_listK K) (pv 3) pe_int (fun _ _ => rfl)) pe_non (nomark _)) pa_nil)))) pss_nil)
      (pss_cons (ps_if (pt_cmpR op_eq (pv 2) pe_str (nomark _)) (pss_one (ps_ret (pe_ifExp (PW.pt (pw_or (pt_cmpR op_isN (pe_ix (ix_listK K) (pv 3) pe_int (fun _ _ => rfl)) pe_non (nomark _)) (pw_or1 (pt_cmpR op_isN (pe_ix (ix_listK K) (pv 3) pe_int (fun _ _ => rfl)) pe_non (nomark _))))) pe_non (pe_callTy call_int1 (by rfl) M.int (by decide +kernel) (pa_cons (pe_bmK K PySem.F.plainAttrs_str PySem.F.slot_str_startswith PySem.F.type_str_startswith mt_startswith (pe_ix (ix_listK K) (pv 3) pe_int (fun _ _ => rfl)) (pa_cons (pe_ix (ix_listK K) (pv 3) pe_int (fun _ _ => rfl)) pa_nil)) pa_nil))))) pss_nil)
      (pss_cons (ps_if (pt_cmpR (inK K) (pv 2) (pe_tup (pa_cons pe_str (pa_cons pe_str pa_nil))) (by rfl)) (pss_one (ps_ret (pe_u c__law_logic hr (by first | decide | omega) (by rfl) (pa_cons (pv 2) (pa_cons (pe_ix (ix_listK K) (pv 3) pe_int (fun _ _ => rfl)) (pa_cons (pe_ix (ix_listK K) (pv 3) pe_int (fun _ _ => rfl)) pa_nil)))))) pss_nil)
      (pss_cons (ps_if (pt_cmpR (inK K) (pv 2) (pe_tup (pa_cons pe_str (pa_cons pe_str pa_nil))) (by rfl)) (pss_one (ps_ret (pe_u c__law_compare hr (by first | decide | omega) (by rfl) (pa_cons (pe_dget (hu_of hr) (pe_disp (pps_cons pe_str pe_str (pps_cons pe_str pe_str pps_nil)) (by rfl) (by rfl) (fun z => by cases z) (by decide)) (pv 2) (fun _ _ => rfl)) (pa_cons (pe_ix (ix_listK K) (pv 3) pe_int (fun _ _ => rfl)) (pa_cons (pe_ix (ix_listK K) (pv 3) pe_int (fun _ _ => rfl)) pa_nil)))))) pss_nil)
      (pss_cons (ps_if (pt_cmpR op_eq (pe_callB (len_seqK K) (by rfl) M.len PySem.boot_len (pa_cons (pv 3) pa_nil)) pe_int (nomark _)) (pss_cons (ps_set (i := 4) sc__law_plain.nd rfl (.inl rfl) (pe_disp (pps_cons pe_str pe_str (pps_cons pe_str pe_str (pps_cons pe_str pe_str (pps_cons pe_str pe_str (pps_cons pe_str pe_str pps_nil))))) (by rfl) (by rfl) (fun z => by cases z) (by decide)))
      (pss_one (ps_ret (pe_u c__law_count hr (by first | decide | omega) (by rfl) (pa_cons (pe_dget (hu_of hr) (pv 4) (pv 2) (fun _ _ => rfl)) (pa_cons (pe_ix (ix_listK K) (pv 3) pe_int (fun _ _ => rfl)) (pa_cons (pe_ix (ix_listK K) (pv 3) pe_int (fun _ _ => rfl)) pa_nil))))))) pss_nil)
      (pss_cons (ps_if (pt_cmpR op_isN (pe_ix (ix_listK K) (pv 3) pe_int (fun _ _ => rfl)) pe_non (nomark _)) (pss_one (ps_ret pe_non)) pss_nil)
      (pss_cons (ps_if (pt_cmpR op_eq (pv 2) pe_str (nomark _)) (pss_one (ps_ret (pe_un un_neg (pe_ix (ix_listK K) (pv 3) pe_int (fun _ _ => rfl))))) pss_nil)
      (pss_one (ps_ret (pe_ifExp (pt_cmpR op_eq (pv 2) pe_str (nomark _)) (pe_op op_sub pe_int (pe_ix (ix_listK K) (pv 3) pe_int (fun _ _ => rfl))) (pe_callB call_len_str (by rfl) M.len PySem.boot_len (pa_cons (pe_ix (ix_listK K) (pv 3) pe_int (fun _ _ => rfl)) pa_nil))))))))))))))))), ?_⟩
  rcases pt_view hpk with ⟨i, hd, hi, he⟩ | ⟨u, hd, he⟩ | ⟨o, kids, hd, hpl, hl, hvok, he, hk⟩
  · rw [hd] at hv
    rw [he, List.getElem?_eq_getElem hi] at q
    obtain ⟨b, xs, rfl, hb, hx⟩ := dp_tup hv
    cases hx with
    | cons k1 k2 =>
    cases k1
    cases k2 with
    | cons k2 k3 =>
    cases k2
    cases k3
    refine ⟨_, rfl, b, _, _, .str "column", rfl, rfl, hb, atI_nat (j := 0) rfl, ?_⟩
    refine ⟨_, rfl, rfl, _, rfl, ?_⟩
    rw [weq]
    exact iteT ⟨_, rfl, _, rfl, b, _, _, .int (i : Nat), rfl, rfl, hb, rfl, rp, _, _, (row[i]).v, rfl, rfl, hrp, atI_nat (by rw [List.getElem?_map, List.getElem?_eq_getElem hi]; rfl), q _ (.refl _)⟩
  · rw [hd] at hv
    rw [he] at q
    obtain ⟨b, xs, rfl, hb, hx⟩ := dp_tup hv
    cases hx with
    | cons k1 k2 =>
    cases k1
    cases k2 with
    | cons k2 k3 =>
    cases k3
    rw [dp_wv k2] at hb
    refine ⟨_, rfl, b, _, _, .str "constant", rfl, rfl, hb, atI_nat (j := 0) rfl, ?_⟩
    refine ⟨_, rfl, rfl, _, rfl, ?_⟩
    rw [wne "constant" "column" (by decide)]
    refine iteF ⟨_, rfl, rfl, _, rfl, ?_⟩
    rw [weq]
    exact iteT ⟨_, rfl, b, _, _, u.v, rfl, rfl, hb, rfl, q _ (.refl _)⟩
  · rw [hd] at hv
    rw [he] at q
    obtain ⟨b, xs, rfl, hb, hx⟩ := dp_tup hv
    cases hx with
    | @cons _ zs _ _ k1 k2 =>
    cases k1
    refine ⟨_, rfl, b, _, _, .str o.ps, rfl, rfl, hb, atI_nat (j := 0) rfl, ?_⟩
    refine ⟨_, rfl, rfl, _, rfl, ?_⟩
    rw [show decide (V.str o.ps = V.str "column") = false by cases o <;> exact wne _ _ (by decide)]
    refine iteF ⟨_, rfl, rfl, _, rfl, ?_⟩
    rw [show decide (V.str o.ps = V.str "constant") = false by cases o <;> exact wne _ _ (by decide)]
    refine iteF ?_
    have lz : zs.length = kids.length := by rw [DpAll.len k2, List.length_map]
    have har : o.ar ≤ 3 := by cases o <;> decide
    have hcut : cutV (V.str o.ps :: zs) (some 1) none = zs := by
      show ((V.str o.ps :: zs).drop 1).take (zs.length + 1 - 1) = zs
      rw [Nat.add_sub_cancel, List.drop_one, List.tail_cons, List.take_length]
    refine ⟨_, rfl, _, rfl, b, _, rfl, hb, by show ¬ (1 = 0 ∧ _); exact fun z => absurd z.1 (by decide), fun D1 nD1 => ?_⟩
    rw [hcut]
    have s2 := same_upd nD1 (o := .tup zs)
    have hT : SqT K (upd H D1 (.tup zs)) D1 zs := .of upd_same
    generalize upd H D1 (.tup zs) = H2 at s2 hT ⊢
    refine ⟨D1, rfl, ⟨_, hT⟩, fun D nD => ?_⟩
    refine lc_tup (K := K) (a := D1) (xs := zs) (fun i Hi => Same H2 Hi ∧ Hi D = some (.lst (((kids.take i).map (pvW row)).map Wv.v))) ⟨same_upd nD, upd_same⟩ (fun i Hi _ hp => SqT.ext hp.1 hT) (fun i y Hi hy hp => ?_) (fun H3 hp => ?_)
    · obtain ⟨si, eD⟩ := hp
      have hi : i < kids.length := by rw [← lz]; exact (List.getElem?_eq_some_iff.mp hy).1
      have hc := List.getElem?_eq_getElem hi
      obtain ⟨z, hz, hE⟩ := DpAll.get (i := i) (d := (kids[i]).d) k2 (by rw [List.getElem?_map, hc]; rfl)
      obtain rfl : z = y := Option.some.inj (hz.symm.trans hy)
      have hki := hk _ (List.getElem_mem hi)
      have s0i := s2.trans si
      generalize kids[i] = k at hc hE hki
      refine ⟨rfl, _, rfl, _, rfl, z, rp, k, rfl, Dp.ext s0i _ _ hE, hki.1, by omega, SqT.ext s0i hrp, fun H' s' => ?_⟩
      refine ⟨_, s' _ _ eD, ?_, fun b o hb => ?_, ?_⟩
      · rw [List.length_map, List.length_map, List.length_take]
        exact Nat.lt_of_le_of_lt (m := 3) (by omega) (by decide)
      · rw [upd_ne (ne_of_none hb nD)]
        exact s' _ _ (si _ _ hb)
      · rw [upd_same, List.take_add_one, hc, List.map_append, List.map_append]
        rfl
    obtain ⟨s3, eD⟩ := hp
    rw [lz, List.take_of_length_le (Nat.le_refl _)] at eD
    have s03 := s2.trans s3
    have lvs : (kids.map (pvW row)).length = o.ar := by rw [List.length_map, hl]
    generalize kids.map (pvW row) = vs at hvok eD lvs q
    replace q : ∀ H', Same H3 H' → Q (opW o vs).v H' := fun H' s' => q H' (s03.trans s')
    clear s2
    refine ⟨_, rfl, rfl, _, rfl, ?_⟩
    rw [show decide (V.str o.ps = V.str "choose") = decide (o = .ite) by cases o <;> first | exact weq _ | exact wne _ _ (by decide)]
    by_cases h3 : o = .ite
    · subst h3
      obtain ⟨a, b', c', rfl⟩ := len3 lvs
      rw [decide_eq_true rfl]
      have fa := hvok.2.2 rfl a _ rfl
      have q : Q (if a = .i 1 then b' else c').v H3 := q H3 (.refl _)
      refine iteT ⟨_, rfl, D, _, _, a.v, rfl, rfl, .of eD, rfl, _, _, _, _, _, rfl, .ty _, a.ty, kit_ty a.kI, _, rfl, ?_⟩
      cases a with
      | n => exact iteF (iteF ⟨_, rfl, D, _, _, c'.v, rfl, rfl, .of eD, rfl, q⟩)
      | s x => exact fa.elim
      | i k =>
        rcases fa with rfl | rfl
        · refine iteT ⟨_, rfl, D, _, _, .int 0, rfl, rfl, .of eD, rfl, rfl, _, rfl, ?_⟩
          exact iteF ⟨_, rfl, D, _, _, c'.v, rfl, rfl, .of eD, rfl, q⟩
        · refine iteT ⟨_, rfl, D, _, _, .int 1, rfl, rfl, .of eD, rfl, rfl, _, rfl, ?_⟩
          exact iteT ⟨_, rfl, D, _, _, b'.v, rfl, rfl, .of eD, rfl, q⟩
    rw [decide_eq_false h3]
    refine iteF ⟨_, rfl, rfl, _, rfl, ?_⟩
    rw [show decide (V.str o.ps = V.str "missing") = decide (o = .missing) by cases o <;> first | exact weq _ | exact wne _ _ (by decide)]
    by_cases h1 : o = .missing
    · subst h1
      obtain ⟨a, rfl⟩ := List.length_eq_one_iff.mp lvs
      rw [decide_eq_true rfl]
      refine iteT ⟨_, rfl, D, _, _, a.v, rfl, rfl, .of eD, rfl, rfl, .inr ⟨_, rfl, ?_⟩⟩
      rw [wv_non]
      have q := q H3 (.refl _)
      cases a <;> exact q
    rw [decide_eq_false h1]
    refine iteF ⟨_, rfl, rfl, _, rfl, ?_⟩
    rw [show decide (V.str o.ps = V.str "starts") = decide (o = .starts) by cases o <;> first | exact weq _ | exact wne _ _ (by decide)]
    by_cases h5 : o = .starts
    · subst h5
      obtain ⟨a, b', rfl⟩ := len2 lvs
      rw [decide_eq_true rfl]
      have fa := hvok.1 .text .truth rfl a List.mem_cons_self
      have fb := hvok.1 .text .truth rfl b' (List.mem_cons_of_mem _ List.mem_cons_self)
      have q : Q (staW a b').v H3 := q H3 (.refl _)
      refine iteT ⟨_, rfl, D, _, _, a.v, rfl, rfl, .of eD, rfl, rfl, _, rfl, ?_⟩
      rw [wv_non]
      cases a with
      | n => exact iteT (iteT q)
      | i k => exact fa.elim
      | s x =>
        refine iteF ⟨_, rfl, D, _, _, b'.v, rfl, rfl, .of eD, rfl, rfl, _, rfl, ?_⟩
        rw [wv_non]
        cases b' with
        | n => exact iteT q
        | i k => exact fb.elim
        | s y => exact iteF ⟨_, rfl, D, _, _, .str x, rfl, rfl, .of eD, rfl, rfl, _, rfl, D, _, _, .str y, rfl, rfl, .of eD, rfl, _, _, rfl, rfl, .inr ⟨_, rfl, q⟩⟩
    rw [decide_eq_false h5]
    refine iteF ⟨_, rfl, by show 2 ≤ sizeLine; decide, fun p3 np3 => ⟨p3, _, rfl, .inr (.of upd_same), rfl, rfl, ?_⟩⟩
    have s4 := same_upd np3 (o := .tup [.str "and", .str "or"])
    have eD4 := s4 _ _ eD
    rw [if_neg Bool.false_ne_true, show inV (.str o.ps) [.str "and", .str "or"] = decide (o = .and ∨ o = .or) by cases o <;> decide +kernel]
    by_cases h6 : o = .and ∨ o = .or
    · obtain ⟨a, b', rfl⟩ := len2 (lvs.trans (by rcases h6 with rfl | rfl <;> rfl))
      rw [decide_eq_true h6]
      have ew : o.ps = o.w := by rcases h6 with rfl | rfl <;> rfl
      exact ⟨_, rfl, iteT ⟨_, rfl, _, rfl, D, _, _, a.v, rfl, rfl, .of eD4, rfl, _, rfl, D, _, _, b'.v, rfl, rfl, .of eD4, rfl, o, a, b', h6, (by rw [ew]; rfl), q _ s4⟩⟩
    rw [decide_eq_false h6]
    refine ⟨_, rfl, iteF ⟨_, rfl, by show 2 ≤ sizeLine; decide, fun p4 np4 => ⟨p4, _, rfl, .inr (.of upd_same), rfl, rfl, ?_⟩⟩⟩
    have s5 := s4.trans (same_upd np4 (o := .tup [.str "less", .str "equal"]))
    have eD5 := s5 _ _ eD
    rw [if_neg Bool.false_ne_true, show inV (.str o.ps) [.str "less", .str "equal"] = decide (o = .lt ∨ o = .eq) by cases o <;> decide +kernel]
    generalize upd (upd H3 p3 (.tup [.str "and", .str "or"])) p4 (.tup [.str "less", .str "equal"]) = H5 at s5 eD5 ⊢
    clear s4 eD4
    by_cases h7 : o = .lt ∨ o = .eq
    · obtain ⟨a, b', rfl⟩ := len2 (lvs.trans (by rcases h7 with rfl | rfl <;> rfl))
      rw [decide_eq_true h7]
      have hcmp : o.cmp = true := by rcases h7 with rfl | rfl <;> rfl
      obtain ⟨k, hkk⟩ := hvok.2.1 hcmp
      have e : opW o [a, b'] = cmpW o a b' := by rcases h7 with rfl | rfl <;> rfl
      rw [e] at q
      refine ⟨_, rfl, iteT fun D2 nD2 => ⟨upd_same, [((.inr "less" : Key), V.str "<"), (.inr "equal", .str "=")], rfl, by show 2 ≤ 15; decide, ?_⟩⟩
      have s6 : Same H5 (upd (upd H5 D2 (.dK [])) D2 (.dK (mergeK [] [((.inr "less" : Key), V.str "<"), (.inr "equal", .str "=")]))) := fun x ob hx => by
        rw [upd_ne (ne_of_none hx nD2), upd_ne (ne_of_none hx nD2)]
        exact hx
      have eD6 := s6 _ _ eD5
      exact ⟨_, rfl, D2, .str o.w, rfl, .inl ⟨_, .inr o.ps, .of upd_same, rfl, (two_val o h7).symm⟩, _, rfl, D, _, _, a.v, rfl, rfl, .of eD6, rfl, _, rfl, D, _, _, b'.v, rfl, rfl, .of eD6, rfl, o, a, b', k, hcmp, rfl, hkk a List.mem_cons_self, hkk b' (List.mem_cons_of_mem _ List.mem_cons_self), fun H' s' => q _ ((s5.trans s6).trans s')⟩
    rw [decide_eq_false h7]
    refine ⟨_, rfl, iteF ?_⟩
    have nm : o.ar = 1 ∨ o.ar = 2 := by cases o <;> first | exact .inl rfl | exact .inr rfl | exact absurd rfl h3
    rcases nm with h4 | h4
    · obtain ⟨a, rfl⟩ := List.length_eq_one_iff.mp (lvs.trans h4)
      refine ⟨_, rfl, D, _, rfl, .inl (.of eD5), rfl, _, rfl, ?_⟩
      rw [show decide (V.int ((([a].map Wv.v).length : Nat) : Int) = V.int 2) = false from decide_eq_false fun z => by
        have := V.int.inj z
        cases this]
      refine iteF ⟨_, rfl, D, _, _, a.v, rfl, rfl, .of eD5, rfl, rfl, _, rfl, ?_⟩
      rw [wv_non]
      by_cases hn : a = .n
      · subst hn
        rw [decide_eq_true rfl]
        refine iteT ?_
        have e : opW o [.n] = .n := by
          show (if o = .missing then oneW true else .n) = _
          exact if_neg h1
        rw [e] at q
        exact q _ s5
      rw [decide_eq_false hn]
      have q : Q (oneOf o a).v H5 := q _ s5
      refine iteF ⟨_, rfl, rfl, _, rfl, ?_⟩
      rw [show decide (V.str o.ps = V.str "negate") = decide (o = .neg) by cases o <;> first | exact weq _ | exact wne _ _ (by decide)]
      by_cases h8 : o = .neg
      · subst h8
        rw [decide_eq_true rfl]
        have fa := hvok.1 .int .int rfl a List.mem_cons_self
        cases a with
        | n => exact absurd rfl hn
        | s x => exact fa.elim
        | i k => exact iteT ⟨_, rfl, D, _, _, .int k, rfl, rfl, .of eD5, rfl, _, rfl, q⟩
      rw [decide_eq_false h8]
      refine iteF ⟨_, rfl, rfl, _, rfl, ?_⟩
      rw [show decide (V.str o.ps = V.str "not") = decide (o = .nt) by cases o <;> first | exact weq _ | exact wne _ _ (by decide)]
      by_cases h9 : o = .nt
      · subst h9
        rw [decide_eq_true rfl]
        have fa := hvok.1 .truth .truth rfl a List.mem_cons_self
        cases a with
        | n => exact absurd rfl hn
        | s x => exact fa.elim
        | i k => exact iteT ⟨_, rfl, D, _, _, .int k, rfl, rfl, .of eD5, rfl, _, _, rfl, rfl, q⟩
      rw [decide_eq_false h9]
      obtain rfl : o = .length := by cases o <;> first | rfl | (cases h4; done) | exact absurd rfl h1 | exact absurd rfl h8 | exact absurd rfl h9
      have fa := hvok.1 .text .int rfl a List.mem_cons_self
      cases a with
      | n => exact absurd rfl hn
      | i k => exact fa.elim
      | s x => exact iteF ⟨_, rfl, D, _, _, .str x, rfl, rfl, .of eD5, rfl, _, rfl, Nat.le_trans fa.1 (by decide), q⟩
    · obtain ⟨a, b', rfl⟩ := len2 (lvs.trans h4)
      refine ⟨_, rfl, D, _, rfl, .inl (.of eD5), rfl, _, rfl, ?_⟩
      rw [show decide (V.int ((([a, b'].map Wv.v).length : Nat) : Int) = V.int 2) = true from decide_eq_true rfl]
      have hw : o.want = some (.int, .int) := by cases o <;> first | rfl | (cases h4; done) | (cases hpl; done) | exact absurd rfl h5 | exact absurd (.inl rfl) h6 | exact absurd (.inr rfl) h6 | exact absurd (.inl rfl) h7 | exact absurd (.inr rfl) h7
      refine iteT fun D2 nD2 => ⟨upd_same, [((.inr "add" : Key), V.str "+"), (.inr "subtract", .str "-"), (.inr "multiply", .str "*"), (.inr "divide", .str "div"), (.inr "remainder", .str "mod")], rfl, by show 5 ≤ 15; decide, ?_⟩
      have s6 : Same H5 (upd (upd H5 D2 (.dK [])) D2 (.dK (mergeK [] [((.inr "add" : Key), V.str "+"), (.inr "subtract", .str "-"), (.inr "multiply", .str "*"), (.inr "divide", .str "div"), (.inr "remainder", .str "mod")]))) := fun x ob hx => by
        rw [upd_ne (ne_of_none hx nD2), upd_ne (ne_of_none hx nD2)]
        exact hx
      have eD6 := s6 _ _ eD5
      have e : opW o [a, b'] = cntW o a b' := by cases o <;> first | rfl | (cases hw; done) | (cases h4; done)
      rw [e] at q
      have fa := hvok.1 .int .int hw a List.mem_cons_self
      have fb := hvok.1 .int .int hw b' (List.mem_cons_of_mem _ List.mem_cons_self)
      exact ⟨_, rfl, _, rfl, D2, .str o.w, rfl, .inl ⟨_, .inr o.ps, .of upd_same, rfl, (five_val o hw h4).symm⟩, _, rfl, D, _, _, a.v, rfl, rfl, .of eD6, rfl, _, rfl, D, _, _, b'.v, rfl, rfl, .of eD6, rfl, o, a, b', hw, h4, rfl, fa, fb, q _ (s5.trans s6)⟩
theorem cl_wpln {row : List Wv} {f : Addr} {fd : FuncData} (F : Fun K "_law_plain" "_law_plain" s__law_plain f fd) (M : Mg mg) (g : mg "_law_plain" = some (.ref f)) (b : Binds K fd ["expression", "row"] []) (c__law_logic : Cl P w K mg base 2 "_law_logic" sp_wlog) (c__law_count : Cl P w K mg base 2 "_law_count" sp_wcnt) (c__law_compare : Cl P w K mg base 2 "_law_compare" (sp_wcmp)) : ∀ n, Cl P w K mg base (n + 2) "_law_plain" (sp_wpln K row n)
  | 0 => FnOk.cl (P := P) (w := w) (base := base) (F.ok sc__law_plain (fun vs H Q E h => by obtain ⟨v, rp, t, rfl, _⟩ := h; rfl) (fun cdv A outer s H vs Q E hr h => by obtain ⟨v, rp, t, rfl, _, _, h0, _⟩ := h; exact absurd h0 (Nat.not_lt_zero _))) F g b
  | n + 1 => FnOk.cl (ok_wpln n F M (cl_wpln F M g b c__law_logic c__law_count c__law_compare n) c__law_logic c__law_count c__law_compare) F g b
end

def FnOk.exs {α : Type} {P : Program} {w : World} {K : PySem.W.Frag} {mg : Str → Option Value} {base : Heap} {CX : CXT} {k : Nat} {f : Addr} {fd : FuncData} {ps : List Str} {sp : α → Sp} {p : α → Prop} (h : ∀ x, p x → FnOk P w K mg base CX k f fd ps (sp x)) : FnOk P w K mg base CX k f fd ps (fun vs H Q E => ∃ x, p x ∧ sp x vs H Q E) :=
  ⟨fun vs H Q E ⟨x, hx, q⟩ => (h x hx).len vs H Q E q, fun A outer s H args us vs Q E hr he hb hv ⟨x, hx, q⟩ => (h x hx).run A outer s H args us vs Q E hr he hb hv q⟩
theorem cpl_ht (cols : List Col) : ∀ e : Et, (cpl cols e).ht ≤ 2 * e.ht
  | .num _ => Nat.zero_le _
  | .text _ => Nat.zero_le _
  | .truth _ => Nat.zero_le _
  | .null => Nat.zero_le _
  | .name _ => Nat.zero_le _
  | .field _ _ => Nat.zero_le _
  | .op1 o a => by
    have := cpl_ht cols a
    show (cpl cols a).ht + 1 ≤ 2 * (a.ht + 1)
    omega
  | .op2 o a b => by
    have h1 := cpl_ht cols a
    have h2 := cpl_ht cols b
    show (cplO o [cpl cols a, cpl cols b]).ht ≤ 2 * (max a.ht b.ht + 1)
    cases o <;> simp only [cplO, Pt.ht] <;> omega
  | .op3 o a b c => by
    have h1 := cpl_ht cols a
    have h2 := cpl_ht cols b
    have h3 := cpl_ht cols c
    show max (cpl cols a).ht (max (cpl cols b).ht (cpl cols c).ht) + 1 ≤ 2 * (max a.ht (max b.ht c.ht) + 1)
    omega
theorem sz_ht : ∀ e : Et, e.ok → e.sz + 1 ≤ 2 * 3 ^ e.ht
  | .num _, _ => (by decide : 1 + 1 ≤ 2 * 3 ^ 0)
  | .text _, _ => (by decide : 1 + 1 ≤ 2 * 3 ^ 0)
  | .truth _, _ => (by decide : 1 + 1 ≤ 2 * 3 ^ 0)
  | .null, _ => (by decide : 1 + 1 ≤ 2 * 3 ^ 0)
  | .name _, _ => (by decide : 1 + 1 ≤ 2 * 3 ^ 0)
  | .field _ _, _ => (by decide : 1 + 1 ≤ 2 * 3 ^ 0)
  | .op1 o a, h => by
    have h1 := sz_ht a h.2
    have hp : (3 : Nat) ^ (a.ht + 1) = 3 ^ a.ht * 3 := Nat.pow_succ ..
    have hz : opZ o [a.sz] ≤ 2 + a.sz := by cases o <;> simp [opZ]
    show opZ o [a.sz] + 1 ≤ 2 * 3 ^ (a.ht + 1)
    omega
  | .op2 o a b, h => by
    have h1 := sz_ht a h.2.1
    have h2 := sz_ht b h.2.2
    have hp : (3 : Nat) ^ (max a.ht b.ht + 1) = 3 ^ max a.ht b.ht * 3 := Nat.pow_succ ..
    have m1 : (3 : Nat) ^ a.ht ≤ 3 ^ max a.ht b.ht := Nat.pow_le_pow_right (by decide) (Nat.le_max_left ..)
    have m2 : (3 : Nat) ^ b.ht ≤ 3 ^ max a.ht b.ht := Nat.pow_le_pow_right (by decide) (Nat.le_max_right ..)
    have hz : opZ o [a.sz, b.sz] ≤ 2 + 2 * a.sz + b.sz := by cases o <;> simp [opZ] <;> omega
    show opZ o [a.sz, b.sz] + 1 ≤ 2 * 3 ^ (max a.ht b.ht + 1)
    omega
  | .op3 o a b c, h => by
    have h1 := sz_ht a h.2.1
    have h2 := sz_ht b h.2.2.1
    have h3 := sz_ht c h.2.2.2
    have hp : (3 : Nat) ^ (max a.ht (max b.ht c.ht) + 1) = 3 ^ max a.ht (max b.ht c.ht) * 3 := Nat.pow_succ ..
    have m1 : (3 : Nat) ^ a.ht ≤ 3 ^ max a.ht (max b.ht c.ht) := Nat.pow_le_pow_right (by decide) (Nat.le_max_left ..)
    have m2 : (3 : Nat) ^ b.ht ≤ 3 ^ max a.ht (max b.ht c.ht) := Nat.pow_le_pow_right (by decide) (Nat.le_trans (Nat.le_max_left ..) (Nat.le_max_right ..))
    have m3 : (3 : Nat) ^ c.ht ≤ 3 ^ max a.ht (max b.ht c.ht) := Nat.pow_le_pow_right (by decide) (Nat.le_trans (Nat.le_max_right ..) (Nat.le_max_right ..))
    have ho : o = .ite := by cases o <;> first | rfl | cases h.1
    subst ho
    show 1 + (a.sz + (b.sz + (c.sz + 0))) + 1 ≤ 2 * 3 ^ (max a.ht (max b.ht c.ht) + 1)
    omega
def sp_typedE (K : PySem.W.Frag) : Sp := fun vs H Q E => ∃ cols, Cok cols ∧ sp_typed K cols 4 vs H Q E
def sp_wkindE (K : PySem.W.Frag) : Sp := fun vs H Q E => ∃ cols : List Col, True ∧ sp_wkind K cols 5 vs H Q E
def sp_wplnE (K : PySem.W.Frag) : Sp := fun vs H Q E => ∃ row : List Wv, True ∧ sp_wpln K row 15 vs H Q E
def sp_wvalE (K : PySem.W.Frag) : Sp := fun vs H Q E => ∃ x : List Col × List Wv, True ∧ sp_wval K x.1 x.2 5 vs H Q E
theorem col_sh : ∀ {c : Col}, c.ok → PyData.canLay0 c.d = true ∧ PyData.depth c.d ≤ 2
  | ⟨src, nm, kd⟩, h => by
    have hk : PyData.canLay0 (kdD kd) = true ∧ PyData.depth (kdD kd) = 0 := by
      cases kd with
      | none => exact ⟨rfl, rfl⟩
      | some k => cases k <;> exact ⟨by decide +kernel, rfl⟩
    cases src with
    | none => simp [Col.d, srcD, PyData.canLay0, PyData.depth, PyData.canLayAll0, PyData.depthAll, h.1, hk.1, hk.2]
    | some x => simp [Col.d, srcD, PyData.canLay0, PyData.depth, PyData.canLayAll0, PyData.depthAll, h.1, h.2 x rfl, hk.1, hk.2]
theorem cols_sh : ∀ {cols : List Col}, (∀ c ∈ cols, c.ok) → PyData.canLayAll0 (cols.map Col.d) = true ∧ PyData.depthAll (cols.map Col.d) ≤ 2
  | [], _ => ⟨rfl, Nat.zero_le _⟩
  | c :: cols, h => by
    have h1 := col_sh (h c List.mem_cons_self)
    have h2 := cols_sh fun x hx => h x (List.mem_cons_of_mem _ hx)
    simp [PyData.canLayAll0, PyData.depthAll, h1.1, h2.1]
    omega
theorem cols_ne {K : PySem.W.Frag} {H : Hp} {cols : List Col} {ys : List V} {l l2 : Addr} (ck : Cok cols) (h : DpAll K H ys (cols.map Col.d)) (e1 : H l = some (.lst ys)) (e2 : H l2 = some (.lst ys)) {Q : VK} (q : Q (.bl false) H) : rNeD K (.ref l) (.ref l2) H Q := by
  have hc := cols_sh fun c hc => (ck.ok c hc).1
  have hl : PyData.canLay0 (.list (cols.map Col.d)) = true := by
    unfold PyData.canLay0
    exact hc.1
  have sh : SeqAt.shaped (.list (cols.map Col.d)) = true := by
    unfold SeqAt.shaped
    rw [Bool.and_eq_true]
    refine ⟨hl, decide_eq_true ?_⟩
    have : PyData.depth (.list (cols.map Col.d)) ≤ 3 := by
      unfold PyData.depth
      omega
    exact Nat.le_trans this (by decide)
  refine ⟨_, _, .lst (.of e1) h, .lst (.of e2) h, sh, sh, ?_⟩
  rw [PySem.SeqAt.eqv_refl _ hl]
  exact q
def sp_law (K : PySem.W.Frag) : Sp := fun vs H Q _ => ∃ (a : Addr) (ns : List Int), vs = [.ref a] ∧ SqL K H a (ns.map V.int) ∧ ns.length ≤ 63 ∧ ∀ H', Q (.bl true) H'
section
variable {P : Program} {w : World} {K : PySem.W.Frag} {mg : Str → Option Value} {base : Heap} {C : Addr}
set_option maxHeartbeats 1000000 in
theorem ok_law {f : Addr} {fd : FuncData} (F : Fun K "law" "law" s_law f fd) (M : Mg mg) (c__law_draw : Cl P w K mg base 1 "_law_draw" (sp_draw K)) (c__law_next : Cl P w K mg base 1 "_law_next" sp_next) (c__law_columns : Cl P w K mg base 2 "_law_columns" (sp_wcols K)) (c__law_typed : Cl P w K mg base 10 "_law_typed" (sp_typedE K)) (cx_compile_expression : ClX P w K mg base 36 "compile_expression" (sp_ce C K 30)) (c__law_kind : Cl P w K mg base 6 "_law_kind" (sp_wkindE K)) (c__law_row : Cl P w K mg base 3 "_law_row" (sp_wrow K)) (c__law_plain : Cl P w K mg base 17 "_law_plain" (sp_wplnE K)) (c__law_value : Cl P w K mg base 7 "_law_value" (sp_wvalE K)) (c__law_same_value : Cl P w K mg base 1 "_law_same_value" sp_wsame) : FnOk P w K mg base CX0 37 f fd ["script"] (sp_law K) := by
  refine F.ok sc_law (fun vs H Q E h => ?_) (fun cdv A outer s H vs Q E hr h => ?_)
  · obtain ⟨a, ns, rfl, _⟩ := h
    rfl
  obtain ⟨a, ns, rfl, hS, _, q⟩ := h
  refine ⟨_, (pss_cons (ps_set (i := 1) sc_law.nd rfl (.inl rfl) (pe_u c__law_draw hr (by first | decide | omega) (by rfl) (pa_cons (pv 0) pa_nil)))
      (pss_cons (ps_set (i := 2) sc_law.nd rfl (.inl rfl) (pe_u c__law_columns hr (by first | decide | omega) (by rfl) (pa_cons (pv 1) pa_nil)))
      (pss_cons (ps_set (i := 3) sc_law.nd rfl (.inl rfl) (pe_callTy (listK K) (by rfl) M.list (by decide +kernel) (pa_cons (pv 2) pa_nil)))
      (pss_cons (ps_set (i := 4) sc_law.nd rfl (.inl rfl) (pe_u c__law_typed hr (by first | decide | omega) (by rfl) (pa_cons (pv 1) (pa_cons (pv 2) (pa_cons (pe_ix (ix_listK K) (pe_lst (pa_cons pe_str (pa_cons pe_str (pa_cons pe_str pa_nil)))) (pe_u c__law_next hr (by first | decide | omega) (by rfl) (pa_cons (pv 1) (pa_cons pe_int pa_nil))) (fun _ _ => rfl)) (pa_cons (pe_op op_add pe_int (pe_u c__law_next hr (by first | decide | omega) (by rfl) (pa_cons (pv 1) (pa_cons pe_int pa_nil)))) pa_nil))))))
      (pss_cons (ps_set (i := 5) sc_law.nd rfl (.inl rfl) (pe_ux cx_compile_expression hr (by first | decide | omega) (E := E0) passL (by rfl) (pa_cons (pv 2) (pa_cons (pv 4) pa_nil))))
      (pss_cons (ps_if (PW.pt (pw_or (pt_not (pt_val (pe_callB (isiK K) (by rfl) M.isinstance (by decide +kernel) (pa_cons (pv 5) (pa_cons (pe_bltn (v := .ty "tuple") (by rfl) M.tuple (by decide +kernel) rfl) pa_nil))))) (pw_or (pt_cmpR op_ne (pe_callB (len_seqK K) (by rfl) M.len PySem.boot_len (pa_cons (pv 5) pa_nil)) pe_int (nomark _)) (pw_or1 (pt_cmpR (neDK K hr.units) (pv 2) (pv 3) (nomark _)))))) (pss_one (ps_ret pe_bl)) pss_nil)
      (pss_cons (ps_set (i := 6) sc_law.nd rfl (.inl rfl) (pe_u c__law_kind hr (by first | decide | omega) (by rfl) (pa_cons (pv 4) (pa_cons (pv 2) pa_nil))))
      (pss_cons (ps_if (PW.pt (pw_or (PW.pt (pw_and (pt_cmpR op_isN (pv 6) pe_non (nomark _)) (pw_and1 (pt_cmpR op_notN (pe_ix (ix_tupK K) (pv 5) pe_int (fun _ _ => rfl)) pe_non (nomark _))))) (pw_or1 (PW.pt (pw_and (pt_cmpR op_notN (pv 6) pe_non (nomark _)) (pw_and1 (pt_cmpR op_ne (pe_ix (ix_tupK K) (pv 5) pe_int (fun _ _ => rfl)) (pv 6) (nomark _)))))))) (pss_one (ps_ret pe_bl)) pss_nil)
      (pss_cons (ps_for PassesOwn.never rfl (pi_range1 (by rfl) M.range (pa_cons pe_int pa_nil)) (pg_name (i := 7) sc_law.nd rfl (.inl rfl)) (pss_cons (ps_set (i := 8) sc_law.nd rfl (.inl rfl) (pe_u c__law_row hr (by first | decide | omega) (by rfl) (pa_cons (pv 1) (pa_cons (pe_lc (own := [("column", 9)]) (g := gName 9) (tt := tYes) rfl sc_law.nd (pi_list (pv 2)) (blkOk_by (N := N_law) (sc := defScope s_law) (by decide +kernel)) (fun _ _ _ _ _ => (pg_name (i := 9) sc_law.nd rfl (.inl rfl))) (fun _ _ _ _ _ => pts_nil) (fun _ _ _ _ _ => (pe_ix (ix_tupK K) (pv 9) pe_int (fun _ _ => rfl)))) pa_nil))))
      (pss_one (ps_if (pt_not (pt_val (pe_u c__law_same_value hr (by first | decide | omega) (by rfl) (pa_cons (pe_u c__law_plain hr (by first | decide | omega) (by rfl) (pa_cons (pe_ix (ix_tupK K) (pv 5) pe_int (fun _ _ => rfl)) (pa_cons (pv 8) pa_nil))) (pa_cons (pe_u c__law_value hr (by first | decide | omega) (by rfl) (pa_cons (pv 4) (pa_cons (pv 2) (pa_cons (pv 8) pa_nil)))) pa_nil))))) (pss_one (ps_ret pe_bl)) pss_nil))))
      (pss_one (ps_ret pe_bl))))))))))), ?_⟩
  refine ⟨_, rfl, a, ns, rfl, hS, fun H0 d c s1 nd dr => ?_⟩
  refine ⟨_, rfl, d, c, rfl, dr, fun H1 l ys cols f1 dr1 el nld hcs ck => ?_⟩
  refine ⟨_, rfl, l, ys, rfl, .inl (.of el), fun l2 n2 => ?_⟩
  have s2 := same_upd n2 (o := .lst ys)
  have ek2 : (upd H1 l2 (.lst ys)) l2 = some (.lst ys) := upd_same
  have nl2 := dr1.nd n2
  generalize upd H1 l2 (.lst ys) = H2 at s2 ek2 ⊢
  have dr2 := dr1.ext s2
  have el2 := s2 _ _ el
  have hcs2 := DpAll.ext s2 _ _ hcs
  refine ⟨_, rfl, _, rfl, by show 3 ≤ sizeLine; decide, fun l3 n3 => ?_⟩
  have s3 := same_upd n3 (o := .lst ([Kd.int, .text, .truth].map fun k => V.str (Str.ofString k.s)))
  have e3 : (upd H2 l3 (.lst ([Kd.int, .text, .truth].map fun k => V.str (Str.ofString k.s)))) l3 = some (.lst ([Kd.int, .text, .truth].map fun k => V.str (Str.ofString k.s))) := upd_same
  have nl3 := dr2.nd n3
  show tCall sp_next [] E0 _ _ (upd H2 l3 (.lst ([Kd.int, .text, .truth].map fun k => V.str (Str.ofString k.s)))) _
  generalize upd H2 l3 (.lst ([Kd.int, .text, .truth].map fun k => V.str (Str.ofString k.s))) = H3 at s3 e3 ⊢
  have dr3 := dr2.ext s3
  refine ⟨_, rfl, d, c, 3, rfl, dr3, by decide, by decide, fun H4 r4 f4 _ dr4 g0 g1 => ?_⟩
  obtain ⟨r4, rfl⟩ := Int.eq_ofNat_of_zero_le g0
  obtain ⟨x, hx⟩ := pickK (ks := [.int, .text, .truth]) (k := r4) (by show r4 < 3; omega)
  refine ⟨l3, _, _, .str (Str.ofString x.s), rfl, rfl, .of (f4 _ _ nl3 e3), atI_nat hx, _, rfl, d, c, 3, rfl, dr4, by decide, by decide, fun H5 r5 f5 _ dr5 g2 g3 => ⟨_, _, rfl, rfl, ?_⟩⟩
  obtain ⟨r5, rfl⟩ := Int.eq_ofNat_of_zero_le g2
  have f25 := ((Fd.of s3).trans f4).trans f5
  have el5 := f25 _ _ nld el2
  have ek5 := f25 _ _ nl2 ek2
  have hcs5 := DpAll.fd dr2.lst f25 _ _ (cols_only cols) hcs2
  refine ⟨cols, ck, d, c, l, ys, x, 1 + r5, (by show [V.ref d, V.ref l, V.str (Str.ofString x.s), V.int (1 + ((r5 : Nat) : Int))] = _; rw [show (1 : Int) + ((r5 : Nat) : Int) = ((1 + r5 : Nat) : Int) by omega]), dr5, el5, nld, hcs5, by omega, fun H6 v e f6 dr6 dv hw hh => ?_⟩
  have el6 := f6 _ _ nld el5
  have ek6 := f6 _ _ nl2 ek5
  have hcs6 := DpAll.fd dr5.lst f6 _ _ (cols_only cols) hcs5
  obtain ⟨hok, r, hr', hn, hz⟩ := hw
  have hsz : r.2.2 ≤ 200 := by
    have h1 := sz_ht e hok
    have h2 : (3 : Nat) ^ e.ht ≤ 3 ^ 4 := Nat.pow_le_pow_right (by decide) (by omega)
    omega
  have lck := ck.len
  refine ⟨_, rfl, _, rfl, l, v, cols, ys, e, rfl, el6, hcs6, by omega, fun c hc => (ck.ok c hc).1, dv, hok, by omega, fun r' hr2 _ H7 t s7 dt => ?_, fun r' hr2 hn => ?_, fun m hm => ?_⟩
  rotate_left
  · cases hr'.symm.trans hr2
    exact absurd hsz hn
  · cases hr'.symm.trans hm
  cases hr'.symm.trans hr2
  have el7 := s7 _ _ el6
  have ek7 := s7 _ _ ek6
  have hcs7 := DpAll.ext s7 _ _ hcs6
  have dv7 := Dp.ext s7 _ _ dv
  have dr7 := dr6.ext s7
  obtain ⟨t', xs, e1, ht, hxs⟩ := dp_tup dt
  cases e1
  cases hxs with
  | @cons pvv _ _ _ dp k2 =>
  cases k2 with
  | cons k2 k3 =>
  cases k3
  rw [dp_kdV k2] at ht
  refine ⟨_, rfl, .ref t, .ty "tuple", _, _, true, rfl, .ty "tuple", tyT ht, kit_ty (by decide +kernel), _, rfl, ?_⟩
  refine iteF ⟨_, rfl, t, _, rfl, .inr ht, rfl, _, rfl, ?_⟩
  refine iteF ⟨_, rfl, _, rfl, cols_ne ck hcs7 el7 ek7 ⟨_, rfl, iteF ?_⟩⟩
  refine ⟨_, rfl, _, rfl, cols, trivial, v, l, ys, e, r, rfl, dv7, hok, by omega, hr', el7, hcs7, fun H8 s8 => ?_⟩
  have dt8 := Dp.ext s8 _ _ dt
  have el8 := s8 _ _ el7
  have hcs8 := DpAll.ext s8 _ _ hcs7
  have dv8 := Dp.ext s8 _ _ dv7
  have dr8 := dr7.ext s8
  have ht8 := SqT.ext s8 ht
  have donly : tupOnly (.tuple [r.1, kdD r.2.1]) = true := only_tup fun z hz => by
    simp only [List.mem_cons, List.not_mem_nil, or_false] at hz
    rcases hz with rfl | rfl
    · exact comp_only cols e r hr'
    · cases r.2.1 <;> rfl
  refine ⟨_, rfl, rfl, _, rfl, ?_⟩
  cases hkn : decide (kdV r.2.1 = .non)
  case' true =>
    refine iteT ⟨_, rfl, t, _, _, kdV r.2.1, rfl, rfl, ht8, rfl, rfl, _, rfl, ?_⟩
    rw [hkn]
    refine iteF ⟨_, rfl, rfl, _, rfl, ?_⟩
    rw [hkn]
    refine iteF (iteF ?_)
  case' false =>
    refine iteF (iteF ⟨_, rfl, rfl, _, rfl, ?_⟩)
    rw [hkn]
    refine iteT ⟨_, rfl, t, _, _, kdV r.2.1, rfl, rfl, ht8, rfl, _, rfl, (by cases r.2.1 <;> rfl), _, rfl, ?_⟩
    rw [decide_eq_true rfl]
    refine iteF ?_
  all_goals
    clear hkn
    refine ⟨5, rfl, by decide, by decide, ?_⟩
    refine for_range (lo := 0) (n := (5 : Int).toNat) (fun i σ Hi => Fd d H8 Hi ∧ Dr Hi d c ∧ ∃ z7 z8 z9, σ = [some (.ref a), some (.ref d), some (.ref l), some (.ref l2), some v, some (.ref t), some (kdV r.2.1), z7, z8, z9]) ⟨Fd.refl _ _, dr8, _, _, _, rfl⟩ (fun i σ Hi hi hp => ?_) (fun σ Hn hp => ?_)
    · obtain ⟨fi, dri, z7, z8, z9, rfl⟩ := hp
      have eli := fi _ _ nld el8
      have hcsi := DpAll.fd dr8.lst fi _ _ (cols_only cols) hcs8
      have lys : ys.length = cols.length := by rw [DpAll.len hcs, List.length_map]
      refine ⟨_, rfl, _, rfl, l, rfl, ⟨_, .of eli⟩, fun D nD => ?_⟩
      refine lc_list (K := K) (a := l) (xs := ys) (fun j Hj => Same Hi Hj ∧ Hj D = some (.lst ((cols.take j).map fun c => kdV c.kd))) ⟨same_upd nD, upd_same⟩ (fun j Hj _ hp => .of (hp.1 _ _ eli)) (fun j y Hj hy hp => ?_) (fun HE hp => ?_)
      · obtain ⟨sj, eD⟩ := hp
        have hjc : j < cols.length := by rw [← lys]; exact (List.getElem?_eq_some_iff.mp hy).1
        have hcj := List.getElem?_eq_getElem hjc
        obtain ⟨z, hz, hE⟩ := DpAll.get (i := j) (d := (cols[j]).d) hcsi (by rw [List.getElem?_map, hcj]; rfl)
        obtain rfl : z = y := Option.some.inj (hz.symm.trans hy)
        generalize cols[j] = cj at hcj hE
        obtain ⟨tj, sv, rfl, htj, _⟩ := dp_col (Dp.ext sj _ _ hE)
        refine ⟨rfl, _, rfl, tj, _, _, kdV cj.kd, rfl, rfl, htj, rfl, _, eD, ?_, fun b o hb => ?_, ?_⟩
        · rw [List.length_map, List.length_take]
          exact Nat.lt_of_le_of_lt (m := 10) (by omega) (by decide)
        · rw [upd_ne (ne_of_none hb nD)]
          exact sj _ _ hb
        · rw [upd_same, List.take_add_one, hcj, List.map_append]
          rfl
      obtain ⟨sE, eD⟩ := hp
      rw [lys, List.take_of_length_le (Nat.le_refl _)] at eD
      have eks : (cols.map fun c => kdV c.kd) = (cols.map fun c => c.kd.getD .int).map fun k => V.str (Str.ofString k.s) := by
        rw [List.map_map]
        refine List.map_congr_left fun c hc => ?_
        obtain ⟨k, hk⟩ := ck.kd c hc
        show kdV c.kd = V.str (Str.ofString (c.kd.getD .int).s)
        rw [hk]
        rfl
      rw [eks] at eD
      have fE := fi.trans (Fd.of sE)
      have drE := dri.ext sE
      refine ⟨d, c, D, cols.map fun c => c.kd.getD .int, rfl, drE, dri.nd nD, eD, by rw [List.length_map]; exact lck, fun H9 rp row f9 dr9 hrow lr hfit => ?_⟩
      rw [List.length_map] at lr
      have rk : Rok cols row := ⟨lr, fun i c u hc hu => by
        obtain ⟨k, hk⟩ := ck.kd c (List.mem_of_getElem? hc)
        have := hfit i k u (by rw [List.getElem?_map, hc]; show some (c.kd.getD .int) = _; rw [hk]; rfl) hu
        rw [hk]
        exact this⟩
      obtain ⟨g1, g2, g3, g4, g5⟩ := good rk e r hok hr'
      have f89 := fE.trans f9
      have dt9 := Dp.fd dr8.lst f89 _ _ donly dt8
      have dv9 := dpe_fd dr8 f89 dv8
      have el9 := f89 _ _ nld el8
      have hcs9 := DpAll.fd dr8.lst f89 _ _ (cols_only cols) hcs8
      obtain ⟨t9, xs9, e9, ht9, hxs9⟩ := dp_tup dt9
      cases e9
      cases hxs9 with
      | @cons pv9 _ _ _ dp9 k9 =>
      rw [g1] at dp9
      have hch := cpl_ht cols e
      refine ⟨_, rfl, t, _, _, pv9, rfl, rfl, ht9, atI_nat (j := 0) rfl, _, rfl, row, trivial, pv9, rp, cpl cols e, rfl, dp9, g4, by omega, hrow, fun H10 s10 => ?_⟩
      refine ⟨_, rfl, _, rfl, _, rfl, (cols, row), trivial, v, l, rp, ys, e, rfl, Dp.ext s10 _ _ dv9, g5, by omega, s10 _ _ el9, DpAll.ext s10 _ _ hcs9, SqT.ext s10 hrow, lr, lck, fun H11 s11 => ?_⟩
      refine ⟨evW cols row e, by rw [g3]; rfl, _, rfl, iteF ?_⟩
      exact ⟨f89.trans (Fd.of (s10.trans s11)), (dr9.ext s10).ext s11, _, _, _, rfl⟩
    · exact q _
end

set_option maxHeartbeats 0 in
theorem all_mk {l : PySem.W.OpenLaw} {w : World} {K : PySem.W.Frag} {h : Heap} {mg : Str → Option Value} {fa : Addr} (X : K.In h) (G : h.Ns mainGlobals mg) (hfa : mg "law" = some (.ref fa))
    {od0 an0 : Option Addr} {sl0 : Array (Option Value)} {oc0 kV0 dc0 pm0 cd0 ct0 : Value} {f0 : Addr}
    {od1 an1 : Option Addr} {sl1 : Array (Option Value)} {oc1 kV1 dc1 pm1 cd1 ct1 : Value} {f1 : Addr}
    {od2 an2 : Option Addr} {sl2 : Array (Option Value)} {oc2 kV2 dc2 pm2 cd2 ct2 : Value} {f2 : Addr}
    {od3 an3 : Option Addr} {sl3 : Array (Option Value)} {oc3 kV3 dc3 pm3 cd3 ct3 : Value} {f3 : Addr}
    {od4 an4 : Option Addr} {sl4 : Array (Option Value)} {oc4 kV4 dc4 pm4 cd4 ct4 : Value} {f4 : Addr}
    {od5 an5 : Option Addr} {sl5 : Array (Option Value)} {oc5 kV5 dc5 pm5 cd5 ct5 : Value} {f5 : Addr}
    {od6 an6 : Option Addr} {sl6 : Array (Option Value)} {oc6 kV6 dc6 pm6 cd6 ct6 : Value} {f6 : Addr}
    {od7 an7 : Option Addr} {sl7 : Array (Option Value)} {oc7 kV7 dc7 pm7 cd7 ct7 : Value} {f7 : Addr}
    {od8 an8 : Option Addr} {sl8 : Array (Option Value)} {oc8 kV8 dc8 pm8 cd8 ct8 : Value} {f8 : Addr}
    {od9 an9 : Option Addr} {sl9 : Array (Option Value)} {oc9 kV9 dc9 pm9 cd9 ct9 : Value} {f9 : Addr}
    {od10 an10 : Option Addr} {sl10 : Array (Option Value)} {oc10 kV10 dc10 pm10 cd10 ct10 : Value} {f10 : Addr}
    {od11 an11 : Option Addr} {sl11 : Array (Option Value)} {oc11 kV11 dc11 pm11 cd11 ct11 : Value} {f11 : Addr}
    {od12 an12 : Option Addr} {sl12 : Array (Option Value)} {oc12 kV12 dc12 pm12 cd12 ct12 : Value} {f12 : Addr}
    {od13 an13 : Option Addr} {sl13 : Array (Option Value)} {oc13 kV13 dc13 pm13 cd13 ct13 : Value} {f13 : Addr}
    {od14 an14 : Option Addr} {sl14 : Array (Option Value)} {oc14 kV14 dc14 pm14 cd14 ct14 : Value} {f14 : Addr}
    {od15 an15 : Option Addr} {sl15 : Array (Option Value)} {oc15 kV15 dc15 pm15 cd15 ct15 : Value} {f15 : Addr}
    {od16 an16 : Option Addr} {sl16 : Array (Option Value)} {oc16 kV16 dc16 pm16 cd16 ct16 : Value} {f16 : Addr}
    {od17 an17 : Option Addr} {sl17 : Array (Option Value)} {oc17 kV17 dc17 pm17 cd17 ct17 : Value} {f17 : Addr}
    {od18 an18 : Option Addr} {sl18 : Array (Option Value)} {oc18 kV18 dc18 pm18 cd18 ct18 : Value} {f18 : Addr}
    {od19 an19 : Option Addr} {sl19 : Array (Option Value)} {oc19 kV19 dc19 pm19 cd19 ct19 : Value} {f19 : Addr}
    {od20 an20 : Option Addr} {sl20 : Array (Option Value)} {oc20 kV20 dc20 pm20 cd20 ct20 : Value} {f20 : Addr}
    {od21 an21 : Option Addr} {sl21 : Array (Option Value)} {oc21 kV21 dc21 pm21 cd21 ct21 : Value} {f21 : Addr}
    {od22 an22 : Option Addr} {sl22 : Array (Option Value)} {oc22 kV22 dc22 pm22 cd22 ct22 : Value} {f22 : Addr}
    {od23 an23 : Option Addr} {sl23 : Array (Option Value)} {oc23 kV23 dc23 pm23 cd23 ct23 : Value} {f23 : Addr}
    {od24 an24 : Option Addr} {sl24 : Array (Option Value)} {oc24 kV24 dc24 pm24 cd24 ct24 : Value} {f24 : Addr}
    {od25 an25 : Option Addr} {sl25 : Array (Option Value)} {oc25 kV25 dc25 pm25 cd25 ct25 : Value} {f25 : Addr}
    {od26 an26 : Option Addr} {sl26 : Array (Option Value)} {oc26 kV26 dc26 pm26 cd26 ct26 : Value} {f26 : Addr}
    {od27 an27 : Option Addr} {sl27 : Array (Option Value)} {oc27 kV27 dc27 pm27 cd27 ct27 : Value} {f27 : Addr}
    {C_Problem N_Problem fI_Problem cc_Problem cd_Problem : Addr} {nm_Problem q_Problem file_Problem : Str} {bs_Problem bm_Problem sub_Problem : List Value} {sn_Problem : List Str} {ab_Problem : Bool} {col_Problem : Option Bool} {dd_Problem od_Problem odc_Problem odl_Problem : Option Addr} {m0_Problem m1_Problem m2_Problem m3_Problem m5_Problem : Option Value} {oc_Problem dc_Problem pm_Problem ct_Problem occ_Problem ocl_Problem : Value} {sl_Problem slc_Problem sll_Problem : Array (Option Value)} {vs_Problem : Array Value} {tf_Problem : Tok}
    (a0 : PySem.W.nsIn K mainGlobals "compile_expression" = some (some (.ref f0))) (l0 : K.lookup f0 = some ⟨oc0, od0, .func (PySem.W.fnOf "compile_expression" "compile_expression" (defArgs s_compile_expression) (defBody s_compile_expression) (defScope s_compile_expression) .none kV0 dc0 pm0 an0 cd0 ct0), sl0⟩) (c0 : PySem.W.codeIn K cd0 "compile_expression" = true) (k0 : PySem.W.keepIn K (.ref f0) = true)
    (a1 : PySem.W.nsIn K mainGlobals "expect_kind" = some (some (.ref f1))) (l1 : K.lookup f1 = some ⟨oc1, od1, .func (PySem.W.fnOf "expect_kind" "expect_kind" (defArgs s_expect_kind) (defBody s_expect_kind) (defScope s_expect_kind) .none kV1 dc1 pm1 an1 cd1 ct1), sl1⟩) (c1 : PySem.W.codeIn K cd1 "expect_kind" = true) (k1 : PySem.W.keepIn K (.ref f1) = true)
    (a2 : PySem.W.nsIn K mainGlobals "written_out" = some (some (.ref f2))) (l2 : K.lookup f2 = some ⟨oc2, od2, .func (PySem.W.fnOf "written_out" "written_out" (defArgs s_written_out) (defBody s_written_out) (defScope s_written_out) .none kV2 dc2 pm2 an2 cd2 ct2), sl2⟩) (c2 : PySem.W.codeIn K cd2 "written_out" = true) (k2 : PySem.W.keepIn K (.ref f2) = true)
    (a3 : PySem.W.nsIn K mainGlobals "named_column" = some (some (.ref f3))) (l3 : K.lookup f3 = some ⟨oc3, od3, .func (PySem.W.fnOf "named_column" "named_column" (defArgs s_named_column) (defBody s_named_column) (defScope s_named_column) .none kV3 dc3 pm3 an3 cd3 ct3), sl3⟩) (c3 : PySem.W.codeIn K cd3 "named_column" = true) (k3 : PySem.W.keepIn K (.ref f3) = true)
    (a4 : PySem.W.nsIn K mainGlobals "is_named" = some (some (.ref f4))) (l4 : K.lookup f4 = some ⟨oc4, od4, .func (PySem.W.fnOf "is_named" "is_named" (defArgs s_is_named) (defBody s_is_named) (defScope s_is_named) .none kV4 dc4 pm4 an4 cd4 ct4), sl4⟩) (c4 : PySem.W.codeIn K cd4 "is_named" = true) (k4 : PySem.W.keepIn K (.ref f4) = true)
    (a5 : PySem.W.nsIn K mainGlobals "result_kind" = some (some (.ref f5))) (l5 : K.lookup f5 = some ⟨oc5, od5, .func (PySem.W.fnOf "result_kind" "result_kind" (defArgs s_result_kind) (defBody s_result_kind) (defScope s_result_kind) .none kV5 dc5 pm5 an5 cd5 ct5), sl5⟩) (c5 : PySem.W.codeIn K cd5 "result_kind" = true) (k5 : PySem.W.keepIn K (.ref f5) = true)
    (a6 : PySem.W.nsIn K mainGlobals "common_kind" = some (some (.ref f6))) (l6 : K.lookup f6 = some ⟨oc6, od6, .func (PySem.W.fnOf "common_kind" "common_kind" (defArgs s_common_kind) (defBody s_common_kind) (defScope s_common_kind) .none kV6 dc6 pm6 an6 cd6 ct6), sl6⟩) (c6 : PySem.W.codeIn K cd6 "common_kind" = true) (k6 : PySem.W.keepIn K (.ref f6) = true)
    (a7 : PySem.W.nsIn K mainGlobals "plain_form" = some (some (.ref f7))) (l7 : K.lookup f7 = some ⟨oc7, od7, .func (PySem.W.fnOf "plain_form" "plain_form" (defArgs s_plain_form) (defBody s_plain_form) (defScope s_plain_form) .none kV7 dc7 pm7 an7 cd7 ct7), sl7⟩) (c7 : PySem.W.codeIn K cd7 "plain_form" = true) (k7 : PySem.W.keepIn K (.ref f7) = true)
    (a8 : PySem.W.nsIn K mainGlobals "result_size" = some (some (.ref f8))) (l8 : K.lookup f8 = some ⟨oc8, od8, .func (PySem.W.fnOf "result_size" "result_size" (defArgs s_result_size) (defBody s_result_size) (defScope s_result_size) .none kV8 dc8 pm8 an8 cd8 ct8), sl8⟩) (c8 : PySem.W.codeIn K cd8 "result_size" = true) (k8 : PySem.W.keepIn K (.ref f8) = true)
    (a9 : PySem.W.nsIn K mainGlobals "_law_draw" = some (some (.ref f9))) (l9 : K.lookup f9 = some ⟨oc9, od9, .func (PySem.W.fnOf "_law_draw" "_law_draw" (defArgs s__law_draw) (defBody s__law_draw) (defScope s__law_draw) .none kV9 dc9 pm9 an9 cd9 ct9), sl9⟩) (c9 : PySem.W.codeIn K cd9 "_law_draw" = true) (k9 : PySem.W.keepIn K (.ref f9) = true)
    (a10 : PySem.W.nsIn K mainGlobals "_law_next" = some (some (.ref f10))) (l10 : K.lookup f10 = some ⟨oc10, od10, .func (PySem.W.fnOf "_law_next" "_law_next" (defArgs s__law_next) (defBody s__law_next) (defScope s__law_next) .none kV10 dc10 pm10 an10 cd10 ct10), sl10⟩) (c10 : PySem.W.codeIn K cd10 "_law_next" = true) (k10 : PySem.W.keepIn K (.ref f10) = true)
    (a11 : PySem.W.nsIn K mainGlobals "_law_named" = some (some (.ref f11))) (l11 : K.lookup f11 = some ⟨oc11, od11, .func (PySem.W.fnOf "_law_named" "_law_named" (defArgs s__law_named) (defBody s__law_named) (defScope s__law_named) .none kV11 dc11 pm11 an11 cd11 ct11), sl11⟩) (c11 : PySem.W.codeIn K cd11 "_law_named" = true) (k11 : PySem.W.keepIn K (.ref f11) = true)
    (a12 : PySem.W.nsIn K mainGlobals "_law_constant" = some (some (.ref f12))) (l12 : K.lookup f12 = some ⟨oc12, od12, .func (PySem.W.fnOf "_law_constant" "_law_constant" (defArgs s__law_constant) (defBody s__law_constant) (defScope s__law_constant) .none kV12 dc12 pm12 an12 cd12 ct12), sl12⟩) (c12 : PySem.W.codeIn K cd12 "_law_constant" = true) (k12 : PySem.W.keepIn K (.ref f12) = true)
    (a13 : PySem.W.nsIn K mainGlobals "_law_typed" = some (some (.ref f13))) (l13 : K.lookup f13 = some ⟨oc13, od13, .func (PySem.W.fnOf "_law_typed" "_law_typed" (defArgs s__law_typed) (defBody s__law_typed) (defScope s__law_typed) .none kV13 dc13 pm13 an13 cd13 ct13), sl13⟩) (c13 : PySem.W.codeIn K cd13 "_law_typed" = true) (k13 : PySem.W.keepIn K (.ref f13) = true)
    (a14 : PySem.W.nsIn K mainGlobals "_law_typed_truth" = some (some (.ref f14))) (l14 : K.lookup f14 = some ⟨oc14, od14, .func (PySem.W.fnOf "_law_typed_truth" "_law_typed_truth" (defArgs s__law_typed_truth) (defBody s__law_typed_truth) (defScope s__law_typed_truth) .none kV14 dc14 pm14 an14 cd14 ct14), sl14⟩) (c14 : PySem.W.codeIn K cd14 "_law_typed_truth" = true) (k14 : PySem.W.keepIn K (.ref f14) = true)
    (a15 : PySem.W.nsIn K mainGlobals "_law_kind" = some (some (.ref f15))) (l15 : K.lookup f15 = some ⟨oc15, od15, .func (PySem.W.fnOf "_law_kind" "_law_kind" (defArgs s__law_kind) (defBody s__law_kind) (defScope s__law_kind) .none kV15 dc15 pm15 an15 cd15 ct15), sl15⟩) (c15 : PySem.W.codeIn K cd15 "_law_kind" = true) (k15 : PySem.W.keepIn K (.ref f15) = true)
    (a16 : PySem.W.nsIn K mainGlobals "_law_key" = some (some (.ref f16))) (l16 : K.lookup f16 = some ⟨oc16, od16, .func (PySem.W.fnOf "_law_key" "_law_key" (defArgs s__law_key) (defBody s__law_key) (defScope s__law_key) .none kV16 dc16 pm16 an16 cd16 ct16), sl16⟩) (c16 : PySem.W.codeIn K cd16 "_law_key" = true) (k16 : PySem.W.keepIn K (.ref f16) = true)
    (a17 : PySem.W.nsIn K mainGlobals "_law_bounded" = some (some (.ref f17))) (l17 : K.lookup f17 = some ⟨oc17, od17, .func (PySem.W.fnOf "_law_bounded" "_law_bounded" (defArgs s__law_bounded) (defBody s__law_bounded) (defScope s__law_bounded) .none kV17 dc17 pm17 an17 cd17 ct17), sl17⟩) (c17 : PySem.W.codeIn K cd17 "_law_bounded" = true) (k17 : PySem.W.keepIn K (.ref f17) = true)
    (a18 : PySem.W.nsIn K mainGlobals "_law_count" = some (some (.ref f18))) (l18 : K.lookup f18 = some ⟨oc18, od18, .func (PySem.W.fnOf "_law_count" "_law_count" (defArgs s__law_count) (defBody s__law_count) (defScope s__law_count) .none kV18 dc18 pm18 an18 cd18 ct18), sl18⟩) (c18 : PySem.W.codeIn K cd18 "_law_count" = true) (k18 : PySem.W.keepIn K (.ref f18) = true)
    (a19 : PySem.W.nsIn K mainGlobals "_law_logic" = some (some (.ref f19))) (l19 : K.lookup f19 = some ⟨oc19, od19, .func (PySem.W.fnOf "_law_logic" "_law_logic" (defArgs s__law_logic) (defBody s__law_logic) (defScope s__law_logic) .none kV19 dc19 pm19 an19 cd19 ct19), sl19⟩) (c19 : PySem.W.codeIn K cd19 "_law_logic" = true) (k19 : PySem.W.keepIn K (.ref f19) = true)
    (a20 : PySem.W.nsIn K mainGlobals "_law_compare" = some (some (.ref f20))) (l20 : K.lookup f20 = some ⟨oc20, od20, .func (PySem.W.fnOf "_law_compare" "_law_compare" (defArgs s__law_compare) (defBody s__law_compare) (defScope s__law_compare) .none kV20 dc20 pm20 an20 cd20 ct20), sl20⟩) (c20 : PySem.W.codeIn K cd20 "_law_compare" = true) (k20 : PySem.W.keepIn K (.ref f20) = true)
    (a21 : PySem.W.nsIn K mainGlobals "_law_value" = some (some (.ref f21))) (l21 : K.lookup f21 = some ⟨oc21, od21, .func (PySem.W.fnOf "_law_value" "_law_value" (defArgs s__law_value) (defBody s__law_value) (defScope s__law_value) .none kV21 dc21 pm21 an21 cd21 ct21), sl21⟩) (c21 : PySem.W.codeIn K cd21 "_law_value" = true) (k21 : PySem.W.keepIn K (.ref f21) = true)
    (a22 : PySem.W.nsIn K mainGlobals "_law_cell_value" = some (some (.ref f22))) (l22 : K.lookup f22 = some ⟨oc22, od22, .func (PySem.W.fnOf "_law_cell_value" "_law_cell_value" (defArgs s__law_cell_value) (defBody s__law_cell_value) (defScope s__law_cell_value) .none kV22 dc22 pm22 an22 cd22 ct22), sl22⟩) (c22 : PySem.W.codeIn K cd22 "_law_cell_value" = true) (k22 : PySem.W.keepIn K (.ref f22) = true)
    (a23 : PySem.W.nsIn K mainGlobals "_law_row" = some (some (.ref f23))) (l23 : K.lookup f23 = some ⟨oc23, od23, .func (PySem.W.fnOf "_law_row" "_law_row" (defArgs s__law_row) (defBody s__law_row) (defScope s__law_row) .none kV23 dc23 pm23 an23 cd23 ct23), sl23⟩) (c23 : PySem.W.codeIn K cd23 "_law_row" = true) (k23 : PySem.W.keepIn K (.ref f23) = true)
    (a24 : PySem.W.nsIn K mainGlobals "_law_plain" = some (some (.ref f24))) (l24 : K.lookup f24 = some ⟨oc24, od24, .func (PySem.W.fnOf "_law_plain" "_law_plain" (defArgs s__law_plain) (defBody s__law_plain) (defScope s__law_plain) .none kV24 dc24 pm24 an24 cd24 ct24), sl24⟩) (c24 : PySem.W.codeIn K cd24 "_law_plain" = true) (k24 : PySem.W.keepIn K (.ref f24) = true)
    (a25 : PySem.W.nsIn K mainGlobals "_law_columns" = some (some (.ref f25))) (l25 : K.lookup f25 = some ⟨oc25, od25, .func (PySem.W.fnOf "_law_columns" "_law_columns" (defArgs s__law_columns) (defBody s__law_columns) (defScope s__law_columns) .none kV25 dc25 pm25 an25 cd25 ct25), sl25⟩) (c25 : PySem.W.codeIn K cd25 "_law_columns" = true) (k25 : PySem.W.keepIn K (.ref f25) = true)
    (a26 : PySem.W.nsIn K mainGlobals "_law_same_value" = some (some (.ref f26))) (l26 : K.lookup f26 = some ⟨oc26, od26, .func (PySem.W.fnOf "_law_same_value" "_law_same_value" (defArgs s__law_same_value) (defBody s__law_same_value) (defScope s__law_same_value) .none kV26 dc26 pm26 an26 cd26 ct26), sl26⟩) (c26 : PySem.W.codeIn K cd26 "_law_same_value" = true) (k26 : PySem.W.keepIn K (.ref f26) = true)
    (a27 : PySem.W.nsIn K mainGlobals "law" = some (some (.ref f27))) (l27 : K.lookup f27 = some ⟨oc27, od27, .func (PySem.W.fnOf "law" "law" (defArgs s_law) (defBody s_law) (defScope s_law) .none kV27 dc27 pm27 an27 cd27 ct27), sl27⟩) (c27 : PySem.W.codeIn K cd27 "law" = true) (k27 : PySem.W.keepIn K (.ref f27) = true)
    {a_OPERATORS : Addr} {es_OPERATORS : Array DictEntry} {n_OPERATORS : Nat} (w_OPERATORS : PySem.W.nsIn K mainGlobals "OPERATORS" = some (some (.ref a_OPERATORS))) (v_OPERATORS : K.lookup a_OPERATORS = some ⟨.type "dict", none, .dict es_OPERATORS n_OPERATORS, #[]⟩) (k_OPERATORS : PySem.W.KeysLit w.params es_OPERATORS.toList) (lo_OPERATORS : (a_OPERATORS == sysModules) = false) {a_OPERATORS_0 : Addr} {dd_OPERATORS_0 : Option Addr} {n_OPERATORS_0 : Nat} {sl_OPERATORS_0 : Array (Option Value)} {tk_OPERATORS_0_0 tk_OPERATORS_0_1 : Tok} (w_OPERATORS_0 : PySem.W.nsIn K a_OPERATORS (PySem.Str.ofString "negate") = some (some (.ref a_OPERATORS_0))) (v_OPERATORS_0 : K.lookup a_OPERATORS_0 = some ⟨.type "tuple", dd_OPERATORS_0, .seq #[.str (PySem.Str.ofString "int") tk_OPERATORS_0_0, .str (PySem.Str.ofString "int") tk_OPERATORS_0_1] n_OPERATORS_0, sl_OPERATORS_0⟩) {a_OPERATORS_1 : Addr} {dd_OPERATORS_1 : Option Addr} {n_OPERATORS_1 : Nat} {sl_OPERATORS_1 : Array (Option Value)} {tk_OPERATORS_1_0 tk_OPERATORS_1_1 : Tok} (w_OPERATORS_1 : PySem.W.nsIn K a_OPERATORS (PySem.Str.ofString "+") = some (some (.ref a_OPERATORS_1))) (v_OPERATORS_1 : K.lookup a_OPERATORS_1 = some ⟨.type "tuple", dd_OPERATORS_1, .seq #[.str (PySem.Str.ofString "int") tk_OPERATORS_1_0, .str (PySem.Str.ofString "int") tk_OPERATORS_1_1] n_OPERATORS_1, sl_OPERATORS_1⟩) {a_OPERATORS_2 : Addr} {dd_OPERATORS_2 : Option Addr} {n_OPERATORS_2 : Nat} {sl_OPERATORS_2 : Array (Option Value)} {tk_OPERATORS_2_0 tk_OPERATORS_2_1 : Tok} (w_OPERATORS_2 : PySem.W.nsIn K a_OPERATORS (PySem.Str.ofString "-") = some (some (.ref a_OPERATORS_2))) (v_OPERATORS_2 : K.lookup a_OPERATORS_2 = some ⟨.type "tuple", dd_OPERATORS_2, .seq #[.str (PySem.Str.ofString "int") tk_OPERATORS_2_0, .str (PySem.Str.ofString "int") tk_OPERATORS_2_1] n_OPERATORS_2, sl_OPERATORS_2⟩) {a_OPERATORS_3 : Addr} {dd_OPERATORS_3 : Option Addr} {n_OPERATORS_3 : Nat} {sl_OPERATORS_3 : Array (Option Value)} {tk_OPERATORS_3_0 tk_OPERATORS_3_1 : Tok} (w_OPERATORS_3 : PySem.W.nsIn K a_OPERATORS (PySem.Str.ofString "*") = some (some (.ref a_OPERATORS_3))) (v_OPERATORS_3 : K.lookup a_OPERATORS_3 = some ⟨.type "tuple", dd_OPERATORS_3, .seq #[.str (PySem.Str.ofString "int") tk_OPERATORS_3_0, .str (PySem.Str.ofString "int") tk_OPERATORS_3_1] n_OPERATORS_3, sl_OPERATORS_3⟩) {a_OPERATORS_4 : Addr} {dd_OPERATORS_4 : Option Addr} {n_OPERATORS_4 : Nat} {sl_OPERATORS_4 : Array (Option Value)} {tk_OPERATORS_4_0 tk_OPERATORS_4_1 : Tok} (w_OPERATORS_4 : PySem.W.nsIn K a_OPERATORS (PySem.Str.ofString "div") = some (some (.ref a_OPERATORS_4))) (v_OPERATORS_4 : K.lookup a_OPERATORS_4 = some ⟨.type "tuple", dd_OPERATORS_4, .seq #[.str (PySem.Str.ofString "int") tk_OPERATORS_4_0, .str (PySem.Str.ofString "int") tk_OPERATORS_4_1] n_OPERATORS_4, sl_OPERATORS_4⟩) {a_OPERATORS_5 : Addr} {dd_OPERATORS_5 : Option Addr} {n_OPERATORS_5 : Nat} {sl_OPERATORS_5 : Array (Option Value)} {tk_OPERATORS_5_0 tk_OPERATORS_5_1 : Tok} (w_OPERATORS_5 : PySem.W.nsIn K a_OPERATORS (PySem.Str.ofString "mod") = some (some (.ref a_OPERATORS_5))) (v_OPERATORS_5 : K.lookup a_OPERATORS_5 = some ⟨.type "tuple", dd_OPERATORS_5, .seq #[.str (PySem.Str.ofString "int") tk_OPERATORS_5_0, .str (PySem.Str.ofString "int") tk_OPERATORS_5_1] n_OPERATORS_5, sl_OPERATORS_5⟩) {a_OPERATORS_6 : Addr} {dd_OPERATORS_6 : Option Addr} {n_OPERATORS_6 : Nat} {sl_OPERATORS_6 : Array (Option Value)} {tk_OPERATORS_6_0 tk_OPERATORS_6_1 : Tok} (w_OPERATORS_6 : PySem.W.nsIn K a_OPERATORS (PySem.Str.ofString "not") = some (some (.ref a_OPERATORS_6))) (v_OPERATORS_6 : K.lookup a_OPERATORS_6 = some ⟨.type "tuple", dd_OPERATORS_6, .seq #[.str (PySem.Str.ofString "truth") tk_OPERATORS_6_0, .str (PySem.Str.ofString "truth") tk_OPERATORS_6_1] n_OPERATORS_6, sl_OPERATORS_6⟩) {a_OPERATORS_7 : Addr} {dd_OPERATORS_7 : Option Addr} {n_OPERATORS_7 : Nat} {sl_OPERATORS_7 : Array (Option Value)} {tk_OPERATORS_7_0 tk_OPERATORS_7_1 : Tok} (w_OPERATORS_7 : PySem.W.nsIn K a_OPERATORS (PySem.Str.ofString "and") = some (some (.ref a_OPERATORS_7))) (v_OPERATORS_7 : K.lookup a_OPERATORS_7 = some ⟨.type "tuple", dd_OPERATORS_7, .seq #[.str (PySem.Str.ofString "truth") tk_OPERATORS_7_0, .str (PySem.Str.ofString "truth") tk_OPERATORS_7_1] n_OPERATORS_7, sl_OPERATORS_7⟩) {a_OPERATORS_8 : Addr} {dd_OPERATORS_8 : Option Addr} {n_OPERATORS_8 : Nat} {sl_OPERATORS_8 : Array (Option Value)} {tk_OPERATORS_8_0 tk_OPERATORS_8_1 : Tok} (w_OPERATORS_8 : PySem.W.nsIn K a_OPERATORS (PySem.Str.ofString "or") = some (some (.ref a_OPERATORS_8))) (v_OPERATORS_8 : K.lookup a_OPERATORS_8 = some ⟨.type "tuple", dd_OPERATORS_8, .seq #[.str (PySem.Str.ofString "truth") tk_OPERATORS_8_0, .str (PySem.Str.ofString "truth") tk_OPERATORS_8_1] n_OPERATORS_8, sl_OPERATORS_8⟩) {a_OPERATORS_9 : Addr} {dd_OPERATORS_9 : Option Addr} {n_OPERATORS_9 : Nat} {sl_OPERATORS_9 : Array (Option Value)} {tk_OPERATORS_9_0 tk_OPERATORS_9_1 : Tok} (w_OPERATORS_9 : PySem.W.nsIn K a_OPERATORS (PySem.Str.ofString "length") = some (some (.ref a_OPERATORS_9))) (v_OPERATORS_9 : K.lookup a_OPERATORS_9 = some ⟨.type "tuple", dd_OPERATORS_9, .seq #[.str (PySem.Str.ofString "text") tk_OPERATORS_9_0, .str (PySem.Str.ofString "int") tk_OPERATORS_9_1] n_OPERATORS_9, sl_OPERATORS_9⟩) {a_OPERATORS_10 : Addr} {dd_OPERATORS_10 : Option Addr} {n_OPERATORS_10 : Nat} {sl_OPERATORS_10 : Array (Option Value)} {tk_OPERATORS_10_0 tk_OPERATORS_10_1 : Tok} (w_OPERATORS_10 : PySem.W.nsIn K a_OPERATORS (PySem.Str.ofString "starts") = some (some (.ref a_OPERATORS_10))) (v_OPERATORS_10 : K.lookup a_OPERATORS_10 = some ⟨.type "tuple", dd_OPERATORS_10, .seq #[.str (PySem.Str.ofString "text") tk_OPERATORS_10_0, .str (PySem.Str.ofString "truth") tk_OPERATORS_10_1] n_OPERATORS_10, sl_OPERATORS_10⟩) (m_OPERATORS_0 : PySem.W.nsIn K a_OPERATORS (PySem.Str.ofString "missing") = some none) (m_OPERATORS_1 : PySem.W.nsIn K a_OPERATORS (PySem.Str.ofString "if") = some none) (m_OPERATORS_2 : PySem.W.nsIn K a_OPERATORS (PySem.Str.ofString "coalesce") = some none) (m_OPERATORS_3 : PySem.W.nsIn K a_OPERATORS (PySem.Str.ofString "<") = some none) (m_OPERATORS_4 : PySem.W.nsIn K a_OPERATORS (PySem.Str.ofString "<=") = some none) (m_OPERATORS_5 : PySem.W.nsIn K a_OPERATORS (PySem.Str.ofString "=") = some none) (m_OPERATORS_6 : PySem.W.nsIn K a_OPERATORS (PySem.Str.ofString "!=") = some none) (m_OPERATORS_7 : PySem.W.nsIn K a_OPERATORS (PySem.Str.ofString ">=") = some none) (m_OPERATORS_8 : PySem.W.nsIn K a_OPERATORS (PySem.Str.ofString ">") = some none) {a_COMPARISONS : Addr} {dd_COMPARISONS : Option Addr} {n_COMPARISONS : Nat} {sl_COMPARISONS : Array (Option Value)} {tk_COMPARISONS_0 tk_COMPARISONS_1 tk_COMPARISONS_2 tk_COMPARISONS_3 tk_COMPARISONS_4 tk_COMPARISONS_5 : Tok} (w_COMPARISONS : PySem.W.nsIn K mainGlobals "COMPARISONS" = some (some (.ref a_COMPARISONS))) (v_COMPARISONS : K.lookup a_COMPARISONS = some ⟨.type "tuple", dd_COMPARISONS, .seq #[.str (PySem.Str.ofString "<") tk_COMPARISONS_0, .str (PySem.Str.ofString "<=") tk_COMPARISONS_1, .str (PySem.Str.ofString "=") tk_COMPARISONS_2, .str (PySem.Str.ofString "!=") tk_COMPARISONS_3, .str (PySem.Str.ofString ">=") tk_COMPARISONS_4, .str (PySem.Str.ofString ">") tk_COMPARISONS_5] n_COMPARISONS, sl_COMPARISONS⟩) {a_EXPECTED : Addr} {es_EXPECTED : Array DictEntry} {n_EXPECTED : Nat} (w_EXPECTED : PySem.W.nsIn K mainGlobals "EXPECTED" = some (some (.ref a_EXPECTED))) (v_EXPECTED : K.lookup a_EXPECTED = some ⟨.type "dict", none, .dict es_EXPECTED n_EXPECTED, #[]⟩) (k_EXPECTED : PySem.W.KeysLit w.params es_EXPECTED.toList) (lo_EXPECTED : (a_EXPECTED == sysModules) = false) {tk_EXPECTED_0 : Tok} (w_EXPECTED_0 : PySem.W.nsIn K a_EXPECTED (PySem.Str.ofString "int") = some (some (.str (PySem.Str.ofString "expected an integer") tk_EXPECTED_0))) {tk_EXPECTED_1 : Tok} (w_EXPECTED_1 : PySem.W.nsIn K a_EXPECTED (PySem.Str.ofString "text") = some (some (.str (PySem.Str.ofString "expected a text") tk_EXPECTED_1))) {tk_EXPECTED_2 : Tok} (w_EXPECTED_2 : PySem.W.nsIn K a_EXPECTED (PySem.Str.ofString "truth") = some (some (.str (PySem.Str.ofString "expected a truth value") tk_EXPECTED_2))) {a_PLAIN_WORDS : Addr} {es_PLAIN_WORDS : Array DictEntry} {n_PLAIN_WORDS : Nat} (w_PLAIN_WORDS : PySem.W.nsIn K mainGlobals "PLAIN_WORDS" = some (some (.ref a_PLAIN_WORDS))) (v_PLAIN_WORDS : K.lookup a_PLAIN_WORDS = some ⟨.type "dict", none, .dict es_PLAIN_WORDS n_PLAIN_WORDS, #[]⟩) (k_PLAIN_WORDS : PySem.W.KeysLit w.params es_PLAIN_WORDS.toList) (lo_PLAIN_WORDS : (a_PLAIN_WORDS == sysModules) = false) {tk_PLAIN_WORDS_0 : Tok} (w_PLAIN_WORDS_0 : PySem.W.nsIn K a_PLAIN_WORDS (PySem.Str.ofString "+") = some (some (.str (PySem.Str.ofString "add") tk_PLAIN_WORDS_0))) {tk_PLAIN_WORDS_1 : Tok} (w_PLAIN_WORDS_1 : PySem.W.nsIn K a_PLAIN_WORDS (PySem.Str.ofString "-") = some (some (.str (PySem.Str.ofString "subtract") tk_PLAIN_WORDS_1))) {tk_PLAIN_WORDS_2 : Tok} (w_PLAIN_WORDS_2 : PySem.W.nsIn K a_PLAIN_WORDS (PySem.Str.ofString "*") = some (some (.str (PySem.Str.ofString "multiply") tk_PLAIN_WORDS_2))) {tk_PLAIN_WORDS_3 : Tok} (w_PLAIN_WORDS_3 : PySem.W.nsIn K a_PLAIN_WORDS (PySem.Str.ofString "div") = some (some (.str (PySem.Str.ofString "divide") tk_PLAIN_WORDS_3))) {tk_PLAIN_WORDS_4 : Tok} (w_PLAIN_WORDS_4 : PySem.W.nsIn K a_PLAIN_WORDS (PySem.Str.ofString "mod") = some (some (.str (PySem.Str.ofString "remainder") tk_PLAIN_WORDS_4))) {tk_PLAIN_WORDS_5 : Tok} (w_PLAIN_WORDS_5 : PySem.W.nsIn K a_PLAIN_WORDS (PySem.Str.ofString "<") = some (some (.str (PySem.Str.ofString "less") tk_PLAIN_WORDS_5))) {tk_PLAIN_WORDS_6 : Tok} (w_PLAIN_WORDS_6 : PySem.W.nsIn K a_PLAIN_WORDS (PySem.Str.ofString "=") = some (some (.str (PySem.Str.ofString "equal") tk_PLAIN_WORDS_6))) {tk_PLAIN_WORDS_7 : Tok} (w_PLAIN_WORDS_7 : PySem.W.nsIn K a_PLAIN_WORDS (PySem.Str.ofString "if") = some (some (.str (PySem.Str.ofString "choose") tk_PLAIN_WORDS_7))) (m_PLAIN_WORDS_0 : PySem.W.nsIn K a_PLAIN_WORDS (PySem.Str.ofString "negate") = some none) (m_PLAIN_WORDS_1 : PySem.W.nsIn K a_PLAIN_WORDS (PySem.Str.ofString "not") = some none) (m_PLAIN_WORDS_2 : PySem.W.nsIn K a_PLAIN_WORDS (PySem.Str.ofString "and") = some none) (m_PLAIN_WORDS_3 : PySem.W.nsIn K a_PLAIN_WORDS (PySem.Str.ofString "or") = some none) (m_PLAIN_WORDS_4 : PySem.W.nsIn K a_PLAIN_WORDS (PySem.Str.ofString "length") = some none) (m_PLAIN_WORDS_5 : PySem.W.nsIn K a_PLAIN_WORDS (PySem.Str.ofString "starts") = some none) (m_PLAIN_WORDS_6 : PySem.W.nsIn K a_PLAIN_WORDS (PySem.Str.ofString "missing") = some none) {a_LARGER : Addr} {dd_LARGER : Option Addr} {n_LARGER : Nat} {sl_LARGER : Array (Option Value)} {tk_LARGER_0 tk_LARGER_1 tk_LARGER_2 : Tok} (w_LARGER : PySem.W.nsIn K mainGlobals "LARGER" = some (some (.ref a_LARGER))) (v_LARGER : K.lookup a_LARGER = some ⟨.type "tuple", dd_LARGER, .seq #[.str (PySem.Str.ofString "<=") tk_LARGER_0, .str (PySem.Str.ofString "!=") tk_LARGER_1, .str (PySem.Str.ofString ">=") tk_LARGER_2] n_LARGER, sl_LARGER⟩) {tk_MOST_SIZE : Tok} (w_MOST_SIZE : PySem.W.nsIn K mainGlobals "MOST_SIZE" = some (some (.int 200 tk_MOST_SIZE))) (z_abs : PySem.W.nsIn K mainGlobals "abs" = some none) (z_bool : PySem.W.nsIn K mainGlobals "bool" = some none) (z_enumerate : PySem.W.nsIn K mainGlobals "enumerate" = some none) (z_int : PySem.W.nsIn K mainGlobals "int" = some none) (z_isinstance : PySem.W.nsIn K mainGlobals "isinstance" = some none) (z_len : PySem.W.nsIn K mainGlobals "len" = some none) (z_list : PySem.W.nsIn K mainGlobals "list" = some none) (z_range : PySem.W.nsIn K mainGlobals "range" = some none) (z_str : PySem.W.nsIn K mainGlobals "str" = some none) (z_sum : PySem.W.nsIn K mainGlobals "sum" = some none) (z_tuple : PySem.W.nsIn K mainGlobals "tuple" = some none) (ea_Problem : PySem.W.nsIn K mainGlobals "Problem" = some (some (.ref C_Problem))) (ex_Problem : K.lookup C_Problem = some (excClassObj nm_Problem q_Problem C_Problem N_Problem bs_Problem bm_Problem true sn_Problem sub_Problem ab_Problem col_Problem dd_Problem m0_Problem m1_Problem m2_Problem m3_Problem m5_Problem "ValueError.__new__")) (erv_Problem : PySem.HandSPX.refsVE bm_Problem = true) (esa_Problem : PySem.W.findIn K (.ref C_Problem) "__setattr__" = some (some (.builtin "object.__setattr__"))) (ega_Problem : PySem.W.findIn K (.ref C_Problem) "__getattribute__" = some (some (.builtin "BaseException.__getattribute__"))) (egg_Problem : PySem.W.findIn K (.ref C_Problem) "__getattr__" = some none) (en_message_Problem : PySem.W.findIn K (.ref C_Problem) "message" = some none) (ei_Problem : PySem.W.findIn K (.ref C_Problem) "__init__" = some (some (.ref fI_Problem))) (eti_Problem : PySem.W.typeIn K (.ref fI_Problem) = some (.type "function")) (el_Problem : K.lookup fI_Problem = some ⟨oc_Problem, od_Problem, .func (PySem.W.fnX "__init__" "Problem.__init__" (defArgs s_Problem___init__) (defBody s_Problem___init__) (defScope s_Problem___init__) [("__class__", cc_Problem)] .none .none dc_Problem pm_Problem none (.ref cd_Problem) ct_Problem), sl_Problem⟩) (ec_Problem : PySem.W.codeIn K (.ref cd_Problem) "Problem.__init__" = true) (eo_Problem : K.lookup cd_Problem = some ⟨occ_Problem, odc_Problem, .fields vs_Problem, slc_Problem⟩) (ev2_Problem : vs_Problem[2]? = some (.str file_Problem tf_Problem)) (efl_Problem : ((l.prog.main.file : Str) == file_Problem) = true) (exc_Problem : K.lookup cc_Problem = some ⟨ocl_Problem, odl_Problem, .cell (some (.ref C_Problem)), sll_Problem⟩) (eic_Problem : PySem.W.isClsIn K C_Problem = true) (emr_Problem : PySem.W.mroIn K C_Problem (.ref C_Problem) = some true) (ezs_Problem : PySem.W.nsIn K mainGlobals "super" = some none) (etp_Problem : (l.prog.main.scope.names.lookup ("super" : Str)).isSome = false) (eoq_Problem : PySem.W.nsIn K cStatics "thirdparty.any" = some none) (esi_Problem : PySem.W.ks_superIn K C_Problem C_Problem "__init__" = some (some (.builtin "ValueError.__init__"))) (esv_Problem : PySem.W.subIn K (.ref C_Problem) (.type "ValueError") = some true) (ee_Problem : PySem.W.subIn K (.ref C_Problem) (.type "BaseException") = some true) (et_Problem : PySem.W.typeIn K (.ref C_Problem) = some (.type "type")) (ek_Problem : PySem.W.keepIn K (.ref C_Problem) = true) (eh_Problem : PySem.W.hasDictIn K C_Problem = true) (ess_Problem : PySem.W.subIn K (.ref C_Problem) (.ref C_Problem) = some true) :
    ∃ fd : FuncData, (∀ (s : Shared) (v : Value), BindsTo s fd ⟨[v], []⟩ [("script", v)]) ∧ ∀ base : Heap, K.In base → base.Ns mainGlobals mg → FnOk l.prog w K mg base CX0 37 fa fd ["script"] (sp_law K) := by
  have e := hfa.symm.trans (PySem.W.mg_of X G a27)
  cases e
  have F_compile_expression := fun_mk (st := s_compile_expression) l0 c0 k0
  have b_compile_expression := F_compile_expression.binds (ps := ["columns", "expression"]) fun _ _ _ _ _ _ us hl => match us, hl with | [_, _], _ => rfl
  have g_compile_expression := PySem.W.mg_of X G a0
  have F_expect_kind := fun_mk (st := s_expect_kind) l1 c1 k1
  have b_expect_kind := F_expect_kind.binds (ps := ["kind", "expected"]) fun _ _ _ _ _ _ us hl => match us, hl with | [_, _], _ => rfl
  have g_expect_kind := PySem.W.mg_of X G a1
  have F_written_out := fun_mk (st := s_written_out) l2 c2 k2
  have b_written_out := F_written_out.binds (ps := ["columns", "expression"]) fun _ _ _ _ _ _ us hl => match us, hl with | [_, _], _ => rfl
  have g_written_out := PySem.W.mg_of X G a2
  have F_named_column := fun_mk (st := s_named_column) l3 c3 k3
  have b_named_column := F_named_column.binds (ps := ["columns", "expression"]) fun _ _ _ _ _ _ us hl => match us, hl with | [_, _], _ => rfl
  have g_named_column := PySem.W.mg_of X G a3
  have F_is_named := fun_mk (st := s_is_named) l4 c4 k4
  have b_is_named := F_is_named.binds (ps := ["column", "expression"]) fun _ _ _ _ _ _ us hl => match us, hl with | [_, _], _ => rfl
  have g_is_named := PySem.W.mg_of X G a4
  have F_result_kind := fun_mk (st := s_result_kind) l5 c5 k5
  have b_result_kind := F_result_kind.binds (ps := ["word", "kinds"]) fun _ _ _ _ _ _ us hl => match us, hl with | [_, _], _ => rfl
  have g_result_kind := PySem.W.mg_of X G a5
  have F_common_kind := fun_mk (st := s_common_kind) l6 c6 k6
  have b_common_kind := F_common_kind.binds (ps := ["first", "second"]) fun _ _ _ _ _ _ us hl => match us, hl with | [_, _], _ => rfl
  have g_common_kind := PySem.W.mg_of X G a6
  have F_plain_form := fun_mk (st := s_plain_form) l7 c7 k7
  have b_plain_form := F_plain_form.binds (ps := ["word", "parts"]) fun _ _ _ _ _ _ us hl => match us, hl with | [_, _], _ => rfl
  have g_plain_form := PySem.W.mg_of X G a7
  have F_result_size := fun_mk (st := s_result_size) l8 c8 k8
  have b_result_size := F_result_size.binds (ps := ["word", "sizes"]) fun _ _ _ _ _ _ us hl => match us, hl with | [_, _], _ => rfl
  have g_result_size := PySem.W.mg_of X G a8
  have F__law_draw := fun_mk (st := s__law_draw) l9 c9 k9
  have b__law_draw := F__law_draw.binds (ps := ["script"]) fun _ _ _ _ _ _ us hl => match us, hl with | [_], _ => rfl
  have g__law_draw := PySem.W.mg_of X G a9
  have F__law_next := fun_mk (st := s__law_next) l10 c10 k10
  have b__law_next := F__law_next.binds (ps := ["draw", "many"]) fun _ _ _ _ _ _ us hl => match us, hl with | [_, _], _ => rfl
  have g__law_next := PySem.W.mg_of X G a10
  have F__law_named := fun_mk (st := s__law_named) l11 c11 k11
  have b__law_named := F__law_named.binds (ps := ["draw", "columns", "kind"]) fun _ _ _ _ _ _ us hl => match us, hl with | [_, _, _], _ => rfl
  have g__law_named := PySem.W.mg_of X G a11
  have F__law_constant := fun_mk (st := s__law_constant) l12 c12 k12
  have b__law_constant := F__law_constant.binds (ps := ["draw", "kind"]) fun _ _ _ _ _ _ us hl => match us, hl with | [_, _], _ => rfl
  have g__law_constant := PySem.W.mg_of X G a12
  have F__law_typed := fun_mk (st := s__law_typed) l13 c13 k13
  have b__law_typed := F__law_typed.binds (ps := ["draw", "columns", "kind", "depth"]) fun _ _ _ _ _ _ us hl => match us, hl with | [_, _, _, _], _ => rfl
  have g__law_typed := PySem.W.mg_of X G a13
  have F__law_typed_truth := fun_mk (st := s__law_typed_truth) l14 c14 k14
  have b__law_typed_truth := F__law_typed_truth.binds (ps := ["draw", "columns", "form", "depth"]) fun _ _ _ _ _ _ us hl => match us, hl with | [_, _, _, _], _ => rfl
  have g__law_typed_truth := PySem.W.mg_of X G a14
  have F__law_kind := fun_mk (st := s__law_kind) l15 c15 k15
  have b__law_kind := F__law_kind.binds (ps := ["tree", "columns"]) fun _ _ _ _ _ _ us hl => match us, hl with | [_, _], _ => rfl
  have g__law_kind := PySem.W.mg_of X G a15
  have F__law_key := fun_mk (st := s__law_key) l16 c16 k16
  have b__law_key := F__law_key.binds (ps := ["value"]) fun _ _ _ _ _ _ us hl => match us, hl with | [_], _ => rfl
  have g__law_key := PySem.W.mg_of X G a16
  have F__law_bounded := fun_mk (st := s__law_bounded) l17 c17 k17
  have b__law_bounded := F__law_bounded.binds (ps := ["number"]) fun _ _ _ _ _ _ us hl => match us, hl with | [_], _ => rfl
  have g__law_bounded := PySem.W.mg_of X G a17
  have F__law_count := fun_mk (st := s__law_count) l18 c18 k18
  have b__law_count := F__law_count.binds (ps := ["word", "first", "second"]) fun _ _ _ _ _ _ us hl => match us, hl with | [_, _, _], _ => rfl
  have g__law_count := PySem.W.mg_of X G a18
  have F__law_logic := fun_mk (st := s__law_logic) l19 c19 k19
  have b__law_logic := F__law_logic.binds (ps := ["word", "first", "second"]) fun _ _ _ _ _ _ us hl => match us, hl with | [_, _, _], _ => rfl
  have g__law_logic := PySem.W.mg_of X G a19
  have F__law_compare := fun_mk (st := s__law_compare) l20 c20 k20
  have b__law_compare := F__law_compare.binds (ps := ["word", "first", "second"]) fun _ _ _ _ _ _ us hl => match us, hl with | [_, _, _], _ => rfl
  have g__law_compare := PySem.W.mg_of X G a20
  have F__law_value := fun_mk (st := s__law_value) l21 c21 k21
  have b__law_value := F__law_value.binds (ps := ["tree", "columns", "row"]) fun _ _ _ _ _ _ us hl => match us, hl with | [_, _, _], _ => rfl
  have g__law_value := PySem.W.mg_of X G a21
  have F__law_cell_value := fun_mk (st := s__law_cell_value) l22 c22 k22
  have b__law_cell_value := F__law_cell_value.binds (ps := ["draw", "kind"]) fun _ _ _ _ _ _ us hl => match us, hl with | [_, _], _ => rfl
  have g__law_cell_value := PySem.W.mg_of X G a22
  have F__law_row := fun_mk (st := s__law_row) l23 c23 k23
  have b__law_row := F__law_row.binds (ps := ["draw", "kinds"]) fun _ _ _ _ _ _ us hl => match us, hl with | [_, _], _ => rfl
  have g__law_row := PySem.W.mg_of X G a23
  have F__law_plain := fun_mk (st := s__law_plain) l24 c24 k24
  have b__law_plain := F__law_plain.binds (ps := ["expression", "row"]) fun _ _ _ _ _ _ us hl => match us, hl with | [_, _], _ => rfl
  have g__law_plain := PySem.W.mg_of X G a24
  have F__law_columns := fun_mk (st := s__law_columns) l25 c25 k25
  have b__law_columns := F__law_columns.binds (ps := ["draw"]) fun _ _ _ _ _ _ us hl => match us, hl with | [_], _ => rfl
  have g__law_columns := PySem.W.mg_of X G a25
  have F__law_same_value := fun_mk (st := s__law_same_value) l26 c26 k26
  have b__law_same_value := F__law_same_value.binds (ps := ["actual", "due"]) fun _ _ _ _ _ _ us hl => match us, hl with | [_, _], _ => rfl
  have g__law_same_value := PySem.W.mg_of X G a26
  have F_law := fun_mk (st := s_law) l27 c27 k27
  have M : Mg mg := ⟨PySem.W.mg_none_of X G z_abs, PySem.W.mg_none_of X G z_bool, PySem.W.mg_none_of X G z_enumerate, PySem.W.mg_none_of X G z_int, PySem.W.mg_none_of X G z_isinstance, PySem.W.mg_none_of X G z_len, PySem.W.mg_none_of X G z_list, PySem.W.mg_none_of X G z_range, PySem.W.mg_none_of X G z_str, PySem.W.mg_none_of X G z_sum, PySem.W.mg_none_of X G z_tuple⟩
  exact ⟨PySem.W.fnOf "law" "law" (defArgs s_law) (defBody s_law) (defScope s_law) .none kV27 dc27 pm27 an27 cd27 ct27, fun s v => .of_eq rfl, fun base _ _ => by
  have T_PB : OexC K C_Problem := ⟨⟨_, _, _, _, _, _, _, _, _, _, _, _, _, _, _, ex_Problem, erv_Problem⟩, esa_Problem, ee_Problem, et_Problem, ek_Problem⟩
  have xf_PB : XfC K C_Problem := ⟨ega_Problem, egg_Problem, ee_Problem, eh_Problem⟩
  have te_PB := exm_self ee_Problem eic_Problem et_Problem ess_Problem
  have U_PB : SupC l.prog K mg C_Problem fI_Problem (pF cc_Problem cd_Problem) _ := ⟨⟨_, _, _, _, _, _, el_Problem, rfl⟩, ec_Problem, ⟨_, _, _, _, _, _, eo_Problem, ev2_Problem, efl_Problem⟩, ⟨_, _, _, _, rfl, exc_Problem⟩, Option.isSome_iff_exists.mp eic_Problem, emr_Problem, PySem.W.mg_none_of X G ezs_Problem, etp_Problem, eoq_Problem, esi_Problem, esv_Problem, T_PB, (show (defScope s_Problem___init__).names.lookup ("super" : Str) = some .globalImplicit from by decide +kernel), (show (defScope s_Problem___init__).names.lookup ("__class__" : Str) = some .free from by decide +kernel), (show (defScope s_Problem___init__).names.lookup ("self" : Str) = some .local from by decide +kernel), ⟨_, rfl, rfl⟩⟩
  have PB : PrbE l.prog w K mg base C_Problem := ⟨T_PB, PySem.W.mg_of X G ea_Problem, _, _, ei_Problem, eti_Problem, ok_pinit U_PB en_message_Problem, .all fun us hl => match us, hl with | [_, _], _ => rfl⟩

  have KG : Kg K w mg a_OPERATORS a_COMPARISONS a_EXPECTED a_PLAIN_WORDS a_LARGER es_OPERATORS es_EXPECTED es_PLAIN_WORDS n_OPERATORS n_EXPECTED n_PLAIN_WORDS := by
    refine ⟨⟨_, PySem.W.mg_of X G w_OPERATORS, rfl⟩, ⟨_, PySem.W.mg_of X G w_COMPARISONS, rfl⟩, ⟨_, PySem.W.mg_of X G w_EXPECTED, rfl⟩, ⟨_, PySem.W.mg_of X G w_PLAIN_WORDS, rfl⟩, ⟨_, PySem.W.mg_of X G w_LARGER, rfl⟩, ⟨_, PySem.W.mg_of X G w_MOST_SIZE, _, rfl⟩, ⟨v_OPERATORS, k_OPERATORS, lo_OPERATORS⟩, ⟨v_EXPECTED, k_EXPECTED, lo_EXPECTED⟩, ⟨v_PLAIN_WORDS, k_PLAIN_WORDS, lo_PLAIN_WORDS⟩,
      fun H => .inr ⟨_, _, _, v_COMPARISONS, rfl, rfl, by show 6 ≤ sizeLine; decide, .cons ⟨_, rfl⟩ (.cons ⟨_, rfl⟩ (.cons ⟨_, rfl⟩ (.cons ⟨_, rfl⟩ (.cons ⟨_, rfl⟩ (.cons ⟨_, rfl⟩ .nil)))))⟩, fun H => .inr ⟨_, _, _, v_LARGER, rfl, rfl, by show 3 ≤ sizeLine; decide, .cons ⟨_, rfl⟩ (.cons ⟨_, rfl⟩ (.cons ⟨_, rfl⟩ .nil))⟩, fun x => ?_, fun o x r h => ?_, fun o h => ?_, fun o h => ?_⟩
    · cases x
      · exact ⟨_, w_EXPECTED_0, _, rfl⟩
      · exact ⟨_, w_EXPECTED_1, _, rfl⟩
      · exact ⟨_, w_EXPECTED_2, _, rfl⟩
    · cases o <;> cases h
      · exact ⟨_, w_OPERATORS_0, fun H => .inr ⟨_, _, _, v_OPERATORS_0, rfl, rfl, by show 2 ≤ sizeLine; decide, .cons ⟨_, rfl⟩ (.cons ⟨_, rfl⟩ .nil)⟩⟩
      · exact ⟨_, w_OPERATORS_6, fun H => .inr ⟨_, _, _, v_OPERATORS_6, rfl, rfl, by show 2 ≤ sizeLine; decide, .cons ⟨_, rfl⟩ (.cons ⟨_, rfl⟩ .nil)⟩⟩
      · exact ⟨_, w_OPERATORS_8, fun H => .inr ⟨_, _, _, v_OPERATORS_8, rfl, rfl, by show 2 ≤ sizeLine; decide, .cons ⟨_, rfl⟩ (.cons ⟨_, rfl⟩ .nil)⟩⟩
      · exact ⟨_, w_OPERATORS_7, fun H => .inr ⟨_, _, _, v_OPERATORS_7, rfl, rfl, by show 2 ≤ sizeLine; decide, .cons ⟨_, rfl⟩ (.cons ⟨_, rfl⟩ .nil)⟩⟩
      · exact ⟨_, w_OPERATORS_1, fun H => .inr ⟨_, _, _, v_OPERATORS_1, rfl, rfl, by show 2 ≤ sizeLine; decide, .cons ⟨_, rfl⟩ (.cons ⟨_, rfl⟩ .nil)⟩⟩
      · exact ⟨_, w_OPERATORS_2, fun H => .inr ⟨_, _, _, v_OPERATORS_2, rfl, rfl, by show 2 ≤ sizeLine; decide, .cons ⟨_, rfl⟩ (.cons ⟨_, rfl⟩ .nil)⟩⟩
      · exact ⟨_, w_OPERATORS_3, fun H => .inr ⟨_, _, _, v_OPERATORS_3, rfl, rfl, by show 2 ≤ sizeLine; decide, .cons ⟨_, rfl⟩ (.cons ⟨_, rfl⟩ .nil)⟩⟩
      · exact ⟨_, w_OPERATORS_4, fun H => .inr ⟨_, _, _, v_OPERATORS_4, rfl, rfl, by show 2 ≤ sizeLine; decide, .cons ⟨_, rfl⟩ (.cons ⟨_, rfl⟩ .nil)⟩⟩
      · exact ⟨_, w_OPERATORS_5, fun H => .inr ⟨_, _, _, v_OPERATORS_5, rfl, rfl, by show 2 ≤ sizeLine; decide, .cons ⟨_, rfl⟩ (.cons ⟨_, rfl⟩ .nil)⟩⟩
      · exact ⟨_, w_OPERATORS_9, fun H => .inr ⟨_, _, _, v_OPERATORS_9, rfl, rfl, by show 2 ≤ sizeLine; decide, .cons ⟨_, rfl⟩ (.cons ⟨_, rfl⟩ .nil)⟩⟩
      · exact ⟨_, w_OPERATORS_10, fun H => .inr ⟨_, _, _, v_OPERATORS_10, rfl, rfl, by show 2 ≤ sizeLine; decide, .cons ⟨_, rfl⟩ (.cons ⟨_, rfl⟩ .nil)⟩⟩
    · cases o <;> cases h
      · exact m_OPERATORS_3
      · exact m_OPERATORS_4
      · exact m_OPERATORS_5
      · exact m_OPERATORS_6
      · exact m_OPERATORS_7
      · exact m_OPERATORS_8
      · exact m_OPERATORS_0
      · exact m_OPERATORS_2
      · exact m_OPERATORS_1
    · cases o <;> cases h
      · exact .inr ⟨m_PLAIN_WORDS_0, rfl⟩
      · exact .inr ⟨m_PLAIN_WORDS_1, rfl⟩
      · exact .inr ⟨m_PLAIN_WORDS_3, rfl⟩
      · exact .inr ⟨m_PLAIN_WORDS_2, rfl⟩
      · exact .inl ⟨_, w_PLAIN_WORDS_5, _, rfl⟩
      · exact .inl ⟨_, w_PLAIN_WORDS_6, _, rfl⟩
      · exact .inl ⟨_, w_PLAIN_WORDS_0, _, rfl⟩
      · exact .inl ⟨_, w_PLAIN_WORDS_1, _, rfl⟩
      · exact .inl ⟨_, w_PLAIN_WORDS_2, _, rfl⟩
      · exact .inl ⟨_, w_PLAIN_WORDS_3, _, rfl⟩
      · exact .inl ⟨_, w_PLAIN_WORDS_4, _, rfl⟩
      · exact .inr ⟨m_PLAIN_WORDS_6, rfl⟩
      · exact .inr ⟨m_PLAIN_WORDS_4, rfl⟩
      · exact .inr ⟨m_PLAIN_WORDS_5, rfl⟩
      · exact .inl ⟨_, w_PLAIN_WORDS_7, _, rfl⟩
  have EK := FnOk.clx (ok_ek F_expect_kind M PB KG) F_expect_kind g_expect_kind b_expect_kind
  have CK := FnOk.clx (ok_ck F_common_kind M PB) F_common_kind g_common_kind b_common_kind
  have RK := FnOk.clx (ok_rk F_result_kind M PB KG EK CK) F_result_kind g_result_kind b_result_kind
  have RZ := FnOk.cl (P := l.prog) (w := w) (base := base) (ok_rz F_result_size M KG) F_result_size g_result_size b_result_size
  have PF := FnOk.cl (P := l.prog) (w := w) (base := base) (ok_pf F_plain_form M KG) F_plain_form g_plain_form b_plain_form
  have IN := FnOk.cl (P := l.prog) (w := w) (base := base) (ok_in F_is_named M) F_is_named g_is_named b_is_named
  have NC := FnOk.clx (ok_nc F_named_column M PB IN) F_named_column g_named_column b_named_column
  have WO := cl_wo F_written_out M PB g_written_out b_written_out NC RK PF RZ

  have DR := FnOk.cl (P := l.prog) (w := w) (base := base) (ok_draw F__law_draw M) F__law_draw g__law_draw b__law_draw
  have N := FnOk.cl (P := l.prog) (w := w) (base := base) (ok_next F__law_next M) F__law_next g__law_next b__law_next
  have CE := FnOk.clx (ok_ce 30 F_compile_expression M PB KG (WO 30)) F_compile_expression g_compile_expression b_compile_expression
  have NA := fun (cols : List Col) (ck : Cok cols) => FnOk.cl (ok_named ck F__law_named M N) F__law_named g__law_named b__law_named
  have CO := fun (cols : List Col) => FnOk.cl (ok_const (cols := cols) F__law_constant M N) F__law_constant g__law_constant b__law_constant
  have TY := FnOk.cl (FnOk.exs (sp := fun cols => sp_typed K cols 4) (p := Cok) fun cols ck => ok_typed 3 F__law_typed M N (NA cols ck) (CO cols) (cl_typed (cols := cols) F__law_typed F__law_typed_truth M g__law_typed b__law_typed g__law_typed_truth b__law_typed_truth N (NA cols ck) (CO cols) 3) (FnOk.cl (ok_tyT 3 F__law_typed_truth M N (cl_typed (cols := cols) F__law_typed F__law_typed_truth M g__law_typed b__law_typed g__law_typed_truth b__law_typed_truth N (NA cols ck) (CO cols) 3)) F__law_typed_truth g__law_typed_truth b__law_typed_truth)) F__law_typed g__law_typed b__law_typed
  have KD := FnOk.cl (FnOk.exs (sp := fun cols : List Col => sp_wkind K cols 5) (p := fun _ => True) fun cols _ => ok_wkind (P := l.prog) (w := w) (base := base) 4 F__law_kind M (cl_wkind F__law_kind M g__law_kind b__law_kind 4)) F__law_kind g__law_kind b__law_kind
  have KY := FnOk.cl (P := l.prog) (w := w) (base := base) (ok_wkey F__law_key M) F__law_key g__law_key b__law_key
  have BN := FnOk.cl (P := l.prog) (w := w) (base := base) (ok_wbnd F__law_bounded M) F__law_bounded g__law_bounded b__law_bounded
  have CN := FnOk.cl (ok_wcnt F__law_count M BN) F__law_count g__law_count b__law_count
  have LG := FnOk.cl (P := l.prog) (w := w) (base := base) (ok_wlog (K := K) F__law_logic M) F__law_logic g__law_logic b__law_logic
  have CM := FnOk.cl (ok_wcmp F__law_compare M KY) F__law_compare g__law_compare b__law_compare
  have PL := FnOk.cl (FnOk.exs (sp := fun row : List Wv => sp_wpln K row 15) (p := fun _ => True) fun row _ => ok_wpln 14 F__law_plain M (cl_wpln F__law_plain M g__law_plain b__law_plain LG CN CM 14) LG CN CM) F__law_plain g__law_plain b__law_plain
  have VA := FnOk.cl (FnOk.exs (sp := fun x : List Col × List Wv => sp_wval K x.1 x.2 5) (p := fun _ => True) fun x _ => ok_wval 4 F__law_value M (cl_wval F__law_value M g__law_value b__law_value LG CN CM 4) LG CN CM) F__law_value g__law_value b__law_value
  have SM := FnOk.cl (P := l.prog) (w := w) (base := base) (ok_wsame (K := K) F__law_same_value M) F__law_same_value g__law_same_value b__law_same_value
  have CV := FnOk.cl (ok_wcell F__law_cell_value M N) F__law_cell_value g__law_cell_value b__law_cell_value
  have RW := FnOk.cl (ok_wrow F__law_row M CV) F__law_row g__law_row b__law_row
  have CL := FnOk.cl (ok_wcols F__law_columns M N) F__law_columns g__law_columns b__law_columns
  exact ok_law F_law M DR N CL TY CE KD RW PL VA SM⟩
end Lw
open PySem PySem.W PyProof.Rows
set_option maxHeartbeats 0 in
theorem PySem.Challenge.cw_lineworks_k12_expressions_are_compiled_holds : PySem.Challenge.rw_lineworks_k12_expressions_are_compiled.Holds := by
  w_on; o_law; k_head; (case hw => w_witness2)
  k_fill
  refine L2.walk_of (l := PySem.Challenge.rw_lineworks_k12_expressions_are_compiled) (n := 63) (k := 37) (x := "script") (CX := fun _ => L2.CX0) (sp := fun w => Lw.sp_law _) rfl (by decide) rfl ⟨rfl, by decide, by decide⟩ (fun w h Y => PySem.W.kIn_of Y) ?F (fun _ _ a ns hl _ hS => ⟨a, ns, rfl, hS, hl, fun _ => rfl⟩) (fun _ _ _ _ _ h => h)
  case F =>
    intro w mg fa h KX G hmg
    refine' Lw.all_mk KX G hmg ?a0 ?l0 ?c0 ?k0 ?a1 ?l1 ?c1 ?k1 ?a2 ?l2 ?c2 ?k2 ?a3 ?l3 ?c3 ?k3 ?a4 ?l4 ?c4 ?k4 ?a5 ?l5 ?c5 ?k5 ?a6 ?l6 ?c6 ?k6 ?a7 ?l7 ?c7 ?k7 ?a8 ?l8 ?c8 ?k8 ?a9 ?l9 ?c9 ?k9 ?a10 ?l10 ?c10 ?k10 ?a11 ?l11 ?c11 ?k11 ?a12 ?l12 ?c12 ?k12 ?a13 ?l13 ?c13 ?k13 ?a14 ?l14 ?c14 ?k14 ?a15 ?l15 ?c15 ?k15 ?a16 ?l16 ?c16 ?k16 ?a17 ?l17 ?c17 ?k17 ?a18 ?l18 ?c18 ?k18 ?a19 ?l19 ?c19 ?k19 ?a20 ?l20 ?c20 ?k20 ?a21 ?l21 ?c21 ?k21 ?a22 ?l22 ?c22 ?k22 ?a23 ?l23 ?c23 ?k23 ?a24 ?l24 ?c24 ?k24 ?a25 ?l25 ?c25 ?k25 ?a26 ?l26 ?c26 ?k26 ?a27 ?l27 ?c27 ?k27 ?w_OPERATORS ?v_OPERATORS ?k_OPERATORS ?lo_OPERATORS ?w_OPERATORS_0 ?v_OPERATORS_0 ?w_OPERATORS_1 ?v_OPERATORS_1 ?w_OPERATORS_2 ?v_OPERATORS_2 ?w_OPERATORS_3 ?v_OPERATORS_3 ?w_OPERATORS_4 ?v_OPERATORS_4 ?w_OPERATORS_5 ?v_OPERATORS_5 ?w_OPERATORS_6 ?v_OPERATORS_6 ?w_OPERATORS_7 ?v_OPERATORS_7 ?w_OPERATORS_8 ?v_OPERATORS_8 ?w_OPERATORS_9 ?v_OPERATORS_9 ?w_OPERATORS_10 ?v_OPERATORS_10 ?m_OPERATORS_0 ?m_OPERATORS_1 ?m_OPERATORS_2 ?m_OPERATORS_3 ?m_OPERATORS_4 ?m_OPERATORS_5 ?m_OPERATORS_6 ?m_OPERATORS_7 ?m_OPERATORS_8 ?w_COMPARISONS ?v_COMPARISONS ?w_EXPECTED ?v_EXPECTED ?k_EXPECTED ?lo_EXPECTED ?w_EXPECTED_0 ?w_EXPECTED_1 ?w_EXPECTED_2 ?w_PLAIN_WORDS ?v_PLAIN_WORDS ?k_PLAIN_WORDS ?lo_PLAIN_WORDS ?w_PLAIN_WORDS_0 ?w_PLAIN_WORDS_1 ?w_PLAIN_WORDS_2 ?w_PLAIN_WORDS_3 ?w_PLAIN_WORDS_4 ?w_PLAIN_WORDS_5 ?w_PLAIN_WORDS_6 ?w_PLAIN_WORDS_7 ?m_PLAIN_WORDS_0 ?m_PLAIN_WORDS_1 ?m_PLAIN_WORDS_2 ?m_PLAIN_WORDS_3 ?m_PLAIN_WORDS_4 ?m_PLAIN_WORDS_5 ?m_PLAIN_WORDS_6 ?w_LARGER ?v_LARGER ?w_MOST_SIZE ?z_abs ?z_bool ?z_enumerate ?z_int ?z_isinstance ?z_len ?z_list ?z_range ?z_str ?z_sum ?z_tuple ?ea_Problem ?ex_Problem ?erv_Problem ?esa_Problem ?ega_Problem ?egg_Problem ?en_message_Problem ?ei_Problem ?eti_Problem ?el_Problem ?ec_Problem ?eo_Problem ?ev2_Problem ?efl_Problem ?exc_Problem ?eic_Problem ?emr_Problem ?ezs_Problem ?etp_Problem ?eoq_Problem ?esi_Problem ?esv_Problem ?ee_Problem ?et_Problem ?ek_Problem ?eh_Problem ?ess_Problem
    (case a0 => k_is); (case l0 => k_is); (case c0 => k_is); (case k0 => k_is)
    (case a1 => k_is); (case l1 => k_is); (case c1 => k_is); (case k1 => k_is)
    (case a2 => k_is); (case l2 => k_is); (case c2 => k_is); (case k2 => k_is)
    (case a3 => k_is); (case l3 => k_is); (case c3 => k_is); (case k3 => k_is)
    (case a4 => k_is); (case l4 => k_is); (case c4 => k_is); (case k4 => k_is)
    (case a5 => k_is); (case l5 => k_is); (case c5 => k_is); (case k5 => k_is)
    (case a6 => k_is); (case l6 => k_is); (case c6 => k_is); (case k6 => k_is)
    (case a7 => k_is); (case l7 => k_is); (case c7 => k_is); (case k7 => k_is)
    (case a8 => k_is); (case l8 => k_is); (case c8 => k_is); (case k8 => k_is)
    (case a9 => k_is); (case l9 => k_is); (case c9 => k_is); (case k9 => k_is)
    (case a10 => k_is); (case l10 => k_is); (case c10 => k_is); (case k10 => k_is)
    (case a11 => k_is); (case l11 => k_is); (case c11 => k_is); (case k11 => k_is)
    (case a12 => k_is); (case l12 => k_is); (case c12 => k_is); (case k12 => k_is)
    (case a13 => k_is); (case l13 => k_is); (case c13 => k_is); (case k13 => k_is)
    (case a14 => k_is); (case l14 => k_is); (case c14 => k_is); (case k14 => k_is)
    (case a15 => k_is); (case l15 => k_is); (case c15 => k_is); (case k15 => k_is)
    (case a16 => k_is); (case l16 => k_is); (case c16 => k_is); (case k16 => k_is)
    (case a17 => k_is); (case l17 => k_is); (case c17 => k_is); (case k17 => k_is)
    (case a18 => k_is); (case l18 => k_is); (case c18 => k_is); (case k18 => k_is)
    (case a19 => k_is); (case l19 => k_is); (case c19 => k_is); (case k19 => k_is)
    (case a20 => k_is); (case l20 => k_is); (case c20 => k_is); (case k20 => k_is)
    (case a21 => k_is); (case l21 => k_is); (case c21 => k_is); (case k21 => k_is)
    (case a22 => k_is); (case l22 => k_is); (case c22 => k_is); (case k22 => k_is)
    (case a23 => k_is); (case l23 => k_is); (case c23 => k_is); (case k23 => k_is)
    (case a24 => k_is); (case l24 => k_is); (case c24 => k_is); (case k24 => k_is)
    (case a25 => k_is); (case l25 => k_is); (case c25 => k_is); (case k25 => k_is)
    (case a26 => k_is); (case l26 => k_is); (case c26 => k_is); (case k26 => k_is)
    (case a27 => k_is); (case l27 => k_is); (case c27 => k_is); (case k27 => k_is)
    (case w_OPERATORS => k_is)
    (case v_OPERATORS => k_is)
    (case k_OPERATORS => k_keys)
    (case lo_OPERATORS => first | rfl | decide | decide +kernel)
    (case w_OPERATORS_0 => k_is)
    (case v_OPERATORS_0 => k_is)
    (case w_OPERATORS_1 => k_is)
    (case v_OPERATORS_1 => k_is)
    (case w_OPERATORS_2 => k_is)
    (case v_OPERATORS_2 => k_is)
    (case w_OPERATORS_3 => k_is)
    (case v_OPERATORS_3 => k_is)
    (case w_OPERATORS_4 => k_is)
    (case v_OPERATORS_4 => k_is)
    (case w_OPERATORS_5 => k_is)
    (case v_OPERATORS_5 => k_is)
    (case w_OPERATORS_6 => k_is)
    (case v_OPERATORS_6 => k_is)
    (case w_OPERATORS_7 => k_is)
    (case v_OPERATORS_7 => k_is)
    (case w_OPERATORS_8 => k_is)
    (case v_OPERATORS_8 => k_is)
    (case w_OPERATORS_9 => k_is)
    (case v_OPERATORS_9 => k_is)
    (case w_OPERATORS_10 => k_is)
    (case v_OPERATORS_10 => k_is)
    (case m_OPERATORS_0 => k_is)
    (case m_OPERATORS_1 => k_is)
    (case m_OPERATORS_2 => k_is)
    (case m_OPERATORS_3 => k_is)
    (case m_OPERATORS_4 => k_is)
    (case m_OPERATORS_5 => k_is)
    (case m_OPERATORS_6 => k_is)
    (case m_OPERATORS_7 => k_is)
    (case m_OPERATORS_8 => k_is)
    (case w_COMPARISONS => k_is)
    (case v_COMPARISONS => k_is)
    (case w_EXPECTED => k_is)
    (case v_EXPECTED => k_is)
    (case k_EXPECTED => k_keys)
    (case lo_EXPECTED => first | rfl | decide | decide +kernel)
    (case w_EXPECTED_0 => k_is)
    (case w_EXPECTED_1 => k_is)
    (case w_EXPECTED_2 => k_is)
    (case w_PLAIN_WORDS => k_is)
    (case v_PLAIN_WORDS => k_is)
    (case k_PLAIN_WORDS => k_keys)
    (case lo_PLAIN_WORDS => first | rfl | decide | decide +kernel)
    (case w_PLAIN_WORDS_0 => k_is)
    (case w_PLAIN_WORDS_1 => k_is)
    (case w_PLAIN_WORDS_2 => k_is)
    (case w_PLAIN_WORDS_3 => k_is)
    (case w_PLAIN_WORDS_4 => k_is)
    (case w_PLAIN_WORDS_5 => k_is)
    (case w_PLAIN_WORDS_6 => k_is)
    (case w_PLAIN_WORDS_7 => k_is)
    (case m_PLAIN_WORDS_0 => k_is)
    (case m_PLAIN_WORDS_1 => k_is)
    (case m_PLAIN_WORDS_2 => k_is)
    (case m_PLAIN_WORDS_3 => k_is)
    (case m_PLAIN_WORDS_4 => k_is)
    (case m_PLAIN_WORDS_5 => k_is)
    (case m_PLAIN_WORDS_6 => k_is)
    (case w_LARGER => k_is)
    (case v_LARGER => k_is)
    (case w_MOST_SIZE => k_is)
    (case z_abs => k_is); (case z_bool => k_is); (case z_enumerate => k_is); (case z_int => k_is); (case z_isinstance => k_is); (case z_len => k_is); (case z_list => k_is); (case z_range => k_is); (case z_str => k_is); (case z_sum => k_is); (case z_tuple => k_is)
    (case ea_Problem => k_is)
    (case ex_Problem => k_is)
    (case erv_Problem => first | rfl | decide | decide +kernel)
    (case esa_Problem => k_is)
    (case ega_Problem => k_is)
    (case egg_Problem => k_is)
    (case en_message_Problem => k_is)
    (case ei_Problem => k_is)
    (case eti_Problem => k_is)
    (case el_Problem => k_is)
    (case ec_Problem => k_is)
    (case eo_Problem => k_is)
    (case ev2_Problem => rfl)
    (case efl_Problem => first | rfl | decide | decide +kernel)
    (case exc_Problem => k_is)
    (case eic_Problem => k_is)
    (case emr_Problem => k_is)
    (case ezs_Problem => k_is)
    (case etp_Problem => first | rfl | decide | decide +kernel)
    (case eoq_Problem => k_is)
    (case esi_Problem => ks_is)
    (case esv_Problem => k_is)
    (case ee_Problem => k_is)
    (case et_Problem => k_is)
    (case ek_Problem => k_is)
    (case eh_Problem => k_is)
    (case ess_Problem => k_is)

