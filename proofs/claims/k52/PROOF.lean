import PyProof.Rows.All
import Wide.All
import OpenK.AllK
import Wide.FinOn
import HandS.ForMost
import HandS.Wide
import HandS.IsInst
import HandS.Codes
import HandS.More
import HandS.Star
import HandS.CallLocal
import HandS.SortKw
import HandS.Set
import HandS.SetBool
import HandS.SetKeys
import HandS.Deep
import KE.LtSeq
import KE.LtData
import KE.KSortTup
import KE.DataCmp
import KE.KMinKey
import KE.DataMinKey
import PySem.Challenge.RW_lineworks_k52_totals_of_rows
set_option Elab.async false
set_option linter.all false
set_option maxRecDepth 100000
namespace Lw
open PySem PySem.Spec PyProof.Rows L2
def topS (i : Nat) : Stmt := PySem.Challenge.pw_lineworks_k52_totals_of_rows.main.body.getD i (.Pass ⟨0, 0, 0, 0⟩)
abbrev s_value_key : Stmt := topS 2
abbrev N_value_key : List Str := ["value"]
theorem sc_value_key : FnScope N_value_key ["value"] (defScope s_value_key) := ⟨rfl, rfl, rfl, by decide +kernel, rfl, by decide +kernel, by decide +kernel⟩
abbrev s_is_true : Stmt := topS 3
abbrev N_is_true : List Str := ["value"]
theorem sc_is_true : FnScope N_is_true ["value"] (defScope s_is_true) := ⟨rfl, rfl, rfl, by decide +kernel, rfl, by decide +kernel, by decide +kernel⟩
abbrev s_is_false : Stmt := topS 4
abbrev N_is_false : List Str := ["value"]
theorem sc_is_false : FnScope N_is_false ["value"] (defScope s_is_false) := ⟨rfl, rfl, rfl, by decide +kernel, rfl, by decide +kernel, by decide +kernel⟩
abbrev s_bounded : Stmt := topS 5
abbrev N_bounded : List Str := ["number"]
theorem sc_bounded : FnScope N_bounded ["number"] (defScope s_bounded) := ⟨rfl, rfl, rfl, by decide +kernel, rfl, by decide +kernel, by decide +kernel⟩
abbrev s_are_integers : Stmt := topS 6
abbrev N_are_integers : List Str := ["first", "second"]
theorem sc_are_integers : FnScope N_are_integers ["first", "second"] (defScope s_are_integers) := ⟨rfl, rfl, rfl, by decide +kernel, rfl, by decide +kernel, by decide +kernel⟩
abbrev s_negate : Stmt := topS 7
abbrev N_negate : List Str := ["value"]
theorem sc_negate : FnScope N_negate ["value"] (defScope s_negate) := ⟨rfl, rfl, rfl, by decide +kernel, rfl, by decide +kernel, by decide +kernel⟩
abbrev s_add : Stmt := topS 8
abbrev N_add : List Str := ["first", "second"]
theorem sc_add : FnScope N_add ["first", "second"] (defScope s_add) := ⟨rfl, rfl, rfl, by decide +kernel, rfl, by decide +kernel, by decide +kernel⟩
abbrev s_subtract : Stmt := topS 9
abbrev N_subtract : List Str := ["first", "second"]
theorem sc_subtract : FnScope N_subtract ["first", "second"] (defScope s_subtract) := ⟨rfl, rfl, rfl, by decide +kernel, rfl, by decide +kernel, by decide +kernel⟩
abbrev s_multiply : Stmt := topS 10
abbrev N_multiply : List Str := ["first", "second"]
theorem sc_multiply : FnScope N_multiply ["first", "second"] (defScope s_multiply) := ⟨rfl, rfl, rfl, by decide +kernel, rfl, by decide +kernel, by decide +kernel⟩
abbrev s_divide : Stmt := topS 11
abbrev N_divide : List Str := ["first", "second"]
theorem sc_divide : FnScope N_divide ["first", "second"] (defScope s_divide) := ⟨rfl, rfl, rfl, by decide +kernel, rfl, by decide +kernel, by decide +kernel⟩
abbrev s_remainder : Stmt := topS 12
abbrev N_remainder : List Str := ["first", "second"]
theorem sc_remainder : FnScope N_remainder ["first", "second"] (defScope s_remainder) := ⟨rfl, rfl, rfl, by decide +kernel, rfl, by decide +kernel, by decide +kernel⟩
abbrev s_less : Stmt := topS 13
abbrev N_less : List Str := ["first", "second"]
theorem sc_less : FnScope N_less ["first", "second"] (defScope s_less) := ⟨rfl, rfl, rfl, by decide +kernel, rfl, by decide +kernel, by decide +kernel⟩
abbrev s_equal : Stmt := topS 14
abbrev N_equal : List Str := ["first", "second"]
theorem sc_equal : FnScope N_equal ["first", "second"] (defScope s_equal) := ⟨rfl, rfl, rfl, by decide +kernel, rfl, by decide +kernel, by decide +kernel⟩
abbrev s_conjunction : Stmt := topS 15
abbrev N_conjunction : List Str := ["first", "second"]
theorem sc_conjunction : FnScope N_conjunction ["first", "second"] (defScope s_conjunction) := ⟨rfl, rfl, rfl, by decide +kernel, rfl, by decide +kernel, by decide +kernel⟩
abbrev s_disjunction : Stmt := topS 16
abbrev N_disjunction : List Str := ["first", "second"]
theorem sc_disjunction : FnScope N_disjunction ["first", "second"] (defScope s_disjunction) := ⟨rfl, rfl, rfl, by decide +kernel, rfl, by decide +kernel, by decide +kernel⟩
abbrev s_negation : Stmt := topS 17
abbrev N_negation : List Str := ["value"]
theorem sc_negation : FnScope N_negation ["value"] (defScope s_negation) := ⟨rfl, rfl, rfl, by decide +kernel, rfl, by decide +kernel, by decide +kernel⟩
abbrev s_missing : Stmt := topS 18
abbrev N_missing : List Str := ["value"]
theorem sc_missing : FnScope N_missing ["value"] (defScope s_missing) := ⟨rfl, rfl, rfl, by decide +kernel, rfl, by decide +kernel, by decide +kernel⟩
abbrev s_choose : Stmt := topS 19
abbrev N_choose : List Str := ["condition", "first", "second"]
theorem sc_choose : FnScope N_choose ["condition", "first", "second"] (defScope s_choose) := ⟨rfl, rfl, rfl, by decide +kernel, rfl, by decide +kernel, by decide +kernel⟩
abbrev s_length : Stmt := topS 20
abbrev N_length : List Str := ["value"]
theorem sc_length : FnScope N_length ["value"] (defScope s_length) := ⟨rfl, rfl, rfl, by decide +kernel, rfl, by decide +kernel, by decide +kernel⟩
abbrev s_starts : Stmt := topS 21
abbrev N_starts : List Str := ["first", "second"]
theorem sc_starts : FnScope N_starts ["first", "second"] (defScope s_starts) := ⟨rfl, rfl, rfl, by decide +kernel, rfl, by decide +kernel, by decide +kernel⟩
abbrev s_evaluate : Stmt := topS 23
abbrev N_evaluate : List Str := ["expression", "row", "word", "operation", "operands", "part"]
theorem sc_evaluate : FnScope N_evaluate ["expression", "row"] (defScope s_evaluate) := ⟨rfl, rfl, rfl, by decide +kernel, rfl, by decide +kernel, by decide +kernel⟩
abbrev s_total : Stmt := topS 25
abbrev N_total : List Str := ["form", "rows", "word", "values", "known", "row", "value"]
theorem sc_total : FnScope N_total ["form", "rows"] (defScope s_total) := ⟨rfl, rfl, rfl, by decide +kernel, rfl, by decide +kernel, by decide +kernel⟩
abbrev s_exact_sum : Stmt := topS 26
abbrev N_exact_sum : List Str := ["values", "integers", "value"]
theorem sc_exact_sum : FnScope N_exact_sum ["values"] (defScope s_exact_sum) := ⟨rfl, rfl, rfl, by decide +kernel, rfl, by decide +kernel, by decide +kernel⟩
abbrev s__law_draw : Stmt := topS 28
abbrev N__law_draw : List Str := ["script"]
theorem sc__law_draw : FnScope N__law_draw ["script"] (defScope s__law_draw) := ⟨rfl, rfl, rfl, by decide +kernel, rfl, by decide +kernel, by decide +kernel⟩
abbrev s__law_next : Stmt := topS 29
abbrev N__law_next : List Str := ["draw", "many", "found", "cell"]
theorem sc__law_next : FnScope N__law_next ["draw", "many"] (defScope s__law_next) := ⟨rfl, rfl, rfl, by decide +kernel, rfl, by decide +kernel, by decide +kernel⟩
abbrev s__law_same : Stmt := topS 30
abbrev N__law_same : List Str := ["actual", "due", "k"]
theorem sc__law_same : FnScope N__law_same ["actual", "due"] (defScope s__law_same) := ⟨rfl, rfl, rfl, by decide +kernel, rfl, by decide +kernel, by decide +kernel⟩
abbrev s__law_cell : Stmt := topS 31
abbrev N__law_cell : List Str := ["draw", "form"]
theorem sc__law_cell : FnScope N__law_cell ["draw"] (defScope s__law_cell) := ⟨rfl, rfl, rfl, by decide +kernel, rfl, by decide +kernel, by decide +kernel⟩
abbrev s__law_key : Stmt := topS 32
abbrev N__law_key : List Str := ["value"]
theorem sc__law_key : FnScope N__law_key ["value"] (defScope s__law_key) := ⟨rfl, rfl, rfl, by decide +kernel, rfl, by decide +kernel, by decide +kernel⟩
abbrev s__law_row_key : Stmt := topS 33
abbrev s__law_distinct : Stmt := topS 34
abbrev N__law_distinct : List Str := ["rows", "found", "row"]
theorem sc__law_distinct : FnScope N__law_distinct ["rows"] (defScope s__law_distinct) := ⟨rfl, rfl, rfl, by decide +kernel, rfl, by decide +kernel, by decide +kernel⟩
abbrev s__law_ordered : Stmt := topS 35
abbrev s__law_expression : Stmt := topS 36
abbrev N__law_expression : List Str := ["draw", "width", "depth", "form", "word", "first", "second", "words"]
theorem sc__law_expression : FnScope N__law_expression ["draw", "width", "depth"] (defScope s__law_expression) := ⟨rfl, rfl, rfl, by decide +kernel, rfl, by decide +kernel, by decide +kernel⟩
abbrev s__law_known : Stmt := topS 37
abbrev N__law_known : List Str := ["value"]
theorem sc__law_known : FnScope N__law_known ["value"] (defScope s__law_known) := ⟨rfl, rfl, rfl, by decide +kernel, rfl, by decide +kernel, by decide +kernel⟩
abbrev s__law_bounded : Stmt := topS 38
abbrev N__law_bounded : List Str := ["number"]
theorem sc__law_bounded : FnScope N__law_bounded ["number"] (defScope s__law_bounded) := ⟨rfl, rfl, rfl, by decide +kernel, rfl, by decide +kernel, by decide +kernel⟩
abbrev s__law_arithmetic : Stmt := topS 39
abbrev N__law_arithmetic : List Str := ["word", "first", "second", "quotient"]
theorem sc__law_arithmetic : FnScope N__law_arithmetic ["word", "first", "second"] (defScope s__law_arithmetic) := ⟨rfl, rfl, rfl, by decide +kernel, rfl, by decide +kernel, by decide +kernel⟩
abbrev s__law_logic : Stmt := topS 40
abbrev N__law_logic : List Str := ["word", "first", "second", "deciding", "one", "two"]
theorem sc__law_logic : FnScope N__law_logic ["word", "first", "second"] (defScope s__law_logic) := ⟨rfl, rfl, rfl, by decide +kernel, rfl, by decide +kernel, by decide +kernel⟩
abbrev s__law_single : Stmt := topS 41
abbrev N__law_single : List Str := ["word", "value"]
theorem sc__law_single : FnScope N__law_single ["word", "value"] (defScope s__law_single) := ⟨rfl, rfl, rfl, by decide +kernel, rfl, by decide +kernel, by decide +kernel⟩
abbrev s__law_due : Stmt := topS 42
abbrev N__law_due : List Str := ["tree", "row", "word", "first", "second"]
theorem sc__law_due : FnScope N__law_due ["tree", "row"] (defScope s__law_due) := ⟨rfl, rfl, rfl, by decide +kernel, rfl, by decide +kernel, by decide +kernel⟩
abbrev s__law_holds : Stmt := topS 43
abbrev s__law_total : Stmt := topS 44
abbrev N__law_total : List Str := ["form", "rows", "values", "numbers", "ordered", "row", "value"]
theorem sc__law_total : FnScope N__law_total ["form", "rows"] (defScope s__law_total) := ⟨rfl, rfl, rfl, by decide +kernel, rfl, by decide +kernel, by decide +kernel⟩
abbrev s__law_form : Stmt := topS 45
abbrev s_law : Stmt := topS 46
abbrev N_law : List Str := ["script", "draw", "width", "great", "rows", "k", "row", "word", "form", "handed", "j"]
theorem sc_law : FnScope N_law ["script"] (defScope s_law) := ⟨rfl, rfl, rfl, by decide +kernel, rfl, by decide +kernel, by decide +kernel⟩
/-! ### heaps and calls -/
theorem same_upd {H : Hp} {p : Addr} {o : HO} (h : H p = none) : Same H (upd H p o) := fun b x e => by
  rw [upd_ne (ne_of_none e h)]
  exact e
/-- what stood stands, but for the object at d -/
def Fd (d : Addr) (H H' : Hp) : Prop := ∀ b o, b ≠ d → H b = some o → H' b = some o
theorem Fd.refl (d : Addr) (H : Hp) : Fd d H H := fun _ _ _ e => e
theorem Fd.trans {d : Addr} {H H1 H2 : Hp} (a : Fd d H H1) (b : Fd d H1 H2) : Fd d H H2 := fun c o n e => b c o n (a c o n e)
theorem Fd.of {d : Addr} {H H' : Hp} (a : Same H H') : Fd d H H' := fun b o _ e => a b o e
theorem Fd.new {d : Addr} {H : Hp} {p : Addr} {o : HO} (h : H p = none) : Fd d H (upd H p o) := Fd.of (same_upd h)
theorem Fd.at {d : Addr} {H : Hp} {o : HO} : Fd d H (upd H d o) := fun b x n e => by
  rw [upd_ne n]
  exact e
/-- a def that may be called by its name -/
structure Cl (P : Program) (w : World) (K : PySem.W.Frag) (mg : Str → Option Value) (base : Heap) (k : Nat) (x : Str) (sp : Sp) : Prop where
  ex : ∃ (f : Addr) (fd : FuncData) (ps : List Str), FnOk P w K mg base CX0 k f fd ps sp ∧ mg x = some (.ref f) ∧ PySem.W.keepIn K (.ref f) = true ∧ Binds K fd ps []
section
variable {X : Cx} {k j : Nat} {x : Str} {sp : Sp} {p pos : Pos} {e : Expr} {es : List Expr} {t : TA}
theorem pe_u (c : Cl X.prog X.w X.K X.mg X.base k x sp) (hr : Room j X.A) (hk : k ≤ j) (hg : Gl X x) (ha : PA X (e :: es) t)
    (hdb : (x == ("__debug__" : Str)) = false := by decide) (he : starEach (e :: es) X.env = (false, eval e X.env) :: starEach es X.env := by rfl) (hpl : (backTo pos (starEach es X.env)).any (·.1) = false := by rfl) :
    PE X (.Call (.Name x p) (e :: es) [] pos) (tCall sp [] E0 t) := by
  obtain ⟨f, fd, ps, F, hm, kp, b⟩ := c.ex
  exact pe_call F (hr.mono hk) hg hm kp b .nil pass0 ha hdb he hpl
theorem pe_u0 (c : Cl X.prog X.w X.K X.mg X.base k x sp) (hr : Room j X.A) (hk : k ≤ j) (hg : Gl X x) (hdb : (x == ("__debug__" : Str)) = false := by decide) : PE X (.Call (.Name x p) [] [] pos) (tCall sp [] E0 tNil) := by
  obtain ⟨f, fd, ps, F, hm, kp, b⟩ := c.ex
  exact pe_call0 F (hr.mono hk) hg hm kp b .nil pass0 hdb
end
theorem FnOk.cl {P : Program} {w : World} {K : PySem.W.Frag} {mg : Str → Option Value} {base : Heap} {k : Nat} {x q : Str} {st : Stmt} {f : Addr} {fd : FuncData} {ps : List Str} {sp : Sp} (h : FnOk P w K mg base CX0 k f fd ps sp) (F : Fun K x q st f fd) (g : mg x = some (.ref f)) (b : Binds K fd ps []) : Cl P w K mg base k x sp := ⟨f, fd, ps, h, g, F.kp, b⟩
/-! ### rules with the written part named (within a comprehension) -/
section
variable {X : Cx} (K : PySem.W.Frag)
theorem ix_listK (h : X.K = K := by rfl) : IxR X (rIxL K) := by subst h; exact ix_list
theorem ix_tupK (h : X.K = K := by rfl) : IxR X (rIxT K) := by subst h; exact ix_tup
theorem ix_seqK (h : X.K = K := by rfl) : IxR X (rIx K) := by subst h; exact ix_seq
theorem len_seqK (h : X.K = K := by rfl) : CallR X (.builtin "len") (fun xs H Q => ∃ p ys, xs = [.ref p] ∧ (SqL K H p ys ∨ SqT K H p ys) ∧ Q (.int ys.length) H) := by subst h; exact call_len_seq
theorem isiK (h : X.K = K := by rfl) : CallR X (.builtin "isinstance") (rIsi K) := by subst h; exact call_isi
theorem isiTK (h : X.K = K := by rfl) : CallR X (.builtin "isinstance") (rIsiT K) := by subst h; exact call_isiT
theorem allK (hc : X.calm = true) (h : X.K = K := by rfl) : CallR X (.builtin "all") (rAll K) := by subst h; exact cr_all hc
theorem listK (h : X.K = K := by rfl) : CallR X (.type "list") (fun xs H Q => ∃ p ys, xs = [.ref p] ∧ (SqL K H p ys ∨ SqT K H p ys) ∧ ∀ l, H l = none → Q (.ref l) (upd H l (.lst ys))) := by subst h; exact call_list_of
theorem tupleK (h : X.K = K := by rfl) : CallR X (.type "tuple") (fun xs H Q => ∃ p ys, xs = [.ref p] ∧ ((SqL K H p ys ∧ ∀ l, H l = none → Q (.ref l) (upd H l (.tup ys))) ∨ (SqT K H p ys ∧ Q (.ref p) H))) := by subst h; exact call_tuple_of
theorem inK (h : X.K = K := by rfl) : OpR X (compareOp .In) (rIn K false) := by subst h; exact op_in_seq
theorem notInK (h : X.K = K := by rfl) : OpR X (compareOp .NotIn) (rIn K true) := by subst h; exact op_notIn_seq
theorem pe_bmK {T : String} {name : Str} {id : String} {r : V → List V → Hp → VK → Prop} {o e : Expr} {es : List Expr} {to : TE} {t : TA} {apos cpos : Pos} (pa : PlainAttrs T) (slot : Slot T name id) (hty : typeOf (.builtin id) = pure (.type "method_descriptor")) (hm : MtR X id r) (ho : PE X o to) (ha : PA X (e :: es) t) (hK : X.K = K := by rfl)
    (hbase : attributeBase o name X.env (eval o X.env) = eval o X.env := by rfl)
    (hfew : ((backTo cpos (starEach (e :: es) X.env)).all (fun x => !x.1) && (backToKw cpos (keywordEach [] X.env)).all (fun x => x.1.isSome)
      && decide ((e :: es).length + ([] : List Keyword).length + (if ([] : List Keyword).isEmpty then 0 else 1) < 30)) = true := by rfl)
    (hline : (apos.endLine == cpos.line) = true := by rfl) (hs : starEach (e :: es) X.env = (false, eval e X.env) :: starEach es X.env := by rfl) (hplain : (backTo cpos (starEach es X.env)).any (·.1) = false := by rfl) :
    PE X (.Call (.Attribute o name apos) (e :: es) [] cpos) (tBM K T r to t) := by subst hK; exact pe_bm pa slot hty hm ho ha hbase hfew hline hs hplain
theorem pt_truthK {a : Expr} {ta : TE} (ha : PE X a ta) (he : ∀ whole, isTrue a X.env whole = (do let v ← whole; standAt a.pos; holding [v] (truthy v))) (h : X.K = K := by rfl) : PT X a (fun σ H Q => ta σ H fun x H' => ∃ k, TruV K x H' k ∧ Q k H') := by subst h; exact pt_truth ha he
theorem eqDK (hu : X.A.units + 64 < cLine) (h : X.K = K := by rfl) : OpR X (compareOp .Eq) (rEqD K) := by subst h; exact op_eqD hu
theorem neDK (hu : X.A.units + 64 < cLine) (h : X.K = K := by rfl) : OpR X (compareOp .NotEq) (rNeD K) := by subst h; exact op_neD hu
end
/-- over the signs of a text -/
theorem for_strs {x : Str} {g : TG} {tb : TS} {D : Ends} {σ : L2.St} {H : Hp} (Pv : Nat → L2.St → Hp → Prop) (h0 : Pv 0 σ H)
    (hs : ∀ i c σ H, x.cps.toList[i]? = some c → Pv i σ H → g (.str ⟨#[c]⟩) σ H fun σ2 H2 => tb { D with nx := Pv (i + 1), ct := Pv (i + 1), bk := D.nx } σ2 H2) (hd : ∀ σ H, Pv x.cps.toList.length σ H → D.nx σ H) :
    ∃ W : Nat → Nat → L2.St → Hp → Prop, (∃ m, W 0 m σ H) ∧ ∀ i m σ H, W i m σ H →
      ((Its x).stop i H ∧ D.nx σ H) ∨ ((Its x).go i H ∧ ∃ N : L2.St → Hp → Prop, (∀ σ' H', N σ' H' → ∃ m', m' < m ∧ W (i + 1) m' σ' H') ∧ ∀ v H', (Its x).yld i H v H' → g v σ H' fun σ2 H2 => tb { D with nx := N, ct := N, bk := D.nx } σ2 H2) := by
  have es : x.cps.toList.length = x.cps.size := by simp
  refine ⟨fun i m σ H => m = x.cps.size - i ∧ i ≤ x.cps.size ∧ Pv i σ H, ⟨x.cps.size, by simp, Nat.zero_le _, h0⟩, ?_⟩
  rintro i m σ H ⟨rfl, hi, p⟩
  by_cases hlt : i < x.cps.size
  · refine .inr ⟨hlt, Pv (i + 1), fun σ' H' p' => ⟨x.cps.size - (i + 1), by omega, rfl, hlt, p'⟩, fun v H' y => ?_⟩
    obtain ⟨e, c, hc, rfl⟩ := y
    subst e
    exact hs i c σ _ (by rw [Array.getElem?_toList]; exact hc) p
  · have e : i = x.cps.size := by omega
    subst e
    exact .inl ⟨Nat.le_refl _, hd σ H (by rw [es]; exact p)⟩
theorem joinL0 : ∀ ps : List (List Nat), TL.joinL [] ps = ps.flatten
  | [] => rfl
  | [p] => by
    show p = p ++ []
    rw [List.append_nil]
  | p :: q :: r => by
    show p ++ ([] ++ TL.joinL [] (q :: r)) = p ++ (q :: r).flatten
    rw [joinL0 (q :: r), List.nil_append]
theorem join0 (ys : List Str) : Txt.join ⟨#[]⟩ ys = ⟨((ys.map TL.tl).flatten).toArray⟩ := by
  refine TL.ext_tl ?_
  rw [TL.join_eq, TL.tl_join]
  show TL.joinL [] _ = _
  rw [joinL0]
theorem flat_len : ∀ ys : List Str, ((ys.map TL.tl).flatten).length = (ys.map (·.length)).sum
  | [] => rfl
  | y :: ys => by
    rw [List.map_cons, List.flatten_cons, List.length_append, flat_len ys, List.map_cons, List.sum_cons]
    show y.cps.toList.length + _ = _
    rw [Array.length_toList]
    rfl
theorem S_len' (l : List Nat) : (⟨l.toArray⟩ : Str).length = l.length := by simp [Str.length]
theorem cut_to (l : List Nat) {o : Nat} (h : o ≤ l.length) : cutS ⟨l.toArray⟩ none (some (o : Int)) = ⟨(l.take o).toArray⟩ := by
  unfold cutS
  rw [HT.sIx_none, HT.sIx_nat, S_len', Nat.sub_zero, Nat.min_eq_left h]
  show (⟨((l.drop 0).take o).toArray⟩ : Str) = _
  rw [List.drop_zero]
theorem str1 (c : Nat) (d : Nat) : decide (V.str ⟨#[c]⟩ = V.str ⟨#[d]⟩) = decide (c = d) := by
  by_cases h : c = d
  · subst h
    rw [decide_eq_true rfl, decide_eq_true rfl]
  · rw [decide_eq_false h, decide_eq_false]
    intro e
    have e1 := V.str.inj e
    have e2 := Array.toList_inj.mpr (Str.mk.inj e1)
    exact h (by simpa using e2)
def tx (l : List Nat) : V := .str ⟨l.toArray⟩
/-- a comprehension's scope within another scope -/
def relS (scope sc : Scope) : Scope := { scope with names := scope.names.map fun (n, k) => if (k == .free && sc.kind == .function && sc.names.lookup n == some .cell) then (n, .cell) else (n, k) }
theorem anyK {X : Cx} (K : PySem.W.Frag) (hc : X.calm = true) (h : X.K = K := by rfl) : CallR X (.builtin "any") (rAny K) := by subst h; exact cr_any hc
theorem pi_listK {X : Cx} (K : PySem.W.Frag) {l tg : Expr} {tl : TE} (hl : PE X l tl) (h : X.K = K := by rfl) : PI X tg l (iList K tl) := by subst h; exact pi_list hl
theorem pi_tupK {X : Cx} (K : PySem.W.Frag) {l tg : Expr} {tl : TE} (hl : PE X l tl) (h : X.K = K := by rfl) : PI X tg l (iTup K tl) := by subst h; exact pi_tup hl

structure Mg (mg : Str → Option Value) : Prop where
  abs : mg "abs" = none
  all : mg "all" = none
  bool : mg "bool" = none
  int : mg "int" = none
  isinstance : mg "isinstance" = none
  len : mg "len" = none
  list : mg "list" = none
  max : mg "max" = none
  min : mg "min" = none
  range : mg "range" = none
  sorted : mg "sorted" = none
  str : mg "str" = none
  sum : mg "sum" = none
  tuple : mg "tuple" = none
/-! ### the law's draws: a list of the script's copy, a place in it, what is left of a great number, a seed -/
def Dr (H : Hp) (d c : Addr) : Prop := c ≠ d ∧ ∃ (ns : List Int) (pos rest seed : Int), H d = some (.lst [.ref c, .int pos, .int rest, .int seed]) ∧ H c = some (.lst (ns.map V.int)) ∧ 0 ≤ pos ∧ 0 ≤ rest ∧ 0 ≤ seed ∧ seed < 2147483647
theorem Dr.ext {H H' : Hp} {d c : Addr} (h : Dr H d c) (e : Same H H') : Dr H' d c := by
  obtain ⟨n, ns, pos, rest, seed, h1, h2, r⟩ := h
  exact ⟨n, ns, pos, rest, seed, e _ _ h1, e _ _ h2, r⟩
theorem Dr.upd {H : Hp} {d c p : Addr} {o : HO} (h : Dr H d c) (n1 : p ≠ d) (n2 : p ≠ c) : Dr (upd H p o) d c := by
  obtain ⟨n, ns, pos, rest, seed, h1, h2, r⟩ := h
  exact ⟨n, ns, pos, rest, seed, by rw [upd_ne n1.symm]; exact h1, by rw [upd_ne n2.symm]; exact h2, r⟩
theorem Dr.nd {H : Hp} {d c p : Addr} (h : Dr H d c) (n : H p = none) : p ≠ d := by
  obtain ⟨_, ns, pos, rest, seed, h1, _⟩ := h
  exact (ne_of_none h1 n).symm
theorem Dr.nc {H : Hp} {d c p : Addr} (h : Dr H d c) (n : H p = none) : p ≠ c := by
  obtain ⟨_, ns, pos, rest, seed, _, h2, _⟩ := h
  exact (ne_of_none h2 n).symm
theorem Dr.lst {H : Hp} {d c : Addr} (h : Dr H d c) : ∃ zs, H d = some (.lst zs) := by
  obtain ⟨_, ns, pos, rest, seed, h1, _⟩ := h
  exact ⟨_, h1⟩
theorem Dr.lift {H H' : Hp} {d c d' c' : Addr} (_h : Dr H d c) (h' : Dr H' d' c') : Dr H' d' c' := h'
def sp_draw (K : PySem.W.Frag) : Sp := fun vs H Q _ => ∃ (a : Addr) (ns : List Int), vs = [.ref a] ∧ SqL K H a (ns.map V.int) ∧ ∀ H' d c, Same H H' → H d = none → Dr H' d c → Q (.ref d) H'
/-- a draw: some number below many -/
def sp_next : Sp := fun vs H Q _ => ∃ (d c : Addr) (many : Int), vs = [.ref d, .int many] ∧ Dr H d c ∧ 1 ≤ many ∧ many < 2 ^ 64 ∧ ∀ H' r, Fd d H H' → (∀ p, p ≠ d → H' p = H p) → Dr H' d c → 0 ≤ r → r < many → Q (.int r) H'
section
variable {P : Program} {w : World} {K : PySem.W.Frag} {mg : Str → Option Value} {base : Heap}
theorem ok_draw {f : Addr} {fd : FuncData} (F : Fun K "_law_draw" "_law_draw" s__law_draw f fd) (M : Mg mg) : FnOk P w K mg base CX0 1 f fd ["script"] (sp_draw K) := by
  refine F.ok sc__law_draw (fun vs H Q E h => ?_) (fun cdv A outer s H vs Q E hr h => ?_)
  · obtain ⟨a, ns, rfl, _⟩ := h
    rfl
  · obtain ⟨a, ns, rfl, hS, q⟩ := h
    refine ⟨_, (pss_one (ps_ret (pe_lst (pa_cons (pe_callTy (listK K) (by rfl) M.list (by decide +kernel) (pa_cons (pv 0) pa_nil)) (pa_cons pe_int (pa_cons pe_int (pa_cons pe_int pa_nil))))))), ?_⟩
    refine ⟨_, rfl, a, _, rfl, .inl hS, fun c nc => ?_⟩
    refine ⟨by show 4 ≤ sizeLine; decide, fun d nd => ?_⟩
    have hc : (upd H c (.lst (ns.map V.int))) c = some (.lst (ns.map V.int)) := upd_same
    have ncd : c ≠ d := ne_of_none hc nd
    have s1 := (same_upd nc (o := .lst (ns.map V.int))).trans (same_upd nd (o := .lst [.ref c, .int 0, .int 0, .int 17]))
    refine q _ d c s1 ((same_upd nc).free nd) ⟨ncd, ns, 0, 0, 17, upd_same, ?_, by decide, by decide, by decide, by decide⟩
    rw [upd_ne ncd]
    exact hc
theorem next_aux {H : Hp} {d c : Addr} {xs' : List V} {pos rest seed : Int} {ns : List Int} (hn : c ≠ d) (h2 : H c = some (.lst (ns.map V.int))) (hx : xs' = [.ref c, .int pos, .int rest, .int seed]) (h0 : 0 ≤ pos) (h1 : 0 ≤ rest) (h3 : 0 ≤ seed) (h4 : seed < 2147483647) : Dr (upd H d (.lst xs')) d c := by
  subst hx
  refine ⟨hn, ns, pos, rest, seed, upd_same, ?_, h0, h1, h3, h4⟩
  rw [upd_ne hn]
  exact h2
theorem ok_next {f : Addr} {fd : FuncData} (F : Fun K "_law_next" "_law_next" s__law_next f fd) (M : Mg mg) : FnOk P w K mg base CX0 1 f fd ["draw", "many"] sp_next := by
  refine F.ok sc__law_next (fun vs H Q E h => ?_) (fun cdv A outer s H vs Q E hr h => ?_)
  · obtain ⟨d, c, many, rfl, _⟩ := h
    rfl
  · obtain ⟨d, c, many, rfl, ⟨ncd, ns, pos, rest, seed, h1, h2, h0, h3, h4, h5⟩, hm1, hm2, q⟩ := h
    have hdv : ∀ x : Int, CDivW x many := fun x => wide_div (b := 64) (by omega) (by omega) (by decide) (by decide)
    have hcd : d ≠ c := ncd.symm
    have L0 : SqL K H d [.ref c, .int pos, .int rest, .int seed] := .of h1
    have at0 : ∀ (a b e g : V), atI [a, b, e, g] (0 : Int) = some a := fun a b e g => atI_nat (j := 0) rfl
    have at1 : ∀ (a b e g : V), atI [a, b, e, g] (1 : Int) = some b := fun a b e g => atI_nat (j := 1) rfl
    have at2 : ∀ (a b e g : V), atI [a, b, e, g] (2 : Int) = some e := fun a b e g => atI_nat (j := 2) rfl
    have at3 : ∀ (a b e g : V), atI [a, b, e, g] (3 : Int) = some g := fun a b e g => atI_nat (j := 3) rfl
    have fr : ∀ (H0 : Hp) (o : HO), (∀ p, p ≠ d → H0 p = H p) → (∀ p, p ≠ d → (upd H0 d o) p = H p) := fun H0 o e p n => by rw [upd_ne n]; exact e p n
    have fF : ∀ (H0 : Hp), (∀ p, p ≠ d → H0 p = H p) → Fd d H H0 := fun H0 e b o n h => by rw [e b n]; exact h
    -- the last row's value
    have last : ∀ (seed' : Int), 0 ≤ seed' → seed' < 2147483647 → ∀ H0 : Hp, (∀ p, p ≠ d → H0 p = H p) → (∃ pos rest, H0 d = some (.lst [.ref c, .int pos, .int rest, .int seed']) ∧ 0 ≤ pos ∧ 0 ≤ rest) → Q (.int ((seed' * 69621 % 2147483629 / 7) % many)) H0 := by
      intro seed' g0 g1 H0 e ⟨pos', rest', g2, g3, g4⟩
      exact q H0 _ (fF _ e) e ⟨ncd, ns, pos', rest', seed', g2, by rw [e c ncd]; exact h2, g3, g4, g0, g1⟩ (Int.emod_nonneg _ (by omega)) (Int.emod_lt_of_pos _ (by omega))
    refine ⟨_, (pss_cons (ps_if (pt_cmpR op_gt (pe_ix (ix_listK K) (pv 0) pe_int (fun _ _ => rfl)) pe_int (nomark _)) (pss_cons (ps_set (i := 2) sc__law_next.nd rfl (.inl rfl) (pe_op op_mod (pe_callTy call_int1 (by rfl) M.int (by decide +kernel) (pa_cons (pe_ix (ix_listK K) (pv 0) pe_int (fun _ _ => rfl)) pa_nil)) (pv 1)))
      (pss_cons (ps_asg (pe_op op_fdivW (pe_ix (ix_listK K) (pv 0) pe_int (fun _ _ => rfl)) (pv 1)) (pg_sub (pv 0) pe_int set_list))
      (pss_one (ps_ret (pv 2))))) pss_nil)
      (pss_cons (ps_if (pt_cmpR op_lt (pe_ix (ix_listK K) (pv 0) pe_int (fun _ _ => rfl)) (pe_callB (len_seqK K) (by rfl) M.len PySem.boot_len (pa_cons (pe_ix (ix_listK K) (pv 0) pe_int (fun _ _ => rfl)) pa_nil)) (nomark _)) (pss_cons (ps_set (i := 3) sc__law_next.nd rfl (.inl rfl) (pe_callB call_abs (by rfl) M.abs (by decide +kernel) (pa_cons (pe_ix (ix_listK K) (pe_ix (ix_listK K) (pv 0) pe_int (fun _ _ => rfl)) (pe_ix (ix_listK K) (pv 0) pe_int (fun _ _ => rfl)) (fun _ _ => rfl)) pa_nil)))
      (pss_cons (ps_asg (pe_op op_add (pe_ix (ix_listK K) (pv 0) pe_int (fun _ _ => rfl)) pe_int) (pg_sub (pv 0) pe_int set_list))
      (pss_cons (ps_if (pt_cmpR op_ge (pv 3) (pe_op op_pow pe_int pe_int) (nomark _)) (pss_cons (ps_asg (pe_op op_fdivW (pv 3) (pv 1)) (pg_sub (pv 0) pe_int set_list))
      (pss_one (ps_ret (pe_op op_mod (pe_callTy call_int1 (by rfl) M.int (by decide +kernel) (pa_cons (pv 3) pa_nil)) (pv 1))))) pss_nil)
      (pss_one (ps_asg (pe_op op_mod (pe_callTy call_int1 (by rfl) M.int (by decide +kernel) (pa_cons (pe_op op_add (pe_op op_add (pe_op op_mul (pe_ix (ix_listK K) (pv 0) pe_int (fun _ _ => rfl)) pe_int) (pv 3)) pe_int) pa_nil)) pe_int) (pg_sub (pv 0) pe_int set_list)))))) (pss_one (ps_asg (pe_op op_mod (pe_callTy call_int1 (by rfl) M.int (by decide +kernel) (pa_cons (pe_op op_add (pe_op op_mul (pe_ix (ix_listK K) (pv 0) pe_int (fun _ _ => rfl)) pe_int) pe_int) pa_nil)) pe_int) (pg_sub (pv 0) pe_int set_list))))
      (pss_one (ps_ret (pe_op op_mod (pe_op op_fdivW (pe_callTy call_int1 (by rfl) M.int (by decide +kernel) (pa_cons (pe_op op_mod (pe_op op_mul (pe_ix (ix_listK K) (pv 0) pe_int (fun _ _ => rfl)) pe_int) pe_int) pa_nil)) pe_int) (pv 1)))))), ?_⟩
    refine ⟨_, rfl, d, _, 2, .int rest, rfl, rfl, L0, at2 .., ?_⟩
    refine ⟨_, _, rfl, rfl, _, rfl, ite2 (fun e => ?_) (fun e => ?_)⟩
    · -- draw[2] > 0
      have hr0 : 0 < rest := of_decide_eq_true e
      refine ⟨_, rfl, d, _, 2, .int rest, rfl, rfl, L0, at2 .., .inl ⟨_, rfl, ?_⟩⟩
      refine ⟨_, rfl, _, _, rfl, rfl, by omega, ?_⟩
      refine ⟨_, rfl, d, _, 2, .int rest, rfl, rfl, L0, at2 .., ?_⟩
      refine ⟨_, rfl, _, _, rfl, rfl, hdv _, ?_⟩
      refine ⟨_, rfl, d, _, 2, 2, rfl, rfl, h1, rfl, ?_⟩
      refine ⟨_, rfl, ?_⟩
      have e1 := fr H (.lst ([.ref c, .int pos, .int rest, .int seed].set 2 (.int (rest / many)))) (fun _ _ => rfl)
      exact q _ _ (fF _ e1) e1 (next_aux ncd h2 rfl h0 (Int.ediv_nonneg h3 (by omega)) h4 h5) (Int.emod_nonneg _ (by omega)) (Int.emod_lt_of_pos _ (by omega))
    · refine ⟨_, rfl, d, _, 1, .int pos, rfl, rfl, L0, at1 .., ?_⟩
      refine ⟨_, rfl, d, _, 0, .ref c, rfl, rfl, L0, at0 .., ?_⟩
      refine ⟨c, _, rfl, .inl (.of h2), ?_⟩
      refine ⟨_, _, rfl, rfl, _, rfl, ite2 (fun e2 => ?_) (fun e2 => ?_)⟩
      · have hp : pos < ((ns.map V.int).length : Int) := of_decide_eq_true e2
        rw [List.length_map] at hp
        obtain ⟨i, rfl⟩ := Int.eq_ofNat_of_zero_le h0
        have hi : i < ns.length := by omega
        have hat : atI (ns.map V.int) ((i : Nat) : Int) = some (.int ns[i]) := atI_nat (by rw [List.getElem?_map, List.getElem?_eq_getElem hi]; rfl)
        -- cell = abs(..)
        refine ⟨_, rfl, d, _, 0, .ref c, rfl, rfl, L0, at0 .., ?_⟩
        refine ⟨_, rfl, d, _, 1, _, rfl, rfl, L0, at1 .., ?_⟩
        refine ⟨c, _, _, _, rfl, rfl, .of h2, hat, ?_⟩
        refine ⟨_, rfl, ?_⟩
        have hcell : (0 : Int) ≤ (if ns[i] < 0 then -ns[i] else ns[i]) := by split <;> omega
        generalize (if ns[i] < 0 then -ns[i] else ns[i]) = cell at hcell
        -- draw[1] = draw[1] + 1
        refine ⟨_, rfl, d, _, 1, _, rfl, rfl, L0, at1 .., ?_⟩
        refine ⟨_, _, rfl, rfl, ?_⟩
        refine ⟨_, rfl, d, _, 1, 1, rfl, rfl, h1, rfl, ?_⟩
        have hd1 : (upd H d (.lst ([.ref c, .int ((i : Nat) : Int), .int rest, .int seed].set 1 (.int ((i : Nat) + 1))))) d = some (.lst [.ref c, .int ((i : Nat) + 1), .int rest, .int seed]) := upd_same
        have e1 := fr H (.lst ([.ref c, .int ((i : Nat) : Int), .int rest, .int seed].set 1 (.int ((i : Nat) + 1)))) (fun _ _ => rfl)
        generalize upd H d (.lst ([.ref c, .int ((i : Nat) : Int), .int rest, .int seed].set 1 (.int ((i : Nat) + 1)))) = H1 at hd1 e1
        have h2' : H1 c = some (.lst (ns.map V.int)) := by rw [e1 c ncd]; exact h2
        -- cell >= 10 ** 18
        refine ⟨_, rfl, _, _, rfl, rfl, ⟨by decide, by decide, by decide⟩, ?_⟩
        refine ⟨_, _, rfl, rfl, _, rfl, ite2 (fun e3 => ?_) (fun e3 => ?_)⟩
        · refine ⟨_, rfl, _, rfl, _, _, rfl, rfl, hdv _, ?_⟩
          refine ⟨_, rfl, d, _, 2, 2, rfl, rfl, hd1, rfl, ?_⟩
          refine ⟨_, rfl, .inl ⟨_, rfl, ?_⟩⟩
          refine ⟨_, rfl, _, _, rfl, rfl, by omega, ?_⟩
          have e5 := fr H1 (.lst ([.ref c, .int ((i : Nat) + 1), .int rest, .int seed].set 2 (.int (cell / many)))) e1
          exact q _ _ (fF _ e5) e5 (next_aux ncd h2' rfl (by omega) (Int.ediv_nonneg hcell (by omega)) h4 h5) (Int.emod_nonneg _ (by omega)) (Int.emod_lt_of_pos _ (by omega))
        · -- draw[3] = ..
          refine ⟨_, rfl, d, _, 3, .int seed, rfl, rfl, .of hd1, at3 .., ?_⟩
          refine ⟨_, _, rfl, rfl, .inl ⟨by omega, by omega⟩, ?_⟩
          refine ⟨_, rfl, _, _, rfl, rfl, ?_⟩
          refine ⟨_, _, rfl, rfl, .inl ⟨_, rfl, ?_⟩⟩
          refine ⟨_, _, rfl, rfl, by show (0 : Int) < 2147483647; decide, ?_⟩
          refine ⟨_, rfl, d, _, 3, 3, rfl, rfl, hd1, rfl, ?_⟩
          have hs0 : 0 ≤ (seed * 48271 + cell + 11) % 2147483647 := Int.emod_nonneg _ (by decide)
          have hs1 : (seed * 48271 + cell + 11) % 2147483647 < 2147483647 := Int.emod_lt_of_pos _ (by decide)
          have e5 := fr H1 (.lst ([.ref c, .int ((i : Nat) + 1), .int rest, .int seed].set 3 (.int ((seed * 48271 + cell + 11) % 2147483647)))) e1
          have hd5 : (upd H1 d (.lst ([.ref c, .int ((i : Nat) + 1), .int rest, .int seed].set 3 (.int ((seed * 48271 + cell + 11) % 2147483647))))) d = some (.lst [.ref c, .int ((i : Nat) + 1), .int rest, .int ((seed * 48271 + cell + 11) % 2147483647)]) := upd_same
          dsimp only
          generalize (seed * 48271 + cell + 11) % 2147483647 = seed' at hs0 hs1 e5 hd5 ⊢
          refine ⟨_, rfl, d, _, 3, .int seed', rfl, rfl, .of hd5, at3 .., ?_⟩
          refine ⟨_, _, rfl, rfl, .inl ⟨by omega, by omega⟩, ?_⟩
          refine ⟨_, _, rfl, rfl, by show (0 : Int) < 2147483629; decide, .inl ⟨_, rfl, ?_⟩⟩
          refine ⟨_, _, rfl, rfl, ⟨by decide, by decide⟩, ?_⟩
          refine ⟨_, rfl, _, _, rfl, rfl, by omega, ?_⟩
          exact last seed' hs0 hs1 _ e5 ⟨_, _, hd5, by omega, h3⟩
      · -- draw[3] = ..
        refine ⟨_, rfl, d, _, 3, .int seed, rfl, rfl, L0, at3 .., ?_⟩
        refine ⟨_, _, rfl, rfl, .inl ⟨by omega, by omega⟩, ?_⟩
        refine ⟨_, _, rfl, rfl, .inl ⟨_, rfl, ?_⟩⟩
        refine ⟨_, _, rfl, rfl, by show (0 : Int) < 2147483647; decide, ?_⟩
        refine ⟨_, rfl, d, _, 3, 3, rfl, rfl, h1, rfl, ?_⟩
        have hs0 : 0 ≤ (seed * 48271 + 12345) % 2147483647 := Int.emod_nonneg _ (by decide)
        have hs1 : (seed * 48271 + 12345) % 2147483647 < 2147483647 := Int.emod_lt_of_pos _ (by decide)
        have e5 := fr H (.lst ([.ref c, .int pos, .int rest, .int seed].set 3 (.int ((seed * 48271 + 12345) % 2147483647)))) (fun _ _ => rfl)
        have hd5 : (upd H d (.lst ([.ref c, .int pos, .int rest, .int seed].set 3 (.int ((seed * 48271 + 12345) % 2147483647))))) d = some (.lst [.ref c, .int pos, .int rest, .int ((seed * 48271 + 12345) % 2147483647)]) := upd_same
        dsimp only
        generalize (seed * 48271 + 12345) % 2147483647 = seed' at hs0 hs1 e5 hd5 ⊢
        refine ⟨_, rfl, d, _, 3, .int seed', rfl, rfl, .of hd5, at3 .., ?_⟩
        refine ⟨_, _, rfl, rfl, .inl ⟨by omega, by omega⟩, ?_⟩
        refine ⟨_, _, rfl, rfl, by show (0 : Int) < 2147483629; decide, .inl ⟨_, rfl, ?_⟩⟩
        refine ⟨_, _, rfl, rfl, ⟨by decide, by decide⟩, ?_⟩
        refine ⟨_, rfl, _, _, rfl, rfl, by omega, ?_⟩
        exact last seed' hs0 hs1 _ e5 ⟨_, _, hd5, h0, h3⟩
end

/-! ### data in the heap -/
theorem SqT.ext {K : PySem.W.Frag} {H H' : Hp} {a : Addr} {xs : List V} (e : Same H H') (h : SqT K H a xs) : SqT K H' a xs := by
  rcases h with (h | ⟨o, h⟩) | h
  · exact .inl (.inl (e _ _ h))
  · exact .inl (.inr ⟨o, e _ _ h⟩)
  · exact .inr h
mutual
theorem Dp.ext {K : PySem.W.Frag} {H H' : Hp} (e : Same H H') : ∀ (d : PyData) (v : V), Dp K H v d → Dp K H' v d
  | .none, _, h => by cases h; exact .non
  | .bool b, _, h => by cases h; exact .bl b
  | .int i, _, h => by cases h; exact .int i
  | .str x, _, h => by cases h; exact .str x
  | .list ds, _, h => by
    cases h with
    | lst hs ha => exact .lst (e.seq hs) (DpAll.ext e ds _ ha)
  | .tuple ds, _, h => by
    cases h with
    | tup hs ha => exact .tup (SqT.ext e hs) (DpAll.ext e ds _ ha)
  | .dict _, _, h => by cases h
theorem DpAll.ext {K : PySem.W.Frag} {H H' : Hp} (e : Same H H') : ∀ (ds : List PyData) (vs : List V), DpAll K H vs ds → DpAll K H' vs ds
  | [], _, h => by cases h; exact .nil
  | d :: ds, _, h => by
    cases h with
    | cons h1 h2 => exact .cons (Dp.ext e d _ h1) (DpAll.ext e ds _ h2)
end
theorem DpAll.len {K : PySem.W.Frag} {H : Hp} : ∀ {ds : List PyData} {vs : List V}, DpAll K H vs ds → vs.length = ds.length
  | [], _, h => by cases h; rfl
  | d :: ds, _, h => by
    cases h with
    | cons h1 h2 => exact congrArg (· + 1) (DpAll.len h2)
theorem DpAll.get {K : PySem.W.Frag} {H : Hp} : ∀ {ds : List PyData} {vs : List V} {i : Nat} {d : PyData}, DpAll K H vs ds → ds[i]? = some d → ∃ v, vs[i]? = some v ∧ Dp K H v d
  | [], _, _, _, _, e => by simp at e
  | x :: ds, _, 0, d, h, e => by
    cases h with
    | cons h1 h2 =>
      have e1 : x = d := Option.some.inj e
      subst e1
      exact ⟨_, rfl, h1⟩
  | x :: ds, _, i + 1, d, h, e => by
    cases h with
    | cons h1 h2 =>
      obtain ⟨v, hv, hd⟩ := DpAll.get (i := i) h2 (by simpa using e)
      exact ⟨v, by simpa using hv, hd⟩
theorem tyL {K : PySem.W.Frag} {H : Hp} {a : Addr} {xs : List V} (h : SqL K H a xs) : TyX K H (.ref a) (.type "list") := by
  rcases h with (h | ⟨o, h⟩) | ⟨o, its, n, h, c, _⟩
  · exact .base (.lst h)
  · exact .base (.frz h)
  · exact .kList h c
theorem tyT {K : PySem.W.Frag} {H : Hp} {a : Addr} {xs : List V} (h : SqT K H a xs) : TyX K H (.ref a) (.type "tuple") := by
  rcases h with (h | ⟨o, h⟩) | ⟨o, its, n, h, c, _⟩
  · exact .base (.tup h)
  · exact .fTuple h
  · exact .kTuple h c
mutual
/-- no list within -/
def tupOnly : PyData → Bool
  | .list _ => false
  | .dict _ => false
  | .tuple ds => tupOnlys ds
  | _ => true
def tupOnlys : List PyData → Bool
  | [] => true
  | d :: ds => tupOnly d && tupOnlys ds
end
mutual
theorem Dp.away {K : PySem.W.Frag} {H : Hp} {D : Addr} {zs : List V} {o : HO} (hD : H D = some (.lst zs)) : ∀ (d : PyData) (v : V), tupOnly d = true → Dp K H v d → Dp K (upd H D o) v d
  | .none, _, _, h => by cases h; exact .non
  | .bool b, _, _, h => by cases h; exact .bl b
  | .int i, _, _, h => by cases h; exact .int i
  | .str x, _, _, h => by cases h; exact .str x
  | .list ds, _, e, _ => by unfold tupOnly at e; cases e
  | .tuple ds, _, e, h => by
    unfold tupOnly at e
    cases h with
    | @tup a _ _ hs ha =>
      refine .tup ?_ (DpAll.away hD ds _ e ha)
      rcases hs with (hs | ⟨o', hs⟩) | hs
      · exact .inl (.inl (by rw [upd_ne (ne_of hs hD (fun z => nomatch z))]; exact hs))
      · exact .inl (.inr ⟨o', by rw [upd_ne (ne_of hs hD (fun z => nomatch z))]; exact hs⟩)
      · exact .inr hs
  | .dict _, _, _, h => by cases h
theorem DpAll.away {K : PySem.W.Frag} {H : Hp} {D : Addr} {zs : List V} {o : HO} (hD : H D = some (.lst zs)) : ∀ (ds : List PyData) (vs : List V), tupOnlys ds = true → DpAll K H vs ds → DpAll K (upd H D o) vs ds
  | [], _, _, h => by cases h; exact .nil
  | d :: ds, _, e, h => by
    unfold tupOnlys at e
    rw [Bool.and_eq_true] at e
    cases h with
    | cons h1 h2 => exact .cons (Dp.away hD d _ e.1 h1) (DpAll.away hD ds _ e.2 h2)
end
theorem DpAll.snoc {K : PySem.W.Frag} {H : Hp} : ∀ {ds : List PyData} {xs : List V} {v : V} {d : PyData}, DpAll K H xs ds → Dp K H v d → DpAll K H (xs ++ [v]) (ds ++ [d])
  | [], _, _, _, h, h2 => by cases h; exact .cons h2 .nil
  | _ :: ds, _, _, _, h, h2 => by
    cases h with
    | cons a b => exact .cons a (DpAll.snoc b h2)
theorem at_0 {α : Type} {xs : List α} {i : Nat} {v : α} (h : xs[i]? = some v) : atI xs (0 + (i : Int)) = some v := by
  rw [Int.zero_add]
  exact atI_nat h
mutual
/-- what is made of tuples stands when another list is changed -/
theorem Dp.fd {K : PySem.W.Frag} {H H' : Hp} {D : Addr} (hD : ∃ zs, H D = some (.lst zs)) (e : Fd D H H') : ∀ (d : PyData) (v : V), tupOnly d = true → Dp K H v d → Dp K H' v d
  | .none, _, _, h => by cases h; exact .non
  | .bool b, _, _, h => by cases h; exact .bl b
  | .int i, _, _, h => by cases h; exact .int i
  | .str x, _, _, h => by cases h; exact .str x
  | .list ds, _, e, _ => by unfold tupOnly at e; cases e
  | .tuple ds, _, e', h => by
    unfold tupOnly at e'
    obtain ⟨zs, hz⟩ := hD
    cases h with
    | @tup a _ _ hs ha =>
      refine .tup ?_ (DpAll.fd ⟨zs, hz⟩ e ds _ e' ha)
      rcases hs with (hs | ⟨o', hs⟩) | hs
      · exact .inl (.inl (e _ _ (ne_of hs hz (fun z => nomatch z)) hs))
      · exact .inl (.inr ⟨o', e _ _ (ne_of hs hz (fun z => nomatch z)) hs⟩)
      · exact .inr hs
  | .dict _, _, _, h => by cases h
theorem DpAll.fd {K : PySem.W.Frag} {H H' : Hp} {D : Addr} (hD : ∃ zs, H D = some (.lst zs)) (e : Fd D H H') : ∀ (ds : List PyData) (vs : List V), tupOnlys ds = true → DpAll K H vs ds → DpAll K H' vs ds
  | [], _, _, h => by cases h; exact .nil
  | d :: ds, _, e', h => by
    unfold tupOnlys at e'
    rw [Bool.and_eq_true] at e'
    cases h with
    | cons h1 h2 => exact .cons (Dp.fd hD e d _ e'.1 h1) (DpAll.fd hD e ds _ e'.2 h2)
end

/-! ### t < u of tuples whose first different place alone can be compared -/
section
open PySem.SeqAt AutoSeq1 MeetsSeq MeetsSeq2 MeetsSeq3 SeqRoads2
/-- what the first different place says; fin where there is none -/
def fstLt (e r : Nat → Bool) (fin : Bool) (n : Nat) : Bool := SeqAt.firstLt e r fin (List.range n)
theorem ltFirst (p q : Addr) (xs ys : Array Value) (n1 n2 : Nat) (d1 d2 : Option Addr) (z1 z2 : Array (Option Value)) (e r : Nat → Bool) :
    Meets (Builtin.«tuple.__lt__» ⟨[.ref p, .ref q], []⟩) (fun A R s =>
      s.heap.get? p = some { cls := .type "tuple", dict := d1, data := .seq xs n1, slots := z1 } ∧
      s.heap.get? q = some { cls := .type "tuple", dict := d2, data := .seq ys n2, slots := z2 } ∧
      (∀ j (a : j < xs.size) (b : j < ys.size), (∀ i < j, e i = true) → EqAt A.in1 s xs[j] ys[j] (e j)) ∧
      (∀ j (a : j < xs.size) (b : j < ys.size), (∀ i < j, e i = true) → e j = false → RcLt A.in1 s xs[j] ys[j] (r j)) ∧
      R (.ok (.ret (.bool (fstLt e r (decide (xs.size < ys.size)) (min xs.size ys.size))))) s) :=
  .of_wp fun prog w A R s h => by
    obtain ⟨h0, g, d, tk, os⟩ := s
    obtain ⟨hp, hq, he, hr, h⟩ := h
    have sub := AutoSeq1.sub_tuple_tuple
    have len : (xs.toList.zip ys.toList).length = min xs.size ys.size := by simp
    unfold fstLt at h
    wp_walk using wpAny_loadPart' hp, wpAny_loadPart' hq,
      wpAny_forIn_list _ (fun rest b s' => b.1 = none ∧ s' = ⟨h0, g, d, tk, os⟩ ∧ ∃ i, rest = (xs.toList.zip ys.toList).drop i ∧ (∀ k < i, e k = true) ∧
        R (.ok (.ret (.bool (firstLt e r (decide (xs.size < ys.size)) ((List.range (min xs.size ys.size)).drop i))))) ⟨h0, g, d, tk, os⟩) _
    case turn =>
      rintro ⟨y, x⟩ rest b s' ⟨eb, rfl, i, ez, ei, hR⟩
      have lt : i < (xs.toList.zip ys.toList).length := by
        refine Nat.lt_of_not_le fun z => ?_
        rw [List.drop_of_length_le z] at ez
        cases ez
      have lm : i < min xs.size ys.size := len ▸ lt
      have l1 : i < xs.size := by omega
      have l2 : i < ys.size := by omega
      rw [List.drop_eq_getElem_cons lt] at ez
      injection ez with e1 e2
      have ey : y = xs[i] := by simpa using congrArg Prod.fst e1
      have ex : x = ys[i] := by simpa using congrArg Prod.snd e1
      subst ey ex
      have er : (List.range (min xs.size ys.size)).drop i = i :: (List.range (min xs.size ys.size)).drop (i + 1) := by
        rw [List.drop_eq_getElem_cons (by simpa using lm)]
        simp
      rw [er] at hR
      have hq : e i = false → ∀ (E : Value → Shared → Prop) (Q : Value → Shared → Prop), Q (.bool (r i)) ⟨h0, g, d, tk, os⟩ → wpAny (model prog w) A.in1 (PySem.richCompare .Lt xs[i] ys[i]) Q E ⟨h0, g, d, tk, os⟩ := fun ee E Q z => hr i l1 l2 ei ee prog w E Q z
      have hb : ∀ (E : Value → Shared → Prop) (Q : Bool → Shared → Prop), Q (e i) ⟨h0, g, d, tk, os⟩ → wpAny (model prog w) A.in1 (PySem.eqBool xs[i] ys[i]) Q E ⟨h0, g, d, tk, os⟩ := fun E Q z => he i l1 l2 ei prog w E Q z
      refine wpAny_bind (hb _ _ ?_)
      cases ee : e i with
      | true =>
        rw [firstLt_yes ee] at hR
        wp_walk
        refine ⟨rfl, rfl, i + 1, e2, fun k hk => ?_, hR⟩
        by_cases z : k = i
        · exact z ▸ ee
        · exact ei k (by omega)
      | false =>
        rw [firstLt_no ee] at hR
        generalize PySem.richCompare .Lt xs[i] ys[i] = less at hq ⊢
        wp_walk
        refine hq ee _ _ ?_
        wp_walk
        exact ⟨_, rfl, hR⟩
    case fin =>
      rintro ⟨b1, b2⟩ s' ⟨eb, rfl, i, ez, ei, hR⟩
      simp only at eb
      subst eb
      have ge : min xs.size ys.size ≤ i := by
        refine Nat.le_of_not_lt fun z => ?_
        rw [List.drop_eq_getElem_cons (by rw [len]; exact z)] at ez
        cases ez
      rw [List.drop_of_length_le (by simpa using ge)] at hR
      wp_walk
      exact ⟨_, rfl, by simpa [Builtin.Tuple.tupleCompareSizes, firstLt] using hR⟩
    case h => exact ⟨rfl, rfl, 0, rfl, (fun k hk => absurd hk (Nat.not_lt_zero k)), by simpa using h⟩
theorem rcLt_first {A : Around} {s : Shared} {p q : Addr} {xs ys : Array Value} {e r : Nat → Bool} (hp : s.heap.IsTuple p xs) (hq : s.heap.IsTuple q ys) (hu : A.units < cLine)
    (he : ∀ j (a : j < xs.size) (b : j < ys.size), (∀ i < j, e i = true) → EqAt A.in1 s xs[j] ys[j] (e j)) (hr : ∀ j (a : j < xs.size) (b : j < ys.size), (∀ i < j, e i = true) → e j = false → RcLt A.in1 s xs[j] ys[j] (r j)) :
    RcLt A s (.ref p) (.ref q) (fstLt e r (decide (xs.size < ys.size)) (min xs.size ys.size)) := fun prog w E Q h => by
  obtain ⟨⟨c1, d1, t1, z1⟩, o1, k1, n1, m1⟩ := id hp
  obtain ⟨⟨c2, d2, t2, z2⟩, o2, k2, n2, m2⟩ := id hq
  simp only at k1 m1 k2 m2
  subst k1 m1 k2 m2
  exact richCompare_meets_room (op := .Lt) ⟨_, o1, rfl⟩ ⟨_, o2, rfl⟩ F.slot_tuple_lt F.entry_tuple_lt (F.args_tuple_lt_2 _ _) (ltFirst p q xs ys n1 n2 d1 d2 z1 z2 e r)
    ⟨o1, o2, he, hr, show Value.bool (fstLt e r (decide (xs.size < ys.size)) (min xs.size ys.size)) ≠ Value.notImplemented ∧ Q (.bool (fstLt e r (decide (xs.size < ys.size)) (min xs.size ys.size))) s from ⟨(fun z => nomatch z), h⟩⟩ hu
end
/-! the order of data, and where it may be asked -/
mutual
def ltD : PyData → PyData → Bool
  | .int a, .int b => decide (a < b)
  | .str a, .str b => decide (a.cps.toList < b.cps.toList)
  | .tuple xs, .tuple ys => ltDs xs ys
  | .list xs, .list ys => PySem.W.dataLt (.list xs) (.list ys)
  | _, _ => false
def ltDs : List PyData → List PyData → Bool
  | [], [] => false
  | [], _ :: _ => true
  | _ :: _, [] => false
  | x :: xs, y :: ys => if PyData.eqv x y = true then ltDs xs ys else ltD x y
end
mutual
def okD : PyData → PyData → Bool
  | .int _, .int _ => true
  | .str _, .str _ => true
  | .tuple xs, .tuple ys => okDs xs ys
  | .list xs, .list ys => PySem.W.alike (.list xs) (.list ys)
  | _, _ => false
def okDs : List PyData → List PyData → Bool
  | x :: xs, y :: ys => if PyData.eqv x y = true then okDs xs ys else okD x y
  | [], _ => true
  | _ :: _, [] => true
end
theorem fst_all (f : Nat → Nat → Bool) (e r e' r' : Nat → Bool) (fin : Bool) : ∀ l : List Nat, (∀ j, e (j + 1) = e' j) → (∀ j, r (j + 1) = r' j) → SeqAt.firstLt e r fin (l.map (· + 1)) = SeqAt.firstLt e' r' fin l
  | [], _, _ => rfl
  | j :: l, he, hr => by
    rw [List.map_cons]
    unfold SeqAt.firstLt
    rw [he, hr, fst_all f e r e' r' fin l he hr]
theorem fst_cons (e r : Nat → Bool) (fin : Bool) (n : Nat) : fstLt e r fin (n + 1) = if e 0 = true then fstLt (fun j => e (j + 1)) (fun j => r (j + 1)) fin n else r 0 := by
  unfold fstLt
  rw [List.range_succ_eq_map]
  show (if e 0 = true then SeqAt.firstLt e r fin ((List.range n).map Nat.succ) else r 0) = _
  rw [show (List.range n).map Nat.succ = (List.range n).map (· + 1) from rfl, fst_all (fun _ _ => true) e r (fun j => e (j + 1)) (fun j => r (j + 1)) fin _ (fun _ => rfl) (fun _ => rfl)]
/-- what the places of two lists say -/
def eqP (xs ys : List PyData) (j : Nat) : Bool := PyData.eqv (xs.getD j .none) (ys.getD j .none)
def ltP (xs ys : List PyData) (j : Nat) : Bool := ltD (xs.getD j .none) (ys.getD j .none)
theorem ltDs_first : ∀ xs ys : List PyData, ltDs xs ys = fstLt (eqP xs ys) (ltP xs ys) (decide (xs.length < ys.length)) (min xs.length ys.length)
  | [], [] => by unfold ltDs; rfl
  | [], y :: ys => by
    unfold ltDs
    rw [List.length_nil, Nat.zero_min]
    rfl
  | x :: xs, [] => by
    unfold ltDs
    rw [List.length_nil, Nat.min_zero]
    rfl
  | x :: xs, y :: ys => by
    unfold ltDs
    rw [List.length_cons, List.length_cons, Nat.succ_min_succ, fst_cons, ltDs_first xs ys]
    have e : decide (xs.length + 1 < ys.length + 1) = decide (xs.length < ys.length) := by
      rw [decide_eq_decide]
      omega
    rw [e]
    rfl
theorem okDs_at : ∀ (xs ys : List PyData) (j : Nat), okDs xs ys = true → j < xs.length → j < ys.length → (∀ i < j, eqP xs ys i = true) → eqP xs ys j = false → okD (xs.getD j .none) (ys.getD j .none) = true
  | [], _, j, _, h, _, _, _ => absurd h (Nat.not_lt_zero _)
  | _ :: _, [], j, _, _, h, _, _ => absurd h (Nat.not_lt_zero _)
  | x :: xs, y :: ys, 0, h, _, _, _, e => by
    have e' : PyData.eqv x y = false := e
    unfold okDs at h
    rw [e', if_neg Bool.false_ne_true] at h
    exact h
  | x :: xs, y :: ys, j + 1, h, h1, h2, ei, e => by
    have e0 : PyData.eqv x y = true := ei 0 (Nat.succ_pos j)
    unfold okDs at h
    rw [if_pos e0] at h
    exact okDs_at xs ys j h (Nat.lt_of_succ_lt_succ h1) (Nat.lt_of_succ_lt_succ h2) (fun i hi => ei (i + 1) (Nat.succ_lt_succ hi)) e
theorem pairEq_eqP : ∀ (xs ys : List PyData) (j : Nat), SeqAt.pairEq xs ys j = eqP xs ys j := fun xs ys j => rfl
section
open PySem.SeqAt
mutual
theorem rcLt_D : ∀ (x y : PyData) (A : Around) (s : Shared) (u v : Value) (as bs : List Addr), Reads s.heap u x as → Reads s.heap v y bs → x.canLay0 = true → y.canLay0 = true → okD x y = true → A.units + min x.depth y.depth < cLine → RcLt A s u v (ltD x y)
  | .none, _, _, _, _, _, _, _, _, _, _, _, h, _ => by unfold okD at h; cases h
  | .bool _, _, _, _, _, _, _, _, _, _, _, _, h, _ => by unfold okD at h; cases h
  | .list xs, y, A, s, u, v, as, bs, ra, rb, _, _, h, hu => by
    cases y with
    | list ys =>
      have ho : PySem.W.alike (.list xs) (.list ys) = true := by unfold okD at h; exact h
      have e : ltD (.list xs) (.list ys) = PySem.W.dataLt (.list xs) (.list ys) := by unfold ltD; rfl
      rw [e]
      exact PySem.W.rcLt_alike _ _ A s u v as bs ra rb ho (fun z => nomatch z) hu
    | _ => unfold okD at h; cases h
  | .dict _, _, _, _, _, _, _, _, _, _, _, _, h, _ => by unfold okD at h; cases h
  | .int a, y, A, s, u, v, as, bs, ra, rb, _, _, h, _ => by
    cases y with
    | int b =>
      cases ra
      cases rb
      intro prog w E Q hq
      exact P.lt_int (by unfold ltD at hq; exact hq)
    | _ => unfold okD at h; cases h
  | .str a, y, A, s, u, v, as, bs, ra, rb, _, _, h, _ => by
    cases y with
    | str b =>
      cases ra
      cases rb
      intro prog w E Q hq
      exact P.lt_str (by unfold ltD at hq; exact hq)
    | _ => unfold okD at h; cases h
  | .tuple xs, y, A, s, u, v, as, bs, ra, rb, ca, cb, h, hu => by
    cases y with
    | tuple ys =>
      have ho : okDs xs ys = true := by unfold okD at h; exact h
      have c1 : PyData.canLayAll0 xs = true := by simpa [PyData.canLay0] using ca
      have c2 : PyData.canLayAll0 ys = true := by simpa [PyData.canLay0] using cb
      cases ra with
      | @tuple p o vs n _ as1 a1 a2 a3 a4 =>
        cases rb with
        | @tuple q o' ws n' _ bs1 b1 b2 b3 b4 =>
          have l1 : vs.size = xs.length := by simpa using ReadsAll.length _ _ _ a4
          have l2 : ws.size = ys.length := by simpa using ReadsAll.length _ _ _ b4
          have e : ltD (.tuple xs) (.tuple ys) = ltDs xs ys := by unfold ltD; rfl
          rw [e, ltDs_first, ← l1, ← l2]
          refine rcLt_first ⟨_, a1, a2, _, a3⟩ ⟨_, b1, b2, _, b3⟩ (room_here hu) (fun j j1 j2 _ => ?_) (fun j j1 j2 hi hj => ?_)
          · have z : EqAt A.in1 s (vs.toList[j]'(by simpa using j1)) (ws.toList[j]'(by simpa using j2)) (eqP xs ys j) := eqAt_readsAll xs ys A.in1 s vs.toList ws.toList _ _ a4 b4 c1 c2 (room_in hu) j (by simpa using j1) (by simpa using j2)
            simpa using z
          · have := rcLt_Ds xs ys A.in1 s vs.toList ws.toList _ _ a4 b4 c1 c2 (room_in hu) j (by simpa using j1) (by simpa using j2) (okDs_at xs ys j ho (by omega) (by omega) hi hj)
            simpa using this
    | _ => unfold okD at h; cases h
theorem rcLt_Ds : ∀ (xs ys : List PyData) (A : Around) (s : Shared) (vs ws : List Value) (as bs : List Addr), ReadsAll s.heap vs xs as → ReadsAll s.heap ws ys bs → PyData.canLayAll0 xs = true → PyData.canLayAll0 ys = true →
    A.units + min (PyData.depthAll xs) (PyData.depthAll ys) < cLine → ∀ j (a : j < vs.length) (b : j < ws.length), okD (xs.getD j .none) (ys.getD j .none) = true → RcLt A s vs[j] ws[j] (ltP xs ys j)
  | [], _, _, _, _, _, _, _, ra, _, _, _, _, j, h, _, _ => by cases ra; exact absurd h (Nat.not_lt_zero _)
  | _ :: _, [], _, _, _, _, _, _, _, rb, _, _, _, j, _, h, _ => by cases rb; exact absurd h (Nat.not_lt_zero _)
  | x :: xs, y :: ys, A, s, _, _, _, _, ra, rb, ca, cb, hu, j, h1, h2, hk => by
    have c1 : x.canLay0 = true ∧ PyData.canLayAll0 xs = true := by simpa [PyData.canLayAll0] using ca
    have c2 : y.canLay0 = true ∧ PyData.canLayAll0 ys = true := by simpa [PyData.canLayAll0] using cb
    cases ra with
    | cons r rs =>
      cases rb with
      | cons r' rs' =>
        cases j with
        | zero => exact rcLt_D x y A s _ _ _ _ r r' c1.1 c2.1 hk (room_head hu)
        | succ j => exact rcLt_Ds xs ys A s _ _ _ _ rs rs' c1.2 c2.2 (room_tail hu) j (Nat.lt_of_succ_lt_succ h1) (Nat.lt_of_succ_lt_succ h2) hk
end
end
def rLtD (K : PySem.W.Frag) : R2 := fun x y H Q => ∃ d e, Dp K H x d ∧ Dp K H y e ∧ SeqAt.shaped d = true ∧ SeqAt.shaped e = true ∧ okD d e = true ∧ Q (.bl (ltD d e)) H
theorem ltDK {X : Cx} (K : PySem.W.Frag) (hu : X.A.units + 64 < cLine) (h : X.K = K := by rfl) : OpR X (compareOp .Lt) (rLtD K) := by
  subst h
  intro pins s σ H x y v u Q I rx ry h
  obtain ⟨d, e, hd, he, sd, se, ho, q⟩ := h
  obtain ⟨as, r1⟩ := Dp.reads I d x v hd rx
  obtain ⟨bs, r2⟩ := Dp.reads I e y u he ry
  have go := rcLt_D d e X.A s v u as bs r1 r2 (SeqAt.canLay_of_shaped sd) (SeqAt.canLay_of_shaped se) ho (SeqAt.room_of_shaped sd hu)
  exact go X.prog X.w X.xe _ ⟨.bl _, H, I, rfl, q⟩

/-! ### t > u of tuples whose first different place alone can be compared -/
section
open PySem.SeqAt AutoSeq1 MeetsSeq MeetsSeq2 MeetsSeq3 SeqRoads2
theorem gtFirst (p q : Addr) (xs ys : Array Value) (n1 n2 : Nat) (d1 d2 : Option Addr) (z1 z2 : Array (Option Value)) (e r : Nat → Bool) :
    Meets (Builtin.«tuple.__gt__» ⟨[.ref p, .ref q], []⟩) (fun A R s =>
      s.heap.get? p = some { cls := .type "tuple", dict := d1, data := .seq xs n1, slots := z1 } ∧
      s.heap.get? q = some { cls := .type "tuple", dict := d2, data := .seq ys n2, slots := z2 } ∧
      (∀ j (a : j < xs.size) (b : j < ys.size), (∀ i < j, e i = true) → EqAt A.in1 s xs[j] ys[j] (e j)) ∧
      (∀ j (a : j < xs.size) (b : j < ys.size), (∀ i < j, e i = true) → e j = false → RcOp .Gt A.in1 s xs[j] ys[j] (r j)) ∧
      R (.ok (.ret (.bool (fstLt e r (decide (ys.size < xs.size)) (min xs.size ys.size))))) s) :=
  .of_wp fun prog w A R s h => by
    obtain ⟨h0, g, d, tk, os⟩ := s
    obtain ⟨hp, hq, he, hr, h⟩ := h
    have sub := AutoSeq1.sub_tuple_tuple
    have len : (xs.toList.zip ys.toList).length = min xs.size ys.size := by simp
    unfold fstLt at h
    wp_walk using wpAny_loadPart' hp, wpAny_loadPart' hq,
      wpAny_forIn_list _ (fun rest b s' => b.1 = none ∧ s' = ⟨h0, g, d, tk, os⟩ ∧ ∃ i, rest = (xs.toList.zip ys.toList).drop i ∧ (∀ k < i, e k = true) ∧
        R (.ok (.ret (.bool (firstLt e r (decide (ys.size < xs.size)) ((List.range (min xs.size ys.size)).drop i))))) ⟨h0, g, d, tk, os⟩) _
    case turn =>
      rintro ⟨y, x⟩ rest b s' ⟨eb, rfl, i, ez, ei, hR⟩
      have lt : i < (xs.toList.zip ys.toList).length := by
        refine Nat.lt_of_not_le fun z => ?_
        rw [List.drop_of_length_le z] at ez
        cases ez
      have lm : i < min xs.size ys.size := len ▸ lt
      have l1 : i < xs.size := by omega
      have l2 : i < ys.size := by omega
      rw [List.drop_eq_getElem_cons lt] at ez
      injection ez with e1 e2
      have ey : y = xs[i] := by simpa using congrArg Prod.fst e1
      have ex : x = ys[i] := by simpa using congrArg Prod.snd e1
      subst ey ex
      have er : (List.range (min xs.size ys.size)).drop i = i :: (List.range (min xs.size ys.size)).drop (i + 1) := by
        rw [List.drop_eq_getElem_cons (by simpa using lm)]
        simp
      rw [er] at hR
      have hq : e i = false → ∀ (E : Value → Shared → Prop) (Q : Value → Shared → Prop), Q (.bool (r i)) ⟨h0, g, d, tk, os⟩ → wpAny (model prog w) A.in1 (PySem.richCompare .Gt xs[i] ys[i]) Q E ⟨h0, g, d, tk, os⟩ := fun ee E Q z => hr i l1 l2 ei ee prog w E Q z
      have hb : ∀ (E : Value → Shared → Prop) (Q : Bool → Shared → Prop), Q (e i) ⟨h0, g, d, tk, os⟩ → wpAny (model prog w) A.in1 (PySem.eqBool xs[i] ys[i]) Q E ⟨h0, g, d, tk, os⟩ := fun E Q z => he i l1 l2 ei prog w E Q z
      refine wpAny_bind (hb _ _ ?_)
      cases ee : e i with
      | true =>
        rw [firstLt_yes ee] at hR
        wp_walk
        refine ⟨rfl, rfl, i + 1, e2, fun k hk => ?_, hR⟩
        by_cases z : k = i
        · exact z ▸ ee
        · exact ei k (by omega)
      | false =>
        rw [firstLt_no ee] at hR
        generalize PySem.richCompare .Gt xs[i] ys[i] = less at hq ⊢
        wp_walk
        refine hq ee _ _ ?_
        wp_walk
        exact ⟨_, rfl, hR⟩
    case fin =>
      rintro ⟨b1, b2⟩ s' ⟨eb, rfl, i, ez, ei, hR⟩
      simp only at eb
      subst eb
      have ge : min xs.size ys.size ≤ i := by
        refine Nat.le_of_not_lt fun z => ?_
        rw [List.drop_eq_getElem_cons (by rw [len]; exact z)] at ez
        cases ez
      rw [List.drop_of_length_le (by simpa using ge)] at hR
      wp_walk
      exact ⟨_, rfl, by simpa [Builtin.Tuple.tupleCompareSizes, firstLt] using hR⟩
    case h => exact ⟨rfl, rfl, 0, rfl, (fun k hk => absurd hk (Nat.not_lt_zero k)), by simpa using h⟩
theorem rcGt_first {A : Around} {s : Shared} {p q : Addr} {xs ys : Array Value} {e r : Nat → Bool} (hp : s.heap.IsTuple p xs) (hq : s.heap.IsTuple q ys) (hu : A.units < cLine)
    (he : ∀ j (a : j < xs.size) (b : j < ys.size), (∀ i < j, e i = true) → EqAt A.in1 s xs[j] ys[j] (e j)) (hr : ∀ j (a : j < xs.size) (b : j < ys.size), (∀ i < j, e i = true) → e j = false → RcOp .Gt A.in1 s xs[j] ys[j] (r j)) :
    RcOp .Gt A s (.ref p) (.ref q) (fstLt e r (decide (ys.size < xs.size)) (min xs.size ys.size)) := fun prog w E Q h => by
  obtain ⟨⟨c1, d1, t1, z1⟩, o1, k1, n1, m1⟩ := id hp
  obtain ⟨⟨c2, d2, t2, z2⟩, o2, k2, n2, m2⟩ := id hq
  simp only at k1 m1 k2 m2
  subst k1 m1 k2 m2
  exact richCompare_meets_room (op := .Gt) ⟨_, o1, rfl⟩ ⟨_, o2, rfl⟩ F.slot_tuple_gt F.entry_tuple_gt (F.args_tuple_gt_2 _ _) (gtFirst p q xs ys n1 n2 d1 d2 z1 z2 e r)
    ⟨o1, o2, he, hr, show Value.bool (fstLt e r (decide (ys.size < xs.size)) (min xs.size ys.size)) ≠ Value.notImplemented ∧ Q (.bool (fstLt e r (decide (ys.size < xs.size)) (min xs.size ys.size))) s from ⟨(fun z => nomatch z), h⟩⟩ hu
end
mutual
def gtD : PyData → PyData → Bool
  | .int a, .int b => decide (b < a)
  | .str a, .str b => decide (b.cps.toList < a.cps.toList)
  | .tuple xs, .tuple ys => gtDs xs ys
  | .list xs, .list ys => PySem.W.dataLt (.list ys) (.list xs)
  | _, _ => false
def gtDs : List PyData → List PyData → Bool
  | [], [] => false
  | [], _ :: _ => false
  | _ :: _, [] => true
  | x :: xs, y :: ys => if PyData.eqv x y = true then gtDs xs ys else gtD x y
end
def gtP (xs ys : List PyData) (j : Nat) : Bool := gtD (xs.getD j .none) (ys.getD j .none)
theorem gtDs_first : ∀ xs ys : List PyData, gtDs xs ys = fstLt (eqP xs ys) (gtP xs ys) (decide (ys.length < xs.length)) (min xs.length ys.length)
  | [], [] => by unfold gtDs; rfl
  | [], y :: ys => by
    unfold gtDs
    rw [List.length_nil, Nat.zero_min]
    rfl
  | x :: xs, [] => by
    unfold gtDs
    rw [List.length_nil, Nat.min_zero]
    rfl
  | x :: xs, y :: ys => by
    unfold gtDs
    rw [List.length_cons, List.length_cons, Nat.succ_min_succ, fst_cons, gtDs_first xs ys]
    have e : decide (ys.length + 1 < xs.length + 1) = decide (ys.length < xs.length) := by
      rw [decide_eq_decide]
      omega
    rw [e]
    rfl
section
open PySem.SeqAt
mutual
theorem rcGt_D : ∀ (x y : PyData) (A : Around) (s : Shared) (u v : Value) (as bs : List Addr), Reads s.heap u x as → Reads s.heap v y bs → x.canLay0 = true → y.canLay0 = true → okD x y = true → A.units + min x.depth y.depth < cLine → RcOp .Gt A s u v (gtD x y)
  | .none, _, _, _, _, _, _, _, _, _, _, _, h, _ => by unfold okD at h; cases h
  | .bool _, _, _, _, _, _, _, _, _, _, _, _, h, _ => by unfold okD at h; cases h
  | .list xs, y, A, s, u, v, as, bs, ra, rb, _, _, h, hu => by
    cases y with
    | list ys =>
      have ho : PySem.W.alike (.list xs) (.list ys) = true := by unfold okD at h; exact h
      have e : gtD (.list xs) (.list ys) = PySem.W.dataLt (.list ys) (.list xs) := by unfold gtD; rfl
      rw [e]
      exact PySem.W.rcGt_alike _ _ A s u v as bs ra rb ho (fun z => nomatch z) hu
    | _ => unfold okD at h; cases h
  | .dict _, _, _, _, _, _, _, _, _, _, _, _, h, _ => by unfold okD at h; cases h
  | .int a, y, A, s, u, v, as, bs, ra, rb, _, _, h, _ => by
    cases y with
    | int b =>
      cases ra
      cases rb
      intro prog w E Q hq
      exact P.gt_int (by unfold gtD at hq; exact hq)
    | _ => unfold okD at h; cases h
  | .str a, y, A, s, u, v, as, bs, ra, rb, _, _, h, _ => by
    cases y with
    | str b =>
      cases ra
      cases rb
      intro prog w E Q hq
      exact P.gt_str (by unfold gtD at hq; exact hq)
    | _ => unfold okD at h; cases h
  | .tuple xs, y, A, s, u, v, as, bs, ra, rb, ca, cb, h, hu => by
    cases y with
    | tuple ys =>
      have ho : okDs xs ys = true := by unfold okD at h; exact h
      have c1 : PyData.canLayAll0 xs = true := by simpa [PyData.canLay0] using ca
      have c2 : PyData.canLayAll0 ys = true := by simpa [PyData.canLay0] using cb
      cases ra with
      | @tuple p o vs n _ as1 a1 a2 a3 a4 =>
        cases rb with
        | @tuple q o' ws n' _ bs1 b1 b2 b3 b4 =>
          have l1 : vs.size = xs.length := by simpa using ReadsAll.length _ _ _ a4
          have l2 : ws.size = ys.length := by simpa using ReadsAll.length _ _ _ b4
          have e : gtD (.tuple xs) (.tuple ys) = gtDs xs ys := by unfold gtD; rfl
          rw [e, gtDs_first, ← l1, ← l2]
          refine rcGt_first ⟨_, a1, a2, _, a3⟩ ⟨_, b1, b2, _, b3⟩ (room_here hu) (fun j j1 j2 _ => ?_) (fun j j1 j2 hi hj => ?_)
          · have z : EqAt A.in1 s (vs.toList[j]'(by simpa using j1)) (ws.toList[j]'(by simpa using j2)) (eqP xs ys j) := eqAt_readsAll xs ys A.in1 s vs.toList ws.toList _ _ a4 b4 c1 c2 (room_in hu) j (by simpa using j1) (by simpa using j2)
            simpa using z
          · have := rcGt_Ds xs ys A.in1 s vs.toList ws.toList _ _ a4 b4 c1 c2 (room_in hu) j (by simpa using j1) (by simpa using j2) (okDs_at xs ys j ho (by omega) (by omega) hi hj)
            simpa using this
    | _ => unfold okD at h; cases h
theorem rcGt_Ds : ∀ (xs ys : List PyData) (A : Around) (s : Shared) (vs ws : List Value) (as bs : List Addr), ReadsAll s.heap vs xs as → ReadsAll s.heap ws ys bs → PyData.canLayAll0 xs = true → PyData.canLayAll0 ys = true →
    A.units + min (PyData.depthAll xs) (PyData.depthAll ys) < cLine → ∀ j (a : j < vs.length) (b : j < ws.length), okD (xs.getD j .none) (ys.getD j .none) = true → RcOp .Gt A s vs[j] ws[j] (gtP xs ys j)
  | [], _, _, _, _, _, _, _, ra, _, _, _, _, j, h, _, _ => by cases ra; exact absurd h (Nat.not_lt_zero _)
  | _ :: _, [], _, _, _, _, _, _, _, rb, _, _, _, j, _, h, _ => by cases rb; exact absurd h (Nat.not_lt_zero _)
  | x :: xs, y :: ys, A, s, _, _, _, _, ra, rb, ca, cb, hu, j, h1, h2, hk => by
    have c1 : x.canLay0 = true ∧ PyData.canLayAll0 xs = true := by simpa [PyData.canLayAll0] using ca
    have c2 : y.canLay0 = true ∧ PyData.canLayAll0 ys = true := by simpa [PyData.canLayAll0] using cb
    cases ra with
    | cons r rs =>
      cases rb with
      | cons r' rs' =>
        cases j with
        | zero => exact rcGt_D x y A s _ _ _ _ r r' c1.1 c2.1 hk (room_head hu)
        | succ j => exact rcGt_Ds xs ys A s _ _ _ _ rs rs' c1.2 c2.2 (room_tail hu) j (Nat.lt_of_succ_lt_succ h1) (Nat.lt_of_succ_lt_succ h2) hk
end
end

/-! ### methods, defs that a name holds, instances -/
structure ClM (P : Program) (w : World) (K : PySem.W.Frag) (mg : Str → Option Value) (base : Heap) (k : Nat) (C : Addr) (m : Str) (sp : Sp) : Prop where
  ex : ∃ (f : Addr) (fd : FuncData) (ps : List Str), FnOk P w K mg base CX0 k f fd ps sp ∧ Meth K C m f ∧ Cls K C ∧ Binds K fd ps []
structure ClC (P : Program) (w : World) (K : PySem.W.Frag) (mg : Str → Option Value) (base : Heap) (k : Nat) (x : Str) (C : Addr) (sp : Sp) : Prop where
  ex : ∃ (f : Addr) (fd : FuncData) (ps : List Str), FnOk P w K mg base CX0 k f fd ps sp ∧ Mk K C f ∧ mg x = some (.ref C) ∧ Binds K fd ps []
theorem FnOk.clm {P : Program} {w : World} {K : PySem.W.Frag} {mg : Str → Option Value} {base : Heap} {k : Nat} {C : Addr} {m : Str} {f : Addr} {fd : FuncData} {ps : List Str} {sp : Sp} (h : FnOk P w K mg base CX0 k f fd ps sp) (mt : Meth K C m f) (cl : Cls K C) (b : Binds K fd ps []) : ClM P w K mg base k C m sp := ⟨f, fd, ps, h, mt, cl, b⟩
section
variable {X : Cx} {k j i : Nat} {m x : Str} {C : Addr} {sp : Sp} {p pos apos : Pos} {o e : Expr} {es : List Expr} {t : TA} {ta : TE}
theorem pe_mt {pl : Sem Bool} (c : ClM X.prog X.w X.K X.mg X.base k C m sp) (hr : Room j X.A) (hk : k ≤ j) (he : PE X o ta) (ha : PA X (e :: es) t) (hst : starEach (e :: es) X.env = (false, eval e X.env) :: starEach es X.env := by rfl) (hpl : (backTo pos (starEach es X.env)).any (·.1) = false := by rfl)
    (ht : eval (.Call (.Attribute o m apos) (e :: es) [] pos) X.env = (do let ov ← eval o X.env; standAt apos.atName; let (f, first) ← holding [ov] (getMethod ov m pl); callWith pos f first (backTo pos (starEach (e :: es) X.env)) (backToKw pos (keywordEach [] X.env))) := by rfl) : PE X (.Call (.Attribute o m apos) (e :: es) [] pos) (tMeth C m sp [] E0 ta t) := by
  obtain ⟨f, fd, ps, F, hm, cl, b⟩ := c.ex
  exact pe_meth he cl hm F (hr.mono hk) b .nil pass0 ha hst hpl ht
theorem pe_mt0 {pl : Sem Bool} (c : ClM X.prog X.w X.K X.mg X.base k C m sp) (hr : Room j X.A) (hk : k ≤ j) (he : PE X o ta)
    (ht : eval (.Call (.Attribute o m apos) [] [] pos) X.env = (do let ov ← eval o X.env; standAt apos.atName; let (f, first) ← holding [ov] (getMethod ov m pl); callWith pos f first (backTo pos (starEach [] X.env)) (backToKw pos (keywordEach [] X.env))) := by rfl) : PE X (.Call (.Attribute o m apos) [] [] pos) (tMeth C m sp [] E0 ta tNil) := by
  obtain ⟨f, fd, ps, F, hm, cl, b⟩ := c.ex
  exact pe_meth0 he cl hm F (hr.mono hk) b .nil pass0 ht
theorem pe_mk (c : ClC X.prog X.w X.K X.mg X.base k x C sp) (hr : Room j X.A) (hk : k + 1 ≤ j) (hg : L2.Gl X x) (ha : PA X (e :: es) t) (hdb : (x == ("__debug__" : Str)) = false := by decide) (he : starEach (e :: es) X.env = (false, eval e X.env) :: starEach es X.env := by rfl) (hpl : (backTo pos (starEach es X.env)).any (·.1) = false := by rfl) : PE X (.Call (.Name x p) (e :: es) [] pos) (tMake C sp [] E0 t) := by
  obtain ⟨f, fd, ps, F, M, hm, b⟩ := c.ex
  exact pe_make M F (hr.mono hk) hg hm b .nil pass0 ha hdb he hpl
theorem pe_mk0 (c : ClC X.prog X.w X.K X.mg X.base k x C sp) (hr : Room j X.A) (hk : k + 1 ≤ j) (hg : L2.Gl X x) (hdb : (x == ("__debug__" : Str)) = false := by decide) : PE X (.Call (.Name x p) [] [] pos) (tMake C sp [] E0 tNil) := by
  obtain ⟨f, fd, ps, F, M, hm, b⟩ := c.ex
  exact pe_make0 M F (hr.mono hk) hg hm b .nil pass0 hdb
end

theorem wne (a b : String) (h : (Str.ofString a == Str.ofString b) = false) : decide (V.str (Str.ofString a) = V.str (Str.ofString b)) = false := by
  refine decide_eq_false fun e => ?_
  rw [V.str.inj e] at h
  have : (Str.ofString b == Str.ofString b) = true := beq_self_eq_true _
  rw [this] at h
  cases h
theorem weq (a : Str) : decide (V.str a = V.str a) = true := decide_eq_true rfl
section
variable {K : PySem.W.Frag}
/-- a tuple's word and the rest -/
theorem dp_tup {H : Hp} {p : V} {ds : List PyData} (h : Dp K H p (.tuple ds)) : ∃ a xs, p = .ref a ∧ SqT K H a xs ∧ DpAll K H xs ds := by
  cases h with
  | tup hs ha => exact ⟨_, _, rfl, hs, ha⟩
theorem dp_two {H : Hp} {xs : List V} {s : Str} {d : PyData} (h : DpAll K H xs [.str s, d]) : ∃ v, xs = [.str s, v] ∧ Dp K H v d := by
  cases h with
  | cons h1 h2 =>
    cases h1
    cases h2 with
    | cons h3 h4 =>
      cases h4
      exact ⟨_, rfl, h3⟩
theorem dp_three {H : Hp} {xs : List V} {s : Str} {d e : PyData} (h : DpAll K H xs [.str s, d, e]) : ∃ v u, xs = [.str s, v, u] ∧ Dp K H v d ∧ Dp K H u e := by
  cases h with
  | cons h1 h2 =>
    cases h1
    cases h2 with
    | cons h3 h4 =>
      cases h4 with
      | cons h5 h6 =>
        cases h6
        exact ⟨_, _, rfl, h3, h5⟩
end

/-! ### values of plans -/
inductive Vl where
  | n
  | i (k : Int)
  | s (l : List Nat)
  deriving DecidableEq
def Vl.v : Vl → V
  | .n => .non
  | .i k => .int k
  | .s l => .str ⟨l.toArray⟩
/-- the value as data -/
def Vl.p : Vl → PyData
  | .n => .none
  | .i k => .int k
  | .s l => .str ⟨l.toArray⟩
/-- the key of a value -/
def Vl.d : Vl → PyData
  | .n => .tuple [.int 0]
  | .i k => .tuple [.int 1, .int k]
  | .s l => .tuple [.int 2, .str ⟨l.toArray⟩]
def BND : Int := 1000000000000000
def Vl.ok : Vl → Prop
  | .i k => -BND ≤ k ∧ k ≤ BND
  | .s l => l = [97] ∨ l = [98]
  | _ => True
def Vl.isI : Vl → Bool
  | .i _ => true
  | _ => false
def Vl.isS : Vl → Bool
  | .s _ => true
  | _ => false
def Vl.isN : Vl → Bool
  | .n => true
  | _ => false
def Vl.tn : Vl → String
  | .n => "NoneType"
  | .i _ => "int"
  | .s _ => "str"
theorem Vl.ty {K : PySem.W.Frag} {H : Hp} : ∀ v : Vl, TyX K H v.v (.type v.tn)
  | .n => .base .non
  | .i k => .base (.int k)
  | .s _ => .base (.str _)
theorem Vl.kI : ∀ v : Vl, kitB v.tn "int" = some v.isI
  | .n => by show kitB "NoneType" "int" = some false; decide +kernel
  | .i _ => by show kitB "int" "int" = some true; decide +kernel
  | .s _ => by show kitB "str" "int" = some false; decide +kernel
theorem Vl.kS : ∀ v : Vl, kitB v.tn "str" = some v.isS
  | .n => by show kitB "NoneType" "str" = some false; decide +kernel
  | .i _ => by show kitB "int" "str" = some false; decide +kernel
  | .s _ => by show kitB "str" "str" = some true; decide +kernel
theorem Vl.eN : ∀ v : Vl, decide (v.v = .non) = v.isN
  | .n => decide_eq_true rfl
  | .i _ => decide_eq_false (fun z => nomatch z)
  | .s _ => decide_eq_false (fun z => nomatch z)
theorem Vl.dp {K : PySem.W.Frag} {H : Hp} : ∀ v : Vl, Dp K H v.v v.p
  | .n => .non
  | .i k => .int k
  | .s _ => .str _
theorem Vl.of_isI {v : Vl} (h : v.isI = true) : ∃ k, v = .i k := by
  cases v with
  | i k => exact ⟨k, rfl⟩
  | n => cases h
  | s l => cases h
theorem Vl.of_isS {v : Vl} (h : v.isS = true) : ∃ l, v = .s l := by
  cases v with
  | s l => exact ⟨l, rfl⟩
  | n => cases h
  | i k => cases h
def bnd (k : Int) : Vl := if -BND ≤ k ∧ k ≤ BND then .i k else .n
theorem bnd_ok (k : Int) : (bnd k).ok := by
  unfold bnd
  by_cases h : -BND ≤ k ∧ k ≤ BND
  · rw [if_pos h]
    exact h
  · rw [if_neg h]
    trivial
def Vl.tr : Vl → Bool
  | .i k => !decide (k = 0)
  | _ => false
def Vl.fa : Vl → Bool
  | .i k => decide (k = 0)
  | _ => false
/-- what two integers give; nothing of others -/
def ar (g : Int → Int → Vl) : Vl → Vl → Vl
  | .i a, .i b => g a b
  | _, _ => .n
def bothI (v w : Vl) : Bool := v.isI && w.isI
theorem ar_no {g : Int → Int → Vl} : ∀ {v w : Vl}, bothI v w = false → ar g v w = .n
  | .i _, .i _, h => by cases h
  | .n, _, _ => rfl
  | .s _, _, _ => rfl
  | .i _, .n, _ => rfl
  | .i _, .s _, _ => rfl
theorem ints_of {v w : Vl} (h : bothI v w = true) : ∃ a b, v = .i a ∧ w = .i b := by
  unfold bothI at h
  rw [Bool.and_eq_true] at h
  obtain ⟨a, rfl⟩ := Vl.of_isI h.1
  obtain ⟨b, rfl⟩ := Vl.of_isI h.2
  exact ⟨a, b, rfl, rfl⟩
def bf : Vl → Vl → Bool
  | .n, .n => false
  | .n, _ => true
  | _, .n => false
  | .i a, .i b => decide (a < b)
  | .i _, .s _ => true
  | .s _, .i _ => false
  | .s l, .s m => decide (l < m)
def one (b : Bool) : Vl := .i (if b = true then 1 else 0)
def cm (g : Vl → Vl → Bool) (v w : Vl) : Vl := if v.isN = true then .n else if w.isN = true then .n else one (g v w)
def fAnd (v w : Vl) : Vl := if (v.fa || w.fa) = true then one false else if (v.tr && w.tr) = true then one true else .n
def fOr (v w : Vl) : Vl := if (v.tr || w.tr) = true then one true else if (v.fa && w.fa) = true then one false else .n
def fNot (v : Vl) : Vl := if v.fa = true then one true else if v.tr = true then one false else .n
def fNeg : Vl → Vl
  | .i k => bnd (-k)
  | _ => .n
def fLen : Vl → Vl
  | .s l => .i (l.length : Nat)
  | _ => .n
def fSta : Vl → Vl → Vl
  | .s l, .s m => one (m.isPrefixOf l)
  | _, _ => .n
def fDiv : Vl → Vl → Vl := ar fun a b => if b < 1 then .n else bnd (a / b)
def fRem : Vl → Vl → Vl := ar fun a b => if b < 1 then .n else bnd (a % b)
theorem one_ok (b : Bool) : (one b).ok := by
  cases b with
  | true => exact ⟨by decide, by decide⟩
  | false => exact ⟨by decide, by decide⟩
/-! ### the order of keys -/
theorem lt_tri (l m : List Nat) : (!decide (l < m) && !decide (m < l)) = decide (l = m) := by
  by_cases e : l = m
  · subst e
    simp [List.lt_irrefl]
  · rw [decide_eq_false e]
    by_cases h : l < m
    · rw [decide_eq_true h]
      rfl
    · rw [decide_eq_false h]
      have h2 : m < l := by
        have := List.not_lt.mp h
        exact (Std.lt_of_le_of_ne this (fun z => e z.symm))
      rw [decide_eq_true h2]
      rfl
theorem mk_inj {l m : List Nat} (h : (⟨l.toArray⟩ : Str) = ⟨m.toArray⟩) : l = m := by
  have e := Str.mk.inj h
  have e2 := congrArg Array.toList e
  simpa using e2
theorem S_dec (l m : List Nat) : ((⟨l.toArray⟩ : Str) == ⟨m.toArray⟩) = decide (l = m) := by
  by_cases h : l = m
  · subst h
    rw [decide_eq_true rfl]
    exact beq_self_eq_true _
  · rw [decide_eq_false h]
    exact beq_eq_false_iff_ne.mpr fun z => h (mk_inj z)
theorem eqv_d (v w : Vl) : PyData.eqv v.d w.d = decide (v = w) := by
  cases v <;> cases w <;> simp [Vl.d, PyData.eqv, PyData.eqvAll, S_dec]
  rw [Bool.eq_iff_iff]
  simp
theorem ok_d (v w : Vl) : okD v.d w.d = true := by
  cases v <;> cases w <;> simp [Vl.d, okD, okDs, PyData.eqv, PyData.eqvAll]
theorem lt_d (v w : Vl) : ltD v.d w.d = bf v w := by
  cases v <;> cases w <;> simp [Vl.d, ltD, ltDs, PyData.eqv, PyData.eqvAll, bf]
  · omega
  · exact fun h e => by subst e; exact List.lt_irrefl _ h
theorem strOk_ab {l : List Nat} (h : l = [97] ∨ l = [98]) : PyData.strOk ⟨l.toArray⟩ = true := by
  rcases h with rfl | rfl <;> decide +kernel
theorem key_shaped : ∀ v : Vl, v.ok → SeqAt.shaped v.d = true
  | .n, _ => rfl
  | .i k, _ => rfl
  | .s l, h => by
    unfold SeqAt.shaped
    rw [Bool.and_eq_true]
    refine ⟨?_, decide_eq_true (by show (PyData.depth (.tuple _)) ≤ _; simp [PyData.depth, PyData.depthAll])⟩
    simp [Vl.d, PyData.canLay0, PyData.canLayAll0, strOk_ab h]
/-! ### the promises -/
def sp_key (K : PySem.W.Frag) : Sp := fun vs H Q _ => ∃ v : Vl, vs = [v.v] ∧ ∀ H' p, Same H H' → Dp K H' (.ref p) v.d → Q (.ref p) H'
def sp_b1 (f : Vl → Bool) : Sp := fun vs H Q _ => ∃ v : Vl, vs = [v.v] ∧ Q (.bl (f v)) H
def sp_b2 (f : Vl → Vl → Bool) : Sp := fun vs H Q _ => ∃ v w : Vl, vs = [v.v, w.v] ∧ Q (.bl (f v w)) H
def sp_bnd : Sp := fun vs H Q _ => ∃ k : Int, vs = [.int k] ∧ Q (bnd k).v H
def sp_f1 (f : Vl → Vl) : Sp := fun vs H Q _ => ∃ v : Vl, vs = [v.v] ∧ v.ok ∧ Q (f v).v H
def sp_f2 (f : Vl → Vl → Vl) : Sp := fun vs H Q _ => ∃ v w : Vl, vs = [v.v, w.v] ∧ v.ok ∧ w.ok ∧ ∀ H', Same H H' → Q (f v w).v H'
def sp_f3 (f : Vl → Vl → Vl → Vl) : Sp := fun vs H Q _ => ∃ u v w : Vl, vs = [u.v, v.v, w.v] ∧ Q (f u v w).v H
section
variable {P : Program} {w : World} {K : PySem.W.Frag} {mg : Str → Option Value} {base : Heap}
theorem ok_key {f : Addr} {fd : FuncData} (F : Fun K "value_key" "value_key" s_value_key f fd) (M : Mg mg) : FnOk P w K mg base CX0 1 f fd ["value"] (sp_key K) := by
  refine F.ok sc_value_key (fun vs H Q E h => ?_) (fun cdv A outer s H vs Q E hr h => ?_)
  · obtain ⟨v, rfl, _⟩ := h
    rfl
  · obtain ⟨v, rfl, q⟩ := h
    refine ⟨_, (pss_cons (ps_if (pt_cmpR op_isN (pv 0) pe_non (nomark _)) (pss_one (ps_ret (pe_tup (pa_cons pe_int pa_nil)))) pss_nil)
      (pss_cons (ps_if (pt_val (pe_callB (isiK K) (by rfl) M.isinstance (by decide +kernel) (pa_cons (pv 0) (pa_cons (pe_bltn (v := .ty "int") (by rfl) M.int (by decide +kernel) rfl) pa_nil)))) (pss_one (ps_ret (pe_tup (pa_cons pe_int (pa_cons (pv 0) pa_nil))))) pss_nil)
      (pss_one (ps_ret (pe_tup (pa_cons pe_int (pa_cons (pv 0) pa_nil))))))), ?_⟩
    cases v with
    | n =>
      refine ⟨_, rfl, rfl, _, rfl, iteT ?_⟩
      exact ⟨by show 1 ≤ sizeLine; decide, fun p np => q _ p (same_upd np) (.tup (.of upd_same) (.cons (.int _) .nil))⟩
    | i k =>
      refine ⟨_, rfl, rfl, _, rfl, iteF ?_⟩
      refine ⟨_, rfl, _, _, _, _, _, rfl, .ty _, TyX.base (TyOf.int k), kit_ty (show kitB _ _ = some true by decide +kernel), _, rfl, iteT ?_⟩
      exact ⟨_, rfl, by show 2 ≤ sizeLine; decide, fun p np => q _ p (same_upd np) (.tup (.of upd_same) (.cons (.int _) (.cons (.int _) .nil)))⟩
    | s l =>
      refine ⟨_, rfl, rfl, _, rfl, iteF ?_⟩
      refine ⟨_, rfl, _, _, _, _, _, rfl, .ty _, TyX.base (TyOf.str _), kit_ty (show kitB _ _ = some false by decide +kernel), _, rfl, iteF ?_⟩
      exact ⟨_, rfl, by show 2 ≤ sizeLine; decide, fun p np => q _ p (same_upd np) (.tup (.of upd_same) (.cons (.int _) (.cons (.str _) .nil)))⟩
theorem int_eq0 (k : Int) : decide (V.int k = V.int 0) = decide (k = 0) := decide_eq_decide.mpr ⟨V.int.inj, fun z => by rw [z]⟩
theorem ok_istrue {f : Addr} {fd : FuncData} (F : Fun K "is_true" "is_true" s_is_true f fd) (M : Mg mg) : FnOk P w K mg base CX0 1 f fd ["value"] (sp_b1 Vl.tr) := by
  refine F.ok sc_is_true (fun vs H Q E h => ?_) (fun cdv A outer s H vs Q E hr h => ?_)
  · obtain ⟨v, rfl, _⟩ := h
    rfl
  · obtain ⟨v, rfl, q⟩ := h
    refine ⟨_, (pss_one (ps_ret (pe_and (pe_callB (isiK K) (by rfl) M.isinstance (by decide +kernel) (pa_cons (pv 0) (pa_cons (pe_bltn (v := .ty "int") (by rfl) M.int (by decide +kernel) rfl) pa_nil))) (pe_one (pe_cmpR op_ne (pv 0) pe_int (nomark _)))))), ?_⟩
    refine ⟨_, rfl, _, _, _, _, _, rfl, .ty _, v.ty, kit_ty v.kI, _, rfl, ?_⟩
    cases v with
    | n => exact iteF q
    | s l => exact iteF q
    | i k =>
      refine iteT ⟨_, rfl, rfl, ?_⟩
      show Q (V.bl (!decide (V.int k = V.int 0))) H
      rw [int_eq0]
      exact q
theorem ok_isfalse {f : Addr} {fd : FuncData} (F : Fun K "is_false" "is_false" s_is_false f fd) (M : Mg mg) : FnOk P w K mg base CX0 1 f fd ["value"] (sp_b1 Vl.fa) := by
  refine F.ok sc_is_false (fun vs H Q E h => ?_) (fun cdv A outer s H vs Q E hr h => ?_)
  · obtain ⟨v, rfl, _⟩ := h
    rfl
  · obtain ⟨v, rfl, q⟩ := h
    refine ⟨_, (pss_one (ps_ret (pe_and (pe_callB (isiK K) (by rfl) M.isinstance (by decide +kernel) (pa_cons (pv 0) (pa_cons (pe_bltn (v := .ty "int") (by rfl) M.int (by decide +kernel) rfl) pa_nil))) (pe_one (pe_cmpR op_eq (pv 0) pe_int (nomark _)))))), ?_⟩
    refine ⟨_, rfl, _, _, _, _, _, rfl, .ty _, v.ty, kit_ty v.kI, _, rfl, ?_⟩
    cases v with
    | n => exact iteF q
    | s l => exact iteF q
    | i k =>
      refine iteT ⟨_, rfl, rfl, ?_⟩
      show Q (V.bl (decide (V.int k = V.int 0))) H
      rw [int_eq0]
      exact q
theorem ok_areints {f : Addr} {fd : FuncData} (F : Fun K "are_integers" "are_integers" s_are_integers f fd) (M : Mg mg) : FnOk P w K mg base CX0 1 f fd ["first", "second"] (sp_b2 bothI) := by
  refine F.ok sc_are_integers (fun vs H Q E h => ?_) (fun cdv A outer s H vs Q E hr h => ?_)
  · obtain ⟨v, w, rfl, _⟩ := h
    rfl
  · obtain ⟨v, w, rfl, q⟩ := h
    have q : Q (.bl (v.isI && w.isI)) H := q
    refine ⟨_, (pss_one (ps_ret (pe_and (pe_callB (isiK K) (by rfl) M.isinstance (by decide +kernel) (pa_cons (pv 0) (pa_cons (pe_bltn (v := .ty "int") (by rfl) M.int (by decide +kernel) rfl) pa_nil))) (pe_one (pe_callB (isiK K) (by rfl) M.isinstance (by decide +kernel) (pa_cons (pv 1) (pa_cons (pe_bltn (v := .ty "int") (by rfl) M.int (by decide +kernel) rfl) pa_nil))))))), ?_⟩
    refine ⟨_, rfl, _, _, _, _, _, rfl, .ty _, v.ty, kit_ty v.kI, _, rfl, ?_⟩
    cases e : v.isI with
    | false =>
      rw [e] at q
      exact iteF q
    | true =>
      rw [e] at q
      exact iteT ⟨_, rfl, _, _, _, _, _, rfl, .ty _, w.ty, kit_ty w.kI, q⟩
structure Bd15 (K : PySem.W.Frag) (mg : Str → Option Value) : Prop where
  BOUND : ∃ u, mg "BOUND" = some u ∧ RelV (.int BND) u
theorem ok_bnd {f : Addr} {fd : FuncData} (F : Fun K "bounded" "bounded" s_bounded f fd) (M : Mg mg) (G : Bd15 K mg) : FnOk P w K mg base CX0 1 f fd ["number"] sp_bnd := by
  refine F.ok sc_bounded (fun vs H Q E h => ?_) (fun cdv A outer s H vs Q E hr h => ?_)
  · obtain ⟨k, rfl, _⟩ := h
    rfl
  · obtain ⟨k, rfl, q⟩ := h
    refine ⟨_, (pss_one (ps_ret (pe_ifExp (pt_chain op_le op_le (pe_un un_neg (C8.pe_gc (by rfl) G.BOUND)) (pv 0) (C8.pe_gc (by rfl) G.BOUND)) (pv 0) pe_non))), ?_⟩
    unfold bnd at q
    refine ⟨_, rfl, _, rfl, _, _, rfl, rfl, _, rfl, ?_⟩
    by_cases h1 : -BND ≤ k
    · rw [decide_eq_true h1]
      refine iteT ⟨_, _, rfl, rfl, _, rfl, ?_⟩
      by_cases h2 : k ≤ BND
      · rw [if_pos ⟨h1, h2⟩] at q
        rw [decide_eq_true h2]
        exact iteT ⟨_, rfl, q⟩
      · rw [if_neg (fun z => h2 z.2)] at q
        rw [decide_eq_false h2]
        exact iteF q
    · rw [if_neg (fun z => h1 z.1)] at q
      rw [decide_eq_false h1]
      exact iteF ⟨_, rfl, iteF q⟩
end

section
variable {P : Program} {w : World} {K : PySem.W.Frag} {mg : Str → Option Value} {base : Heap}
theorem bd_abs {k : Int} (h : -BND ≤ k ∧ k ≤ BND) : -(2 ^ 60 : Int) < k ∧ k < 2 ^ 60 := by
  unfold BND at h
  omega
theorem ok_neg {f : Addr} {fd : FuncData} (F : Fun K "negate" "negate" s_negate f fd) (M : Mg mg) (c_bounded : Cl P w K mg base 1 "bounded" sp_bnd) : FnOk P w K mg base CX0 2 f fd ["value"] (sp_f1 fNeg) := by
  refine F.ok sc_negate (fun vs H Q E h => ?_) (fun cdv A outer s H vs Q E hr h => ?_)
  · obtain ⟨v, rfl, _⟩ := h
    rfl
  · obtain ⟨v, rfl, hv, q⟩ := h
    refine ⟨_, (pss_one (ps_ret (pe_ifExp (pt_val (pe_callB (isiK K) (by rfl) M.isinstance (by decide +kernel) (pa_cons (pv 0) (pa_cons (pe_bltn (v := .ty "int") (by rfl) M.int (by decide +kernel) rfl) pa_nil)))) (pe_u c_bounded hr (by first | decide | omega) (by rfl) (pa_cons (pe_un un_neg (pv 0)) pa_nil)) pe_non))), ?_⟩
    refine ⟨_, rfl, _, _, _, _, _, rfl, .ty _, v.ty, kit_ty v.kI, _, rfl, ?_⟩
    cases v with
    | n => exact iteF q
    | s l => exact iteF q
    | i k => exact iteT ⟨_, rfl, k, rfl, -k, rfl, q⟩
theorem ok_add {f : Addr} {fd : FuncData} (F : Fun K "add" "add" s_add f fd) (M : Mg mg) (c_bounded : Cl P w K mg base 1 "bounded" sp_bnd) (c_are_integers : Cl P w K mg base 1 "are_integers" (sp_b2 bothI)) : FnOk P w K mg base CX0 2 f fd ["first", "second"] (sp_f2 (ar fun a b => bnd (a + b))) := by
  refine F.ok sc_add (fun vs H Q E h => ?_) (fun cdv A outer s H vs Q E hr h => ?_)
  · obtain ⟨v, w, rfl, _⟩ := h
    rfl
  · obtain ⟨v, w, rfl, hv, hw, q⟩ := h
    refine ⟨_, (pss_one (ps_ret (pe_ifExp (pt_val (pe_u c_are_integers hr (by first | decide | omega) (by rfl) (pa_cons (pv 0) (pa_cons (pv 1) pa_nil)))) (pe_u c_bounded hr (by first | decide | omega) (by rfl) (pa_cons (pe_op op_add (pv 0) (pv 1)) pa_nil)) pe_non))), ?_⟩
    refine ⟨_, rfl, _, rfl, v, w, rfl, _, rfl, ?_⟩
    cases e : bothI v w with
    | false =>
      rw [ar_no e] at q
      exact iteF (q H (.refl H))
    | true =>
      obtain ⟨a, b, rfl, rfl⟩ := ints_of e
      exact iteT ⟨_, rfl, _, rfl, _, _, rfl, rfl, _, rfl, q H (.refl H)⟩
theorem ok_sub {f : Addr} {fd : FuncData} (F : Fun K "subtract" "subtract" s_subtract f fd) (M : Mg mg) (c_bounded : Cl P w K mg base 1 "bounded" sp_bnd) (c_are_integers : Cl P w K mg base 1 "are_integers" (sp_b2 bothI)) : FnOk P w K mg base CX0 2 f fd ["first", "second"] (sp_f2 (ar fun a b => bnd (a - b))) := by
  refine F.ok sc_subtract (fun vs H Q E h => ?_) (fun cdv A outer s H vs Q E hr h => ?_)
  · obtain ⟨v, w, rfl, _⟩ := h
    rfl
  · obtain ⟨v, w, rfl, hv, hw, q⟩ := h
    refine ⟨_, (pss_one (ps_ret (pe_ifExp (pt_val (pe_u c_are_integers hr (by first | decide | omega) (by rfl) (pa_cons (pv 0) (pa_cons (pv 1) pa_nil)))) (pe_u c_bounded hr (by first | decide | omega) (by rfl) (pa_cons (pe_op op_sub (pv 0) (pv 1)) pa_nil)) pe_non))), ?_⟩
    refine ⟨_, rfl, _, rfl, v, w, rfl, _, rfl, ?_⟩
    cases e : bothI v w with
    | false =>
      rw [ar_no e] at q
      exact iteF (q H (.refl H))
    | true =>
      obtain ⟨a, b, rfl, rfl⟩ := ints_of e
      exact iteT ⟨_, rfl, _, rfl, _, _, rfl, rfl, _, rfl, q H (.refl H)⟩
theorem ok_mul {f : Addr} {fd : FuncData} (F : Fun K "multiply" "multiply" s_multiply f fd) (M : Mg mg) (c_bounded : Cl P w K mg base 1 "bounded" sp_bnd) (c_are_integers : Cl P w K mg base 1 "are_integers" (sp_b2 bothI)) : FnOk P w K mg base CX0 2 f fd ["first", "second"] (sp_f2 (ar fun a b => bnd (a * b))) := by
  refine F.ok sc_multiply (fun vs H Q E h => ?_) (fun cdv A outer s H vs Q E hr h => ?_)
  · obtain ⟨v, w, rfl, _⟩ := h
    rfl
  · obtain ⟨v, w, rfl, hv, hw, q⟩ := h
    refine ⟨_, (pss_one (ps_ret (pe_ifExp (pt_val (pe_u c_are_integers hr (by first | decide | omega) (by rfl) (pa_cons (pv 0) (pa_cons (pv 1) pa_nil)))) (pe_u c_bounded hr (by first | decide | omega) (by rfl) (pa_cons (pe_op op_mul (pv 0) (pv 1)) pa_nil)) pe_non))), ?_⟩
    refine ⟨_, rfl, _, rfl, v, w, rfl, _, rfl, ?_⟩
    cases e : bothI v w with
    | false =>
      rw [ar_no e] at q
      exact iteF (q H (.refl H))
    | true =>
      obtain ⟨a, b, rfl, rfl⟩ := ints_of e
      have := bd_abs hv
      exact iteT ⟨_, rfl, _, rfl, _, _, rfl, rfl, .inl ⟨by omega, by omega⟩, _, rfl, q H (.refl H)⟩
theorem ok_div {f : Addr} {fd : FuncData} (F : Fun K "divide" "divide" s_divide f fd) (M : Mg mg) (c_bounded : Cl P w K mg base 1 "bounded" sp_bnd) (c_are_integers : Cl P w K mg base 1 "are_integers" (sp_b2 bothI)) : FnOk P w K mg base CX0 2 f fd ["first", "second"] (sp_f2 fDiv) := by
  refine F.ok sc_divide (fun vs H Q E h => ?_) (fun cdv A outer s H vs Q E hr h => ?_)
  · obtain ⟨v, w, rfl, _⟩ := h
    rfl
  · obtain ⟨v, w, rfl, hv, hw, q⟩ := h
    have q := q H (.refl H)
    refine ⟨_, (pss_cons (ps_if (PW.pt (pw_or (pt_not (pt_val (pe_u c_are_integers hr (by first | decide | omega) (by rfl) (pa_cons (pv 0) (pa_cons (pv 1) pa_nil))))) (pw_or1 (pt_cmpR op_lt (pv 1) pe_int (nomark _))))) (pss_one (ps_ret pe_non)) pss_nil)
      (pss_one (ps_ret (pe_u c_bounded hr (by first | decide | omega) (by rfl) (pa_cons (pe_op op_fdivW (pv 0) (pv 1)) pa_nil))))), ?_⟩
    refine ⟨_, rfl, _, rfl, v, w, rfl, _, rfl, ?_⟩
    unfold fDiv at q
    cases e : bothI v w with
    | false =>
      rw [ar_no e] at q
      refine iteT ?_
      exact iteT q
    | true =>
      obtain ⟨a, b, rfl, rfl⟩ := ints_of e
      refine iteF ⟨_, rfl, _, _, rfl, rfl, _, rfl, ?_⟩
      have q : Q (if b < 1 then Vl.n else bnd (a / b)).v H := q
      by_cases h1 : b < 1
      · rw [if_pos h1] at q
        rw [decide_eq_true h1]
        exact iteT q
      · rw [if_neg h1] at q
        rw [decide_eq_false h1]
        have := bd_abs hw
        exact iteF ⟨_, rfl, _, rfl, _, _, rfl, rfl, wide_div (b := 60) (by omega) (by omega) (by decide) (by decide), _, rfl, q⟩
theorem ok_rem {f : Addr} {fd : FuncData} (F : Fun K "remainder" "remainder" s_remainder f fd) (M : Mg mg) (c_bounded : Cl P w K mg base 1 "bounded" sp_bnd) (c_are_integers : Cl P w K mg base 1 "are_integers" (sp_b2 bothI)) : FnOk P w K mg base CX0 2 f fd ["first", "second"] (sp_f2 fRem) := by
  refine F.ok sc_remainder (fun vs H Q E h => ?_) (fun cdv A outer s H vs Q E hr h => ?_)
  · obtain ⟨v, w, rfl, _⟩ := h
    rfl
  · obtain ⟨v, w, rfl, hv, hw, q⟩ := h
    have q := q H (.refl H)
    refine ⟨_, (pss_cons (ps_if (PW.pt (pw_or (pt_not (pt_val (pe_u c_are_integers hr (by first | decide | omega) (by rfl) (pa_cons (pv 0) (pa_cons (pv 1) pa_nil))))) (pw_or1 (pt_cmpR op_lt (pv 1) pe_int (nomark _))))) (pss_one (ps_ret pe_non)) pss_nil)
      (pss_one (ps_ret (pe_u c_bounded hr (by first | decide | omega) (by rfl) (pa_cons (pe_op op_mod (pv 0) (pv 1)) pa_nil))))), ?_⟩
    refine ⟨_, rfl, _, rfl, v, w, rfl, _, rfl, ?_⟩
    unfold fRem at q
    cases e : bothI v w with
    | false =>
      rw [ar_no e] at q
      refine iteT ?_
      exact iteT q
    | true =>
      obtain ⟨a, b, rfl, rfl⟩ := ints_of e
      refine iteF ⟨_, rfl, _, _, rfl, rfl, _, rfl, ?_⟩
      have q : Q (if b < 1 then Vl.n else bnd (a % b)).v H := q
      by_cases h1 : b < 1
      · rw [if_pos h1] at q
        rw [decide_eq_true h1]
        exact iteT q
      · rw [if_neg h1] at q
        rw [decide_eq_false h1]
        exact iteF ⟨_, rfl, _, rfl, _, _, rfl, rfl, by omega, _, rfl, q⟩
theorem ok_less {f : Addr} {fd : FuncData} (F : Fun K "less" "less" s_less f fd) (M : Mg mg) (c_value_key : Cl P w K mg base 1 "value_key" (sp_key K)) : FnOk P w K mg base CX0 2 f fd ["first", "second"] (sp_f2 (cm bf)) := by
  refine F.ok sc_less (fun vs H Q E h => ?_) (fun cdv A outer s H vs Q E hr h => ?_)
  · obtain ⟨v, w, rfl, _⟩ := h
    rfl
  · obtain ⟨v, w, rfl, hv, hw, q⟩ := h
    refine ⟨_, (pss_cons (ps_if (PW.pt (pw_or (pt_cmpR op_isN (pv 0) pe_non (nomark _)) (pw_or1 (pt_cmpR op_isN (pv 1) pe_non (nomark _))))) (pss_one (ps_ret pe_non)) pss_nil)
      (pss_one (ps_ret (pe_ifExp (pt_cmpR (ltDK K hr.units) (pe_u c_value_key hr (by first | decide | omega) (by rfl) (pa_cons (pv 0) pa_nil)) (pe_u c_value_key hr (by first | decide | omega) (by rfl) (pa_cons (pv 1) pa_nil)) (nomark _)) pe_int pe_int)))), ?_⟩
    unfold cm at q
    refine ⟨_, rfl, rfl, _, rfl, ?_⟩
    rw [v.eN]
    cases e1 : v.isN with
    | true =>
      rw [if_pos e1] at q
      exact iteT (iteT (q H (.refl H)))
    | false =>
      rw [if_neg (by rw [e1]; exact Bool.false_ne_true)] at q
      refine iteF ⟨_, rfl, rfl, _, rfl, ?_⟩
      rw [w.eN]
      cases e2 : w.isN with
      | true =>
        rw [if_pos e2] at q
        exact iteT (q H (.refl H))
      | false =>
        rw [if_neg (by rw [e2]; exact Bool.false_ne_true)] at q
        refine iteF ?_
        refine ⟨_, rfl, v, rfl, fun H1 p s1 d1 => ?_⟩
        refine ⟨_, rfl, w, rfl, fun H2 r s2 d2 => ?_⟩
        refine ⟨_, _, Dp.ext s2 _ _ d1, d2, key_shaped v hv, key_shaped w hw, ok_d v w, _, rfl, ?_⟩
        rw [lt_d]
        have q := q H2 (s1.trans s2)
        unfold one at q
        cases e : bf v w with
        | true =>
          rw [e] at q
          exact iteT q
        | false =>
          rw [e] at q
          exact iteF q
theorem ok_equal {f : Addr} {fd : FuncData} (F : Fun K "equal" "equal" s_equal f fd) (M : Mg mg) (c_value_key : Cl P w K mg base 1 "value_key" (sp_key K)) : FnOk P w K mg base CX0 2 f fd ["first", "second"] (sp_f2 (cm fun v w => decide (v = w))) := by
  refine F.ok sc_equal (fun vs H Q E h => ?_) (fun cdv A outer s H vs Q E hr h => ?_)
  · obtain ⟨v, w, rfl, _⟩ := h
    rfl
  · obtain ⟨v, w, rfl, hv, hw, q⟩ := h
    refine ⟨_, (pss_cons (ps_if (PW.pt (pw_or (pt_cmpR op_isN (pv 0) pe_non (nomark _)) (pw_or1 (pt_cmpR op_isN (pv 1) pe_non (nomark _))))) (pss_one (ps_ret pe_non)) pss_nil)
      (pss_one (ps_ret (pe_ifExp (pt_cmpR (eqDK K hr.units) (pe_u c_value_key hr (by first | decide | omega) (by rfl) (pa_cons (pv 0) pa_nil)) (pe_u c_value_key hr (by first | decide | omega) (by rfl) (pa_cons (pv 1) pa_nil)) (nomark _)) pe_int pe_int)))), ?_⟩
    unfold cm at q
    refine ⟨_, rfl, rfl, _, rfl, ?_⟩
    rw [v.eN]
    cases e1 : v.isN with
    | true =>
      rw [if_pos e1] at q
      exact iteT (iteT (q H (.refl H)))
    | false =>
      rw [if_neg (by rw [e1]; exact Bool.false_ne_true)] at q
      refine iteF ⟨_, rfl, rfl, _, rfl, ?_⟩
      rw [w.eN]
      cases e2 : w.isN with
      | true =>
        rw [if_pos e2] at q
        exact iteT (q H (.refl H))
      | false =>
        rw [if_neg (by rw [e2]; exact Bool.false_ne_true)] at q
        refine iteF ?_
        refine ⟨_, rfl, v, rfl, fun H1 p s1 d1 => ?_⟩
        refine ⟨_, rfl, w, rfl, fun H2 r s2 d2 => ?_⟩
        refine ⟨_, _, Dp.ext s2 _ _ d1, d2, key_shaped v hv, key_shaped w hw, _, rfl, ?_⟩
        rw [eqv_d]
        have q := q H2 (s1.trans s2)
        have q : Q (Vl.i (if decide (v = w) = true then 1 else 0)).v H2 := q
        by_cases e : v = w
        · rw [decide_eq_true e] at q ⊢
          exact iteT q
        · rw [decide_eq_false e] at q ⊢
          exact iteF q
theorem ok_conj {f : Addr} {fd : FuncData} (F : Fun K "conjunction" "conjunction" s_conjunction f fd) (M : Mg mg) (c_is_true : Cl P w K mg base 1 "is_true" (sp_b1 Vl.tr)) (c_is_false : Cl P w K mg base 1 "is_false" (sp_b1 Vl.fa)) : FnOk P w K mg base CX0 2 f fd ["first", "second"] (sp_f2 fAnd) := by
  refine F.ok sc_conjunction (fun vs H Q E h => ?_) (fun cdv A outer s H vs Q E hr h => ?_)
  · obtain ⟨v, w, rfl, _⟩ := h
    rfl
  · obtain ⟨v, w, rfl, hv, hw, q⟩ := h
    have q := q H (.refl H)
    unfold fAnd at q
    refine ⟨_, (pss_cons (ps_if (PW.pt (pw_or (pt_val (pe_u c_is_false hr (by first | decide | omega) (by rfl) (pa_cons (pv 0) pa_nil))) (pw_or1 (pt_val (pe_u c_is_false hr (by first | decide | omega) (by rfl) (pa_cons (pv 1) pa_nil)))))) (pss_one (ps_ret pe_int)) pss_nil)
      (pss_one (ps_ret (pe_ifExp (PW.pt (pw_and (pt_val (pe_u c_is_true hr (by first | decide | omega) (by rfl) (pa_cons (pv 0) pa_nil))) (pw_and1 (pt_val (pe_u c_is_true hr (by first | decide | omega) (by rfl) (pa_cons (pv 1) pa_nil)))))) pe_int pe_non)))), ?_⟩
    refine ⟨_, rfl, v, rfl, _, rfl, ?_⟩
    cases e1 : v.fa with
    | true =>
      rw [e1, Bool.true_or, if_pos rfl] at q
      exact iteT (iteT q)
    | false =>
      rw [e1, Bool.false_or] at q
      refine iteF ⟨_, rfl, w, rfl, _, rfl, ?_⟩
      cases e2 : w.fa with
      | true =>
        rw [e2, if_pos rfl] at q
        exact iteT q
      | false =>
        rw [e2, if_neg Bool.false_ne_true] at q
        refine iteF ⟨_, rfl, v, rfl, _, rfl, ?_⟩
        cases e3 : v.tr with
        | false =>
          rw [e3, Bool.false_and, if_neg Bool.false_ne_true] at q
          exact iteF (iteF q)
        | true =>
          rw [e3, Bool.true_and] at q
          refine iteT ⟨_, rfl, w, rfl, _, rfl, ?_⟩
          cases e4 : w.tr with
          | false =>
            rw [e4, if_neg Bool.false_ne_true] at q
            exact iteF q
          | true =>
            rw [e4, if_pos rfl] at q
            exact iteT q
theorem ok_disj {f : Addr} {fd : FuncData} (F : Fun K "disjunction" "disjunction" s_disjunction f fd) (M : Mg mg) (c_is_true : Cl P w K mg base 1 "is_true" (sp_b1 Vl.tr)) (c_is_false : Cl P w K mg base 1 "is_false" (sp_b1 Vl.fa)) : FnOk P w K mg base CX0 2 f fd ["first", "second"] (sp_f2 fOr) := by
  refine F.ok sc_disjunction (fun vs H Q E h => ?_) (fun cdv A outer s H vs Q E hr h => ?_)
  · obtain ⟨v, w, rfl, _⟩ := h
    rfl
  · obtain ⟨v, w, rfl, hv, hw, q⟩ := h
    have q := q H (.refl H)
    unfold fOr at q
    refine ⟨_, (pss_cons (ps_if (PW.pt (pw_or (pt_val (pe_u c_is_true hr (by first | decide | omega) (by rfl) (pa_cons (pv 0) pa_nil))) (pw_or1 (pt_val (pe_u c_is_true hr (by first | decide | omega) (by rfl) (pa_cons (pv 1) pa_nil)))))) (pss_one (ps_ret pe_int)) pss_nil)
      (pss_one (ps_ret (pe_ifExp (PW.pt (pw_and (pt_val (pe_u c_is_false hr (by first | decide | omega) (by rfl) (pa_cons (pv 0) pa_nil))) (pw_and1 (pt_val (pe_u c_is_false hr (by first | decide | omega) (by rfl) (pa_cons (pv 1) pa_nil)))))) pe_int pe_non)))), ?_⟩
    refine ⟨_, rfl, v, rfl, _, rfl, ?_⟩
    cases e1 : v.tr with
    | true =>
      rw [e1, Bool.true_or, if_pos rfl] at q
      exact iteT (iteT q)
    | false =>
      rw [e1, Bool.false_or] at q
      refine iteF ⟨_, rfl, w, rfl, _, rfl, ?_⟩
      cases e2 : w.tr with
      | true =>
        rw [e2, if_pos rfl] at q
        exact iteT q
      | false =>
        rw [e2, if_neg Bool.false_ne_true] at q
        refine iteF ⟨_, rfl, v, rfl, _, rfl, ?_⟩
        cases e3 : v.fa with
        | false =>
          rw [e3, Bool.false_and, if_neg Bool.false_ne_true] at q
          exact iteF (iteF q)
        | true =>
          rw [e3, Bool.true_and] at q
          refine iteT ⟨_, rfl, w, rfl, _, rfl, ?_⟩
          cases e4 : w.fa with
          | false =>
            rw [e4, if_neg Bool.false_ne_true] at q
            exact iteF q
          | true =>
            rw [e4, if_pos rfl] at q
            exact iteT q
theorem ok_not {f : Addr} {fd : FuncData} (F : Fun K "negation" "negation" s_negation f fd) (M : Mg mg) (c_is_true : Cl P w K mg base 1 "is_true" (sp_b1 Vl.tr)) (c_is_false : Cl P w K mg base 1 "is_false" (sp_b1 Vl.fa)) : FnOk P w K mg base CX0 2 f fd ["value"] (sp_f1 fNot) := by
  refine F.ok sc_negation (fun vs H Q E h => ?_) (fun cdv A outer s H vs Q E hr h => ?_)
  · obtain ⟨v, rfl, _⟩ := h
    rfl
  · obtain ⟨v, rfl, hv, q⟩ := h
    unfold fNot at q
    refine ⟨_, (pss_cons (ps_if (pt_val (pe_u c_is_false hr (by first | decide | omega) (by rfl) (pa_cons (pv 0) pa_nil))) (pss_one (ps_ret pe_int)) pss_nil)
      (pss_one (ps_ret (pe_ifExp (pt_val (pe_u c_is_true hr (by first | decide | omega) (by rfl) (pa_cons (pv 0) pa_nil))) pe_int pe_non)))), ?_⟩
    refine ⟨_, rfl, v, rfl, _, rfl, ?_⟩
    cases e1 : v.fa with
    | true =>
      rw [e1, if_pos rfl] at q
      exact iteT q
    | false =>
      rw [e1, if_neg Bool.false_ne_true] at q
      refine iteF ⟨_, rfl, v, rfl, _, rfl, ?_⟩
      cases e2 : v.tr with
      | true =>
        rw [e2, if_pos rfl] at q
        exact iteT q
      | false =>
        rw [e2, if_neg Bool.false_ne_true] at q
        exact iteF q
theorem ok_mis {f : Addr} {fd : FuncData} (F : Fun K "missing" "missing" s_missing f fd) (M : Mg mg) : FnOk P w K mg base CX0 2 f fd ["value"] (sp_f1 fun v => one v.isN) := by
  refine F.ok sc_missing (fun vs H Q E h => ?_) (fun cdv A outer s H vs Q E hr h => ?_)
  · obtain ⟨v, rfl, _⟩ := h
    rfl
  · obtain ⟨v, rfl, hv, q⟩ := h
    refine ⟨_, (pss_one (ps_ret (pe_ifExp (pt_cmpR op_isN (pv 0) pe_non (nomark _)) pe_int pe_int))), ?_⟩
    refine ⟨_, rfl, rfl, _, rfl, ?_⟩
    rw [v.eN]
    have q : Q (one v.isN).v H := q
    cases e : v.isN with
    | true =>
      rw [e] at q
      exact iteT q
    | false =>
      rw [e] at q
      exact iteF q
theorem ok_choose {f : Addr} {fd : FuncData} (F : Fun K "choose" "choose" s_choose f fd) (M : Mg mg) (c_is_true : Cl P w K mg base 1 "is_true" (sp_b1 Vl.tr)) : FnOk P w K mg base CX0 2 f fd ["condition", "first", "second"] (sp_f3 fun u v w => if u.tr = true then v else w) := by
  refine F.ok sc_choose (fun vs H Q E h => ?_) (fun cdv A outer s H vs Q E hr h => ?_)
  · obtain ⟨u, v, w, rfl, _⟩ := h
    rfl
  · obtain ⟨u, v, w, rfl, q⟩ := h
    refine ⟨_, (pss_one (ps_ret (pe_ifExp (pt_val (pe_u c_is_true hr (by first | decide | omega) (by rfl) (pa_cons (pv 0) pa_nil))) (pv 1) (pv 2)))), ?_⟩
    refine ⟨_, rfl, u, rfl, _, rfl, ?_⟩
    have q : Q (if u.tr = true then v else w).v H := q
    cases e : u.tr with
    | true =>
      rw [e, if_pos rfl] at q
      exact iteT ⟨_, rfl, q⟩
    | false =>
      rw [e, if_neg Bool.false_ne_true] at q
      exact iteF ⟨_, rfl, q⟩
theorem ok_length {f : Addr} {fd : FuncData} (F : Fun K "length" "length" s_length f fd) (M : Mg mg) : FnOk P w K mg base CX0 2 f fd ["value"] (sp_f1 fLen) := by
  refine F.ok sc_length (fun vs H Q E h => ?_) (fun cdv A outer s H vs Q E hr h => ?_)
  · obtain ⟨v, rfl, _⟩ := h
    rfl
  · obtain ⟨v, rfl, hv, q⟩ := h
    refine ⟨_, (pss_one (ps_ret (pe_ifExp (pt_val (pe_callB (isiK K) (by rfl) M.isinstance (by decide +kernel) (pa_cons (pv 0) (pa_cons (pe_bltn (v := .ty "str") (by rfl) M.str (by decide +kernel) rfl) pa_nil)))) (pe_callB call_len_str (by rfl) M.len PySem.boot_len (pa_cons (pv 0) pa_nil)) pe_non))), ?_⟩
    refine ⟨_, rfl, _, _, _, _, _, rfl, .ty _, v.ty, kit_ty v.kS, _, rfl, ?_⟩
    cases v with
    | n => exact iteF q
    | i k => exact iteF q
    | s l =>
      have hl : l.length = 1 := by rcases hv with rfl | rfl <;> rfl
      refine iteT ⟨_, rfl, _, rfl, by rw [S_len', hl]; decide, ?_⟩
      rw [S_len']
      exact q
theorem sta_ab {l m : List Nat} (hl : l = [97] ∨ l = [98]) (hm : m = [97] ∨ m = [98]) : Txt.startswith ⟨l.toArray⟩ ⟨m.toArray⟩ = m.isPrefixOf l := by
  rcases hl with rfl | rfl <;> rcases hm with rfl | rfl <;> decide +kernel
theorem ok_starts {f : Addr} {fd : FuncData} (F : Fun K "starts" "starts" s_starts f fd) (M : Mg mg) : FnOk P w K mg base CX0 2 f fd ["first", "second"] (sp_f2 fSta) := by
  refine F.ok sc_starts (fun vs H Q E h => ?_) (fun cdv A outer s H vs Q E hr h => ?_)
  · obtain ⟨v, w, rfl, _⟩ := h
    rfl
  · obtain ⟨v, w, rfl, hv, hw, q⟩ := h
    have q := q H (.refl H)
    refine ⟨_, (pss_cons (ps_if (PW.pt (pw_or (pt_not (pt_val (pe_callB (isiK K) (by rfl) M.isinstance (by decide +kernel) (pa_cons (pv 0) (pa_cons (pe_bltn (v := .ty "str") (by rfl) M.str (by decide +kernel) rfl) pa_nil))))) (pw_or1 (pt_not (pt_val (pe_callB (isiK K) (by rfl) M.isinstance (by decide +kernel) (pa_cons (pv 1) (pa_cons (pe_bltn (v := .ty "str") (by rfl) M.str (by decide +kernel) rfl) pa_nil)))))))) (pss_one (ps_ret pe_non)) pss_nil)
      (pss_one (ps_ret (pe_ifExp (pt_val (pe_bmK K PySem.F.plainAttrs_str PySem.F.slot_str_startswith PySem.F.type_str_startswith mt_startswith (pv 0) (pa_cons (pv 1) pa_nil))) pe_int pe_int)))), ?_⟩
    refine ⟨_, rfl, _, _, _, _, _, rfl, .ty _, v.ty, kit_ty v.kS, _, rfl, ?_⟩
    cases v with
    | n => exact iteT (iteT q)
    | i k => exact iteT (iteT q)
    | s l =>
      refine iteF ⟨_, rfl, _, _, _, _, _, rfl, .ty _, w.ty, kit_ty w.kS, _, rfl, ?_⟩
      cases w with
      | n => exact iteT q
      | i k => exact iteT q
      | s m =>
        refine iteF ?_
        refine ⟨_, rfl, rfl, _, rfl, _, _, rfl, rfl, _, rfl, ?_⟩
        rw [sta_ab hv hw]
        have q : Q (one (m.isPrefixOf l)).v H := q
        unfold one at q
        cases e : m.isPrefixOf l with
        | true =>
          rw [e] at q
          exact iteT q
        | false =>
          rw [e] at q
          exact iteF q
end

/-- a def as a value, and its promise -/
structure Hd (P : Program) (w : World) (K : PySem.W.Frag) (mg : Str → Option Value) (base : Heap) (k : Nat) (f : Addr) (sp : Sp) : Prop where
  ex : ∃ (fd : FuncData) (ps : List Str), FnOk P w K mg base CX0 k f fd ps sp ∧ PySem.W.keepIn K (.ref f) = true ∧ Binds K fd ps []
theorem Cl.hd {P : Program} {w : World} {K : PySem.W.Frag} {mg : Str → Option Value} {base : Heap} {k : Nat} {x : Str} {sp : Sp} (c : Cl P w K mg base k x sp) : ∃ f, mg x = some (.ref f) ∧ Hd P w K mg base k f sp := by
  obtain ⟨f, fd, ps, F, hm, kp, b⟩ := c.ex
  exact ⟨f, hm, fd, ps, F, kp, b⟩
/-! ### expressions of plans -/
inductive Wu where
  | neg | not | mis | len
inductive Wb where
  | add | sub | mul | div | rem | les | equ | and | or | sta
def Wu.s : Wu → String
  | neg => "negate"
  | not => "not"
  | mis => "missing"
  | len => "length"
def Wb.s : Wb → String
  | add => "add"
  | sub => "subtract"
  | mul => "multiply"
  | div => "divide"
  | rem => "remainder"
  | les => "less"
  | equ => "equal"
  | and => "and"
  | or => "or"
  | sta => "starts"
def Wu.f : Wu → Vl → Vl
  | neg => fNeg
  | not => fNot
  | mis => fun v => one v.isN
  | len => fLen
def Wb.f : Wb → Vl → Vl → Vl
  | add => ar fun a b => bnd (a + b)
  | sub => ar fun a b => bnd (a - b)
  | mul => ar fun a b => bnd (a * b)
  | div => fDiv
  | rem => fRem
  | les => cm bf
  | equ => cm fun v w => decide (v = w)
  | and => fAnd
  | or => fOr
  | sta => fSta
inductive Ep where
  | col (i : Nat)
  | con (v : Vl)
  | un (w : Wu) (a : Ep)
  | bi (w : Wb) (a b : Ep)
  | ch (c a b : Ep)
def Ep.d : Ep → PyData
  | col i => .tuple [.str "column", .int (i : Nat)]
  | con v => .tuple [.str "constant", v.p]
  | un w a => .tuple [.str (Str.ofString w.s), a.d]
  | bi w a b => .tuple [.str (Str.ofString w.s), a.d, b.d]
  | ch c a b => .tuple [.str "choose", c.d, a.d, b.d]
def Ep.ht : Ep → Nat
  | col _ => 0
  | con _ => 0
  | un _ a => a.ht + 1
  | bi _ a b => max a.ht b.ht + 1
  | ch c a b => max c.ht (max a.ht b.ht) + 1
def Ep.ok (n : Nat) : Ep → Prop
  | col i => i < n
  | con v => v.ok
  | un _ a => a.ok n
  | bi _ a b => a.ok n ∧ b.ok n
  | ch c a b => c.ok n ∧ a.ok n ∧ b.ok n
def Ep.ev (r : List Vl) : Ep → Vl
  | col i => r.getD i .n
  | con v => v
  | un w a => w.f (a.ev r)
  | bi w a b => w.f (a.ev r) (b.ev r)
  | ch c a b => if (c.ev r).tr = true then a.ev r else b.ev r
def Ep.args : Ep → List Ep
  | un _ a => [a]
  | bi _ a b => [a, b]
  | ch c a b => [c, a, b]
  | _ => []
def Ep.wd : Ep → String
  | col _ => "column"
  | con _ => "constant"
  | un w _ => w.s
  | bi w _ _ => w.s
  | ch _ _ _ => "choose"
def Ep.op : Ep → Bool
  | col _ => false
  | con _ => false
  | _ => true
def Ep.ap : Ep → List Vl → Vl
  | un w _, [v] => w.f v
  | bi w _ _, [v, u] => w.f v u
  | ch _ _ _, [c, v, u] => if c.tr = true then v else u
  | _, _ => .n
theorem Ep.d_op {e : Ep} (h : e.op = true) : e.d = .tuple (.str (Str.ofString e.wd) :: e.args.map Ep.d) := by
  cases e with
  | col i => cases h
  | con v => cases h
  | un w a => rfl
  | bi w a b => rfl
  | ch c a b => rfl
theorem Ep.ev_op {e : Ep} (h : e.op = true) (r : List Vl) : e.ap (e.args.map (Ep.ev r)) = e.ev r := by
  cases e with
  | col i => cases h
  | con v => cases h
  | un w a => rfl
  | bi w a b => rfl
  | ch c a b => rfl
theorem Ep.args_ok {e : Ep} {n : Nat} (h : e.ok n) : ∀ a ∈ e.args, a.ok n ∧ a.ht < e.ht := by
  intro x hx
  cases e with
  | col i => cases hx
  | con v => cases hx
  | un w a =>
    rw [List.mem_singleton.mp hx]
    exact ⟨h, Nat.lt_succ_self _⟩
  | bi w a b =>
    have e2 : (Ep.bi w a b).ht = max a.ht b.ht + 1 := rfl
    rcases List.mem_cons.mp hx with rfl | hx
    · exact ⟨h.1, by omega⟩
    · rw [List.mem_singleton.mp hx]
      exact ⟨h.2, by omega⟩
  | ch c a b =>
    have e2 : (Ep.ch c a b).ht = max c.ht (max a.ht b.ht) + 1 := rfl
    rcases List.mem_cons.mp hx with rfl | hx
    · exact ⟨h.1, by omega⟩
    · rcases List.mem_cons.mp hx with rfl | hx
      · exact ⟨h.2.1, by omega⟩
      · rw [List.mem_singleton.mp hx]
        exact ⟨h.2.2, by omega⟩
theorem Wu.f_ok (w : Wu) {v : Vl} (h : v.ok) : (w.f v).ok := by
  cases w with
  | neg => cases v <;> first | exact bnd_ok _ | trivial
  | not =>
    show (fNot v).ok
    unfold fNot
    split
    · exact one_ok _
    · split
      · exact one_ok _
      · trivial
  | mis => exact one_ok _
  | len =>
    cases v with
    | n => trivial
    | i k => trivial
    | s l =>
      have hl : l.length = 1 := by rcases h with rfl | rfl <;> rfl
      show -BND ≤ ((l.length : Nat) : Int) ∧ ((l.length : Nat) : Int) ≤ BND
      rw [hl]
      decide
theorem ar_ok {g : Int → Int → Vl} (h : ∀ a b, (g a b).ok) : ∀ v w : Vl, (ar g v w).ok
  | .i a, .i b => h a b
  | .n, _ => trivial
  | .s _, _ => trivial
  | .i _, .n => trivial
  | .i _, .s _ => trivial
theorem Wb.f_ok (w : Wb) (v u : Vl) : (w.f v u).ok := by
  cases w with
  | add => exact ar_ok (fun _ _ => bnd_ok _) v u
  | sub => exact ar_ok (fun _ _ => bnd_ok _) v u
  | mul => exact ar_ok (fun _ _ => bnd_ok _) v u
  | div => exact ar_ok (fun a b => by split; trivial; exact bnd_ok _) v u
  | rem => exact ar_ok (fun a b => by split; trivial; exact bnd_ok _) v u
  | les =>
    show (cm bf v u).ok
    unfold cm
    split
    · trivial
    · split
      · trivial
      · exact one_ok _
  | equ =>
    show (cm (fun v w => decide (v = w)) v u).ok
    unfold cm
    split
    · trivial
    · split
      · trivial
      · exact one_ok _
  | and =>
    show (fAnd v u).ok
    unfold fAnd
    split
    · exact one_ok _
    · split
      · exact one_ok _
      · trivial
  | or =>
    show (fOr v u).ok
    unfold fOr
    split
    · exact one_ok _
    · split
      · exact one_ok _
      · trivial
  | sta =>
    show (fSta v u).ok
    cases v with
    | n => trivial
    | i k => trivial
    | s l =>
      cases u with
      | n => trivial
      | i k => trivial
      | s m => exact one_ok _
theorem Ep.ev_ok {r : List Vl} (hr : ∀ v ∈ r, v.ok) : ∀ {e : Ep}, e.ok r.length → (e.ev r).ok
  | col i, h => by
    have h : i < r.length := h
    show (r.getD i .n).ok
    rw [List.getD_eq_getElem?_getD, List.getElem?_eq_getElem h]
    exact hr _ (List.getElem_mem h)
  | con v, h => h
  | un w a, h => w.f_ok (ev_ok (e := a) hr h)
  | bi w a b, h => w.f_ok _ _
  | ch c a b, h => by
    show (if (c.ev r).tr = true then a.ev r else b.ev r).ok
    split
    · exact ev_ok (e := a) hr h.2.1
    · exact ev_ok (e := b) hr h.2.2
/-! ### the program's evaluate -/
def sp_op (e : Ep) : Sp := fun vs H Q _ => ∃ us : List Vl, vs = us.map Vl.v ∧ us.length = e.args.length ∧ (∀ u ∈ us, u.ok) ∧ ∀ H', Same H H' → Q (e.ap us).v H'
def sp_eval (K : PySem.W.Frag) (n : Nat) : Sp := fun vs H Q _ => ∃ (p : V) (a : Addr) (e : Ep) (r : List Vl), vs = [p, .ref a] ∧ Dp K H p e.d ∧ SqT K H a (r.map Vl.v) ∧ e.ok r.length ∧ (∀ v ∈ r, v.ok) ∧ e.ht < n ∧ ∀ H', Same H H' → Q (e.ev r).v H'
def tCallHS (P : Program) (w : World) (K : PySem.W.Frag) (mg : Str → Option Value) (base : Heap) (k i : Nat) (te : TE) : TE := fun σ H Q => ∃ f sp, σ[i]? = some (some (.ref f)) ∧ Hd P w K mg base k f sp ∧ te σ H fun y H1 => ∃ a xs, y = V.ref a ∧ SqL K H1 a xs ∧ sp xs H1 Q E0
section
variable {X : Cx} {k j i : Nat} {x : Str} {p sp_ pos : Pos} {e : Expr} {te : TE}
/-- f(*xs), f a local name -/
theorem pe_callLS (hr : Room j X.A) (hk : k ≤ j) (hN : X.N[i]? = some x) (hv : Vis X.env.scope x) (he : PE X e te) (hdb : (x == ("__debug__" : Str)) = false := by decide) (hcd : (x == ("__classdict__" : Str)) = false := by decide)
    (hst : starEach [.Starred e sp_] X.env = [(true, eval e X.env)] := by rfl) : PE X (.Call (.Name x p) [.Starred e sp_] [] pos) (tCallHS X.prog X.w X.K X.mg X.base k i te) := by
  refine ⟨fun pins s σ H Q I h => ?_⟩
  obtain ⟨f, sp, hs, ⟨fd, ps, F, kp, b⟩, ht⟩ := h
  refine wpAny_Call_Name_kw (thn ((pe_var (pos := p) hN hv hdb hcd).run pins s σ H (fun v H1 => v = .ref f ∧ H1 = H) I ⟨.ref f, hs, rfl, rfl⟩) fun u s1 ⟨v, H1, I1, r1, q1⟩ => ?_)
  obtain ⟨rfl, rfl⟩ := q1
  cases r1
  refine PySem.W.callWith_S (h₀ := X.base) I.ok.mod.kin kp (thn (he.run pins s1 σ _ _ I1 ht) fun v s2 ⟨y, H2, I2, ry, a, xs, ey, hxs, q⟩ => ?_) hst
  subst ey
  obtain rfl : v = Value.ref a := ry
  exact StX.star_any I2 (.inr hxs) fun us s3 I3 rv => ⟨I3.kIn, run_fn (dvs := []) F (hr.mono hk) b .nil pass0 I3 rv (by rw [List.append_nil]; exact q)⟩
end
theorem imp_un {o : Wu} {a : Ep} : ∀ vs H Q E, sp_op (.un o a) vs H Q E → sp_f1 o.f vs H Q E := by
  rintro vs H Q E ⟨us, rfl, hl, ho, q⟩
  match us, hl with
  | [u], _ => exact ⟨u, rfl, ho u List.mem_cons_self, q H (.refl H)⟩
theorem imp_bi {o : Wb} {a b : Ep} : ∀ vs H Q E, sp_op (.bi o a b) vs H Q E → sp_f2 o.f vs H Q E := by
  rintro vs H Q E ⟨us, rfl, hl, ho, q⟩
  match us, hl with
  | [u, v], _ => exact ⟨u, v, rfl, ho u List.mem_cons_self, ho v (List.mem_cons_of_mem _ List.mem_cons_self), q⟩
theorem imp_ch {c a b : Ep} : ∀ vs H Q E, sp_op (.ch c a b) vs H Q E → sp_f3 (fun u v w => if u.tr = true then v else w) vs H Q E := by
  rintro vs H Q E ⟨us, rfl, hl, ho, q⟩
  match us, hl with
  | [u, v, w], _ => exact ⟨u, v, w, rfl, q H (.refl H)⟩
structure OpG (P : Program) (w : World) (K : PySem.W.Frag) (mg : Str → Option Value) (base : Heap) (kk : Nat) (aO : Addr) (eO : Array DictEntry) (nO : Nat) : Prop where
  OPERATIONS : ∃ u, mg "OPERATIONS" = some u ∧ RelV (.ref aO) u
  OPERATIONS_D : KDict K w aO eO nO
  hit : ∀ e : Ep, e.op = true → ∃ f, PySem.W.nsIn K aO (Str.ofString e.wd) = some (some (.ref f)) ∧ Hd P w K mg base kk f (sp_op e)
section
variable {P : Program} {w : World} {K : PySem.W.Frag} {mg : Str → Option Value} {base : Heap}
theorem wu_lf (w : Wu) : (Str.ofString w.s == Str.ofString "column") = false ∧ (Str.ofString w.s == Str.ofString "constant") = false := by cases w <;> exact ⟨by decide +kernel, by decide +kernel⟩
theorem wb_lf (w : Wb) : (Str.ofString w.s == Str.ofString "column") = false ∧ (Str.ofString w.s == Str.ofString "constant") = false := by cases w <;> exact ⟨by decide +kernel, by decide +kernel⟩
theorem ch_lf : (Str.ofString "choose" == Str.ofString "column") = false ∧ (Str.ofString "choose" == Str.ofString "constant") = false := ⟨by decide +kernel, by decide +kernel⟩
theorem wd_op {e : Ep} (h : e.op = true) : (Str.ofString e.wd == Str.ofString "column") = false ∧ (Str.ofString e.wd == Str.ofString "constant") = false := by
  cases e with
  | col i => cases h
  | con v => cases h
  | un w a => exact wu_lf w
  | bi w a b => exact wb_lf w
  | ch c a b => exact ch_lf
theorem ok_eval (n : Nat) {kk : Nat} {aO : Addr} {eO : Array DictEntry} {nO : Nat} {f : Addr} {fd : FuncData} (F : Fun K "evaluate" "evaluate" s_evaluate f fd) (M : Mg mg) (G : OpG P w K mg base kk aO eO nO) (hkk : kk ≤ n + 2) (c_evaluate : Cl P w K mg base (n + 2) "evaluate" (sp_eval K n)) : FnOk P w K mg base CX0 (n + 3) f fd ["expression", "row"] (sp_eval K (n + 1)) := by
  refine F.ok sc_evaluate (fun vs H Q E h => ?_) (fun cdv A outer s H vs Q E hr h => ?_)
  · obtain ⟨p, a, e, r, rfl, _⟩ := h
    rfl
  · obtain ⟨p, a, e, r, rfl, dp, hS, ok, hr0, ht, q⟩ := h
    refine ⟨_, (pss_cons (ps_set (i := 2) sc_evaluate.nd rfl (.inl rfl) (pe_ix (ix_tupK K) (pv 0) pe_int (fun _ _ => rfl)))
      (pss_cons (ps_if (pt_cmpR op_eq (pv 2) pe_str (nomark _)) (pss_one (ps_ret (pe_ix (ix_tupK K) (pv 1) (pe_ix (ix_tupK K) (pv 0) pe_int (fun _ _ => rfl)) (fun _ _ => rfl)))) pss_nil)
      (pss_cons (ps_if (pt_cmpR op_eq (pv 2) pe_str (nomark _)) (pss_one (ps_ret (pe_ix (ix_tupK K) (pv 0) pe_int (fun _ _ => rfl)))) pss_nil)
      (pss_cons (ps_set (i := 3) sc_evaluate.nd rfl (.inl rfl) (pe_ix ix_kdict (C8.pe_gc (by rfl) G.OPERATIONS) (pv 2) (fun _ _ => rfl)))
      (pss_cons (ps_setLc (i := 4) (own := [("part", 5)]) (g := gName 5) (tt := tYes) rfl sc_evaluate.nd rfl rfl (sw_true rfl rfl rfl (by decide +kernel)) (pi_tup (pe_slice sl_tup (pv 0) (po_some pe_int) po_none)) (blkOk_by (N := N_evaluate) (sc := defScope s_evaluate) (by decide +kernel)) (fun _ _ _ _ _ => (pg_name (i := 5) sc_evaluate.nd rfl (.inl rfl))) (fun _ _ _ _ _ => pts_nil) (fun _ _ _ _ _ => (pe_u c_evaluate hr (by first | decide | omega) (by rfl) (pa_cons (pv 5) (pa_cons (pv 1) pa_nil)))))
      (pss_one (ps_ret (pe_callLS (k := kk) hr (by first | decide | omega) (i := 3) rfl (.inl rfl) (pv 4))))))))), ?_⟩
    by_cases hop : e.op = true
    · have q := q
      rw [Ep.d_op hop] at dp
      obtain ⟨b, xs, rfl, hb, hx⟩ := dp_tup dp
      obtain ⟨vs, rfl, h2⟩ : ∃ vs, xs = .str (Str.ofString e.wd) :: vs ∧ DpAll K H vs (e.args.map Ep.d) := by
        cases hx with
        | cons h1 h2 => cases h1; exact ⟨_, rfl, h2⟩
      obtain ⟨w1, w2⟩ := wd_op hop
      obtain ⟨fo, hns, hd⟩ := G.hit e hop
      have hvs : vs.length = e.args.length := by rw [DpAll.len h2, List.length_map]
      refine ⟨_, rfl, b, _, _, _, rfl, rfl, hb, atI_nat (j := 0) rfl, ?_⟩
      refine ⟨_, rfl, rfl, _, rfl, ?_⟩
      rw [wne _ _ w1]
      refine iteF ⟨_, rfl, rfl, _, rfl, ?_⟩
      rw [wne _ _ w2]
      refine iteF ?_
      refine ⟨_, rfl, aO, _, .ref fo, rfl, rfl, ⟨eO, nO, _, G.OPERATIONS_D.1, G.OPERATIONS_D.2, hns, rfl⟩, ?_⟩
      refine ⟨_, rfl, _, rfl, b, _, rfl, hb, by show ¬ (1 = 0 ∧ _); exact fun z => absurd z.1 (by decide), fun D1 nD1 => ?_⟩
      have hcut : cutV (V.str (Str.ofString e.wd) :: vs) (some 1) none = vs := by
        show ((V.str (Str.ofString e.wd) :: vs).drop 1).take (vs.length + 1 - 1) = vs
        simp
      rw [hcut]
      have s1 := same_upd nD1 (o := .tup vs)
      have hT : SqT K (upd H D1 (.tup vs)) D1 vs := .inl (.inl upd_same)
      generalize upd H D1 (.tup vs) = H1 at s1 hT
      refine ⟨D1, rfl, ⟨_, hT⟩, fun D nD => ?_⟩
      refine lc_tup (K := K) (a := D1) (xs := vs) (fun i Hi => Same H1 Hi ∧ Hi D = some (.lst (((e.args.take i).map (Ep.ev r)).map Vl.v))) ⟨same_upd nD, upd_same⟩ (fun i Hi _ hp => SqT.ext hp.1 hT) (fun i x Hi hx hp => ?_) (fun Hn hp => ?_)
      · obtain ⟨si, eD⟩ := hp
        have hi : i < vs.length := (List.getElem?_eq_some_iff.mp hx).1
        have hie : i < e.args.length := by omega
        obtain ⟨x', hx', dx⟩ := DpAll.get (i := i) (d := (e.args[i]).d) h2 (by rw [List.getElem?_map, List.getElem?_eq_getElem hie]; rfl)
        obtain rfl : x = x' := Option.some.inj (hx.symm.trans hx')
        obtain ⟨xok, xht⟩ := Ep.args_ok ok _ (List.getElem_mem hie)
        refine ⟨rfl, ?_⟩
        refine ⟨_, rfl, _, rfl, x, a, e.args[i], r, rfl, Dp.ext (s1.trans si) _ _ dx, SqT.ext (s1.trans si) hS, xok, hr0, by omega, fun H' s' => ?_⟩
        have l3 : e.args.length ≤ 3 := by
          cases e <;> simp [Ep.args]
        refine ⟨_, s' _ _ eD, ?_, ?_, ?_⟩
        · rw [List.length_map, List.length_map, List.length_take]
          exact Nat.lt_of_lt_of_le (m := 1001) (by omega) (by decide)
        · intro b o z
          have nb : b ≠ D := ne_of_none z nD
          rw [upd_ne nb]
          exact s' _ _ (si _ _ z)
        · rw [upd_same, List.take_add_one, List.getElem?_eq_getElem hie, List.map_append, List.map_append]
          rfl
      · obtain ⟨sn, eD⟩ := hp
        rw [hvs, List.take_length] at eD
        refine ⟨fo, _, rfl, hd, _, rfl, D, _, rfl, .of eD, e.args.map (Ep.ev r), rfl, by rw [List.length_map], fun u hu => ?_, fun H' s' => ?_⟩
        · obtain ⟨x, hx, rfl⟩ := List.mem_map.mp hu
          exact Ep.ev_ok hr0 (Ep.args_ok ok x hx).1
        · rw [Ep.ev_op hop]
          exact q H' ((s1.trans sn).trans s')
    · cases e with
      | col i =>
        have ok : i < r.length := ok
        obtain ⟨b, xs, rfl, hb, hx⟩ := dp_tup dp
        obtain ⟨u, rfl, hu⟩ := dp_two hx
        cases hu
        refine ⟨_, rfl, b, _, _, _, rfl, rfl, hb, atI_nat (j := 0) rfl, ?_⟩
        refine ⟨_, rfl, rfl, _, rfl, ?_⟩
        rw [weq]
        refine iteT ⟨_, rfl, _, rfl, b, _, _, _, rfl, rfl, hb, atI_nat (j := 1) rfl, a, _, _, (r[i]).v, rfl, rfl, hS, atI_nat (by rw [List.getElem?_map, List.getElem?_eq_getElem ok]; rfl), ?_⟩
        have q := q H (.refl H)
        have e2 : (Ep.col i).ev r = r[i] := by
          show r.getD i .n = _
          rw [List.getD_eq_getElem?_getD, List.getElem?_eq_getElem ok]
          rfl
        rw [e2] at q
        exact q
      | con v =>
        obtain ⟨b, xs, rfl, hb, hx⟩ := dp_tup dp
        obtain ⟨u, rfl, hu⟩ := dp_two hx
        have eu : u = v.v := by
          cases v with
          | n => cases hu; rfl
          | i k => cases hu; rfl
          | s l => cases hu; rfl
        subst eu
        refine ⟨_, rfl, b, _, _, _, rfl, rfl, hb, atI_nat (j := 0) rfl, ?_⟩
        refine ⟨_, rfl, rfl, _, rfl, ?_⟩
        rw [wne "constant" "column" (by decide +kernel)]
        refine iteF ⟨_, rfl, rfl, _, rfl, ?_⟩
        rw [weq]
        exact iteT ⟨_, rfl, b, _, _, _, rfl, rfl, hb, atI_nat (j := 1) rfl, q H (.refl H)⟩
      | un w a => exact absurd rfl hop
      | bi w a b => exact absurd rfl hop
      | ch c a b => exact absurd rfl hop
theorem cl_eval {kk : Nat} {aO : Addr} {eO : Array DictEntry} {nO : Nat} {f : Addr} {fd : FuncData} (F : Fun K "evaluate" "evaluate" s_evaluate f fd) (M : Mg mg) (G : OpG P w K mg base kk aO eO nO) (hkk : kk ≤ 2) (g : mg "evaluate" = some (.ref f)) (b : Binds K fd ["expression", "row"] []) : ∀ n, Cl P w K mg base (n + 2) "evaluate" (sp_eval K n)
  | 0 => FnOk.cl (F.ok (k := 1) sc_evaluate (fun vs H Q E h => by obtain ⟨p, a, e, r, rfl, _⟩ := h; rfl) (fun cdv A outer s H vs Q E hr h => by obtain ⟨p, a, e, r, rfl, _, _, _, _, hm, _⟩ := h; omega)) F g b
  | n + 1 => FnOk.cl (ok_eval n F M G (by omega) (cl_eval F M G hkk g b n)) F g b
end

/-! ### the laws' cells, their keys, their evaluation -/
def Vl.sm : Vl → Prop
  | .i k => 0 ≤ k ∧ k ≤ 3
  | .s l => l = [97] ∨ l = [98]
  | _ => True
theorem Vl.sm_ok {v : Vl} (h : v.sm) : v.ok := by
  cases v with
  | n => trivial
  | i k =>
    have h : 0 ≤ k ∧ k ≤ 3 := h
    show -BND ≤ k ∧ k ≤ BND
    unfold BND
    omega
  | s l => exact h
def Vl.lk : Vl → PyData
  | .n => .tuple [.int 0, .int 0, .str ⟨([] : List Nat).toArray⟩]
  | .i k => .tuple [.int 1, .int k, .str ⟨([] : List Nat).toArray⟩]
  | .s l => .tuple [.int 2, .int 0, .str ⟨l.toArray⟩]
theorem eqv_lk (v w : Vl) : PyData.eqv v.lk w.lk = decide (v = w) := by
  cases v <;> cases w <;> simp [Vl.lk, PyData.eqv, PyData.eqvAll, S_dec]
  rw [Bool.eq_iff_iff]
  simp
theorem ok_lk (v w : Vl) : okD v.lk w.lk = true := by
  cases v <;> cases w <;> simp [Vl.lk, okD, okDs, PyData.eqv, PyData.eqvAll]
theorem lt_lk (v w : Vl) : ltD v.lk w.lk = bf v w := by
  cases v <;> cases w <;> simp [Vl.lk, ltD, ltDs, PyData.eqv, PyData.eqvAll, bf]
  · intro h e
    omega
  · exact fun h e => by subst e; exact List.lt_irrefl _ h
theorem lk_shaped : ∀ v : Vl, v.ok → SeqAt.shaped v.lk = true
  | .n, _ => by decide +kernel
  | .i k, _ => by
    unfold SeqAt.shaped
    rw [Bool.and_eq_true]
    refine ⟨?_, decide_eq_true (by show (PyData.depth (.tuple _)) ≤ _; simp [PyData.depth, PyData.depthAll])⟩
    simp [Vl.lk, PyData.canLay0, PyData.canLayAll0, PyData.strOk]
  | .s l, h => by
    unfold SeqAt.shaped
    rw [Bool.and_eq_true]
    refine ⟨?_, decide_eq_true (by show (PyData.depth (.tuple _)) ≤ _; simp [PyData.depth, PyData.depthAll])⟩
    simp [Vl.lk, PyData.canLay0, PyData.canLayAll0, strOk_ab h]
/-- what is known of a truth value -/
def Vl.kn : Vl → Option Bool
  | .i k => some (!decide (k = 0))
  | _ => none
def oV : Option Bool → V
  | none => .non
  | some b => .bl b
theorem kn_tr (v : Vl) : v.tr = decide (v.kn = some true) := by
  cases v with
  | n => rfl
  | s l => rfl
  | i k =>
    show (!decide (k = 0)) = decide (some (!decide (k = 0)) = some true)
    cases decide (k = 0) <;> rfl
theorem kn_fa (v : Vl) : v.fa = decide (v.kn = some false) := by
  cases v with
  | n => rfl
  | s l => rfl
  | i k =>
    show (decide (k = 0)) = decide (some (!decide (k = 0)) = some false)
    cases decide (k = 0) <;> rfl
/-- what is known, held against a truth value by `is` -/
def rIsO : R2 := fun x y H Q => ∃ (a : Option Bool) (b : Bool), x = oV a ∧ y = .bl b ∧ Q (.bl (decide (a = some b))) H
theorem op_isO {X : Cx} : OpR X (compareOp .Is) rIsO := by
  intro pins s σ H x y v u Q I rx ry h
  obtain ⟨a, b, rfl, rfl, q⟩ := h
  cases (show u = Value.bool b from ry)
  rcases a with _ | a
  · cases (show v = Value.none from rx)
    exact wpAny_is_other rfl (fun z => nomatch z) ⟨.bl false, H, I, rfl, by simpa using q⟩
  · cases (show v = Value.bool a from rx)
    by_cases e : a = b
    · subst e
      exact wpAny_is_self rfl ⟨.bl true, H, I, rfl, by simpa using q⟩
    · exact wpAny_is_other rfl (fun z => e (Value.bool.inj z)) ⟨.bl false, H, I, rfl, by simpa [e] using q⟩
def sp_cell : Sp := fun vs H Q _ => ∃ (d c : Addr), vs = [.ref d] ∧ Dr H d c ∧ ∀ H' (v : Vl), Fd d H H' → Dr H' d c → v.sm → Q v.v H'
def sp_lkey (K : PySem.W.Frag) : Sp := fun vs H Q _ => ∃ v : Vl, vs = [v.v] ∧ ∀ H' p, Same H H' → Dp K H' (.ref p) v.lk → Q (.ref p) H'
def sp_known : Sp := fun vs H Q _ => ∃ v : Vl, vs = [v.v] ∧ Q (oV v.kn) H
def Wb.isA : Wb → Bool
  | add => true
  | sub => true
  | mul => true
  | div => true
  | rem => true
  | _ => false
def sp_arith : Sp := fun vs H Q _ => ∃ (o : Wb) (v u : Vl), o.isA = true ∧ vs = [.str (Str.ofString o.s), v.v, u.v] ∧ v.ok ∧ u.ok ∧ Q (o.f v u).v H
def sp_logic (K : PySem.W.Frag) : Sp := fun vs H Q _ => ∃ (o : Wb) (v u : Vl), (o = .and ∨ o = .or) ∧ vs = [.str (Str.ofString o.s), v.v, u.v] ∧ Q (o.f v u).v H
def sp_single : Sp := fun vs H Q _ => ∃ (o : Wu) (v : Vl), vs = [.str (Str.ofString o.s), v.v] ∧ v.ok ∧ Q (o.f v).v H
theorem pow15 : (10 : Int) ^ (15 : Int).toNat = BND := by decide +kernel
theorem not_eqb (a b : Bool) : decide (V.bl a = V.bl b) = (a == b) := by
  cases a <;> cases b <;> rfl
theorem div_bnd {a b : Int} (ha : -BND ≤ a ∧ a ≤ BND) (h : ¬ b < 1) : bnd (a / b) = .i (a / b) := by
  unfold bnd
  refine if_pos ?_
  have hb : 0 < b := by omega
  unfold BND at *
  constructor
  · refine Int.le_ediv_of_mul_le hb ?_
    omega
  · refine Int.le_trans (Int.ediv_le_ediv hb ha.2) ?_
    exact Int.ediv_le_self _ (by decide)
theorem rem_bnd {a b : Int} (hb : -BND ≤ b ∧ b ≤ BND) (h : ¬ b < 1) : bnd (a % b) = .i (a - b * (a / b)) := by
  have e : a % b = a - b * (a / b) := Int.emod_def a b
  rw [← e]
  unfold bnd
  refine if_pos ?_
  have h0 : 0 ≤ a % b := Int.emod_nonneg _ (by omega)
  have h1 : a % b < b := Int.emod_lt_of_pos _ (by omega)
  unfold BND at *
  omega
def lg (D : Bool) (x y : Option Bool) : Vl := if x = some D then one D else if y = some D then one D else if x = none then .n else if y = none then .n else one (!D)
theorem lg_and (v u : Vl) : fAnd v u = lg false v.kn u.kn := by
  unfold fAnd
  rw [kn_fa, kn_fa, kn_tr, kn_tr]
  rcases v.kn with _ | _ | _ <;> rcases u.kn with _ | _ | _ <;> rfl
theorem lg_or (v u : Vl) : fOr v u = lg true v.kn u.kn := by
  unfold fOr
  rw [kn_fa, kn_fa, kn_tr, kn_tr]
  rcases v.kn with _ | _ | _ <;> rcases u.kn with _ | _ | _ <;> rfl
theorem oV_eq (x : Option Bool) (D : Bool) : decide (oV x = .bl D) = decide (x = some D) := by
  rcases x with _ | _ | _ <;> cases D <;> rfl
theorem oV_no (x : Option Bool) : decide (oV x = .non) = decide (x = none) := by
  rcases x with _ | _ | _ <;> rfl
section
variable {P : Program} {w : World} {K : PySem.W.Frag} {mg : Str → Option Value} {base : Heap}
theorem ok_cell {f : Addr} {fd : FuncData} (F : Fun K "_law_cell" "_law_cell" s__law_cell f fd) (M : Mg mg) (c__law_next : Cl P w K mg base 1 "_law_next" sp_next) : FnOk P w K mg base CX0 2 f fd ["draw"] sp_cell := by
  refine F.ok sc__law_cell (fun vs H Q E h => ?_) (fun cdv A outer s H vs Q E hr h => ?_)
  · obtain ⟨d, c, rfl, _⟩ := h
    rfl
  · obtain ⟨d, c, rfl, dr, q⟩ := h
    refine ⟨_, (pss_cons (ps_set (i := 1) sc__law_cell.nd rfl (.inl rfl) (pe_u c__law_next hr (by first | decide | omega) (by rfl) (pa_cons (pv 0) (pa_cons pe_int pa_nil))))
      (pss_cons (ps_if (pt_cmpR op_eq (pv 1) pe_int (nomark _)) (pss_one (ps_ret pe_non)) pss_nil)
      (pss_one (ps_ret (pe_ifExp (pt_cmpR op_gt (pv 1) pe_int (nomark _)) (pe_ix ix_str pe_str (pe_op op_sub (pv 1) pe_int) (fun _ _ => rfl)) (pe_op op_sub (pv 1) pe_int)))))), ?_⟩
    refine ⟨_, rfl, d, c, 7, rfl, dr, by decide, by decide, fun H1 r f1 _ dr1 r0 r1 => ?_⟩
    refine ⟨_, rfl, rfl, _, rfl, ite2 (fun e => ?_) (fun e => ?_)⟩
    · exact q H1 .n f1 dr1 trivial
    · have hr0 : r ≠ 0 := fun z => e (by rw [z]; exact decide_eq_true rfl)
      refine ⟨_, rfl, _, _, rfl, rfl, _, rfl, ite2 (fun e2 => ?_) (fun e2 => ?_)⟩
      · have h4 := of_decide_eq_true e2
        have h56 : r = 5 ∨ r = 6 := by omega
        rcases h56 with rfl | rfl
        · exact ⟨_, rfl, _, _, rfl, rfl, _, _, 97, rfl, rfl, by decide, atI_nat (j := 0) rfl, q H1 (.s [97]) f1 dr1 (.inl rfl)⟩
        · exact ⟨_, rfl, _, _, rfl, rfl, _, _, 98, rfl, rfl, by decide, atI_nat (j := 1) rfl, q H1 (.s [98]) f1 dr1 (.inr rfl)⟩
      · have h4 : ¬ r > 4 := fun z => e2 (decide_eq_true z)
        exact ⟨_, rfl, _, _, rfl, rfl, q H1 (.i (r - 1)) f1 dr1 ⟨by omega, by omega⟩⟩
theorem ok_lkey {f : Addr} {fd : FuncData} (F : Fun K "_law_key" "_law_key" s__law_key f fd) (M : Mg mg) : FnOk P w K mg base CX0 1 f fd ["value"] (sp_lkey K) := by
  refine F.ok sc__law_key (fun vs H Q E h => ?_) (fun cdv A outer s H vs Q E hr h => ?_)
  · obtain ⟨v, rfl, _⟩ := h
    rfl
  · obtain ⟨v, rfl, q⟩ := h
    refine ⟨_, (pss_cons (ps_if (pt_cmpR op_isN (pv 0) pe_non (nomark _)) (pss_one (ps_ret (pe_tup (pa_cons pe_int (pa_cons pe_int (pa_cons pe_str pa_nil)))))) pss_nil)
      (pss_cons (ps_if (pt_val (pe_callB (isiK K) (by rfl) M.isinstance (by decide +kernel) (pa_cons (pv 0) (pa_cons (pe_bltn (v := .ty "str") (by rfl) M.str (by decide +kernel) rfl) pa_nil)))) (pss_one (ps_ret (pe_tup (pa_cons pe_int (pa_cons pe_int (pa_cons (pv 0) pa_nil)))))) pss_nil)
      (pss_one (ps_ret (pe_tup (pa_cons pe_int (pa_cons (pv 0) (pa_cons pe_str pa_nil)))))))), ?_⟩
    refine ⟨_, rfl, rfl, _, rfl, ?_⟩
    rw [v.eN]
    cases v with
    | n => exact iteT ⟨by show 3 ≤ sizeLine; decide, fun p np => q _ p (same_upd np) (.tup (.of upd_same) (.cons (.int _) (.cons (.int _) (.cons (.str _) .nil))))⟩
    | i k =>
      refine iteF ⟨_, rfl, _, _, _, _, _, rfl, .ty _, (Vl.i k).ty, kit_ty (Vl.i k).kS, _, rfl, iteF ?_⟩
      exact ⟨_, rfl, by show 3 ≤ sizeLine; decide, fun p np => q _ p (same_upd np) (.tup (.of upd_same) (.cons (.int _) (.cons (.int _) (.cons (.str _) .nil))))⟩
    | s l =>
      refine iteF ⟨_, rfl, _, _, _, _, _, rfl, .ty _, (Vl.s l).ty, kit_ty (Vl.s l).kS, _, rfl, iteT ?_⟩
      exact ⟨_, rfl, by show 3 ≤ sizeLine; decide, fun p np => q _ p (same_upd np) (.tup (.of upd_same) (.cons (.int _) (.cons (.int _) (.cons (.str _) .nil))))⟩
theorem ok_known {f : Addr} {fd : FuncData} (F : Fun K "_law_known" "_law_known" s__law_known f fd) (M : Mg mg) : FnOk P w K mg base CX0 1 f fd ["value"] sp_known := by
  refine F.ok sc__law_known (fun vs H Q E h => ?_) (fun cdv A outer s H vs Q E hr h => ?_)
  · obtain ⟨v, rfl, _⟩ := h
    rfl
  · obtain ⟨v, rfl, q⟩ := h
    refine ⟨_, (pss_one (ps_ret (pe_ifExp (PW.pt (pw_or (pt_cmpR op_isN (pv 0) pe_non (nomark _)) (pw_or1 (pt_val (pe_callB (isiK K) (by rfl) M.isinstance (by decide +kernel) (pa_cons (pv 0) (pa_cons (pe_bltn (v := .ty "str") (by rfl) M.str (by decide +kernel) rfl) pa_nil))))))) pe_non (pe_cmpR op_ne (pv 0) pe_int (nomark _))))), ?_⟩
    refine ⟨_, rfl, rfl, _, rfl, ?_⟩
    rw [v.eN]
    cases v with
    | n => exact iteT (iteT q)
    | i k =>
      refine iteF ⟨_, rfl, _, _, _, _, _, rfl, .ty _, (Vl.i k).ty, kit_ty (Vl.i k).kS, _, rfl, iteF ?_⟩
      refine ⟨_, rfl, rfl, ?_⟩
      show Q (V.bl (!decide (V.int k = V.int 0))) H
      rw [int_eq0]
      exact q
    | s l => exact iteF ⟨_, rfl, _, _, _, _, _, rfl, .ty _, (Vl.s l).ty, kit_ty (Vl.s l).kS, _, rfl, iteT q⟩
theorem ok_lbnd {f : Addr} {fd : FuncData} (F : Fun K "_law_bounded" "_law_bounded" s__law_bounded f fd) (M : Mg mg) : FnOk P w K mg base CX0 1 f fd ["number"] sp_bnd := by
  refine F.ok sc__law_bounded (fun vs H Q E h => ?_) (fun cdv A outer s H vs Q E hr h => ?_)
  · obtain ⟨k, rfl, _⟩ := h
    rfl
  · obtain ⟨k, rfl, q⟩ := h
    refine ⟨_, (pss_one (ps_ret (pe_ifExp (pt_chain op_le op_le (pe_un un_neg (pe_op op_pow pe_int pe_int)) (pv 0) (pe_op op_pow pe_int pe_int)) (pv 0) pe_non))), ?_⟩
    unfold bnd at q
    refine ⟨_, _, rfl, rfl, ⟨by decide, by decide, by decide⟩, _, rfl, _, rfl, _, _, rfl, rfl, _, rfl, ?_⟩
    rw [pow15]
    by_cases h1 : -BND ≤ k
    · rw [decide_eq_true h1]
      refine iteT ⟨_, _, rfl, rfl, ⟨by decide, by decide, by decide⟩, _, _, rfl, rfl, _, rfl, ?_⟩
      rw [pow15]
      by_cases h2 : k ≤ BND
      · rw [if_pos ⟨h1, h2⟩] at q
        rw [decide_eq_true h2]
        exact iteT ⟨_, rfl, q⟩
      · rw [if_neg (fun z => h2 z.2)] at q
        rw [decide_eq_false h2]
        exact iteF q
    · rw [if_neg (fun z => h1 z.1)] at q
      rw [decide_eq_false h1]
      exact iteF ⟨_, rfl, iteF q⟩
theorem ok_arith {f : Addr} {fd : FuncData} (F : Fun K "_law_arithmetic" "_law_arithmetic" s__law_arithmetic f fd) (M : Mg mg) (c__law_bounded : Cl P w K mg base 1 "_law_bounded" sp_bnd) : FnOk P w K mg base CX0 2 f fd ["word", "first", "second"] sp_arith := by
  refine F.ok sc__law_arithmetic (fun vs H Q E h => ?_) (fun cdv A outer s H vs Q E hr h => ?_)
  · obtain ⟨o, v, u, _, rfl, _⟩ := h
    rfl
  · obtain ⟨o, v, u, ho, rfl, hv, hu, q⟩ := h
    refine ⟨_, (pss_cons (ps_if (PW.pt (pw_or (pt_not (pt_val (pe_callB (isiK K) (by rfl) M.isinstance (by decide +kernel) (pa_cons (pv 1) (pa_cons (pe_bltn (v := .ty "int") (by rfl) M.int (by decide +kernel) rfl) pa_nil))))) (pw_or1 (pt_not (pt_val (pe_callB (isiK K) (by rfl) M.isinstance (by decide +kernel) (pa_cons (pv 2) (pa_cons (pe_bltn (v := .ty "int") (by rfl) M.int (by decide +kernel) rfl) pa_nil)))))))) (pss_one (ps_ret pe_non)) pss_nil)
      (pss_cons (ps_if (pt_cmpR op_eq (pv 0) pe_str (nomark _)) (pss_one (ps_ret (pe_u c__law_bounded hr (by first | decide | omega) (by rfl) (pa_cons (pe_op op_add (pv 1) (pv 2)) pa_nil)))) pss_nil)
      (pss_cons (ps_if (pt_cmpR op_eq (pv 0) pe_str (nomark _)) (pss_one (ps_ret (pe_u c__law_bounded hr (by first | decide | omega) (by rfl) (pa_cons (pe_op op_sub (pv 1) (pv 2)) pa_nil)))) pss_nil)
      (pss_cons (ps_if (pt_cmpR op_eq (pv 0) pe_str (nomark _)) (pss_one (ps_ret (pe_u c__law_bounded hr (by first | decide | omega) (by rfl) (pa_cons (pe_op op_mul (pv 1) (pv 2)) pa_nil)))) pss_nil)
      (pss_cons (ps_if (pt_cmpR op_lt (pv 2) pe_int (nomark _)) (pss_one (ps_ret pe_non)) pss_nil)
      (pss_cons (ps_set (i := 3) sc__law_arithmetic.nd rfl (.inl rfl) (pe_op op_fdivW (pv 1) (pv 2)))
      (pss_one (ps_ret (pe_ifExp (pt_cmpR op_eq (pv 0) pe_str (nomark _)) (pv 3) (pe_op op_sub (pv 1) (pe_op op_mul (pv 2) (pv 3)))))))))))), ?_⟩
    have no : bothI v u = false → o.f v u = .n := fun h => by
      cases o with
      | add => exact ar_no h
      | sub => exact ar_no h
      | mul => exact ar_no h
      | div => exact ar_no h
      | rem => exact ar_no h
      | _ => cases ho
    refine ⟨_, rfl, _, _, _, _, _, rfl, .ty _, v.ty, kit_ty v.kI, _, rfl, ?_⟩
    cases e1 : v.isI with
    | false =>
      rw [no (by unfold bothI; rw [e1]; rfl)] at q
      exact iteT (iteT q)
    | true =>
      refine iteF ⟨_, rfl, _, _, _, _, _, rfl, .ty _, u.ty, kit_ty u.kI, _, rfl, ?_⟩
      cases e2 : u.isI with
      | false =>
        rw [no (by unfold bothI; rw [e1, e2]; rfl)] at q
        exact iteT q
      | true =>
        obtain ⟨a, rfl⟩ := Vl.of_isI e1
        obtain ⟨b, rfl⟩ := Vl.of_isI e2
        refine iteF ⟨_, rfl, rfl, _, rfl, ?_⟩
        cases o with
        | add =>
          rw [show decide (V.str (Str.ofString Wb.add.s) = V.str "add") = true from weq "add"]
          exact iteT ⟨_, rfl, _, rfl, _, _, rfl, rfl, _, rfl, q⟩
        | sub =>
          rw [show decide (V.str (Str.ofString Wb.sub.s) = V.str "add") = false from wne "subtract" "add" (by decide +kernel)]
          refine iteF ⟨_, rfl, rfl, _, rfl, ?_⟩
          rw [show decide (V.str (Str.ofString Wb.sub.s) = V.str "subtract") = true from weq "subtract"]
          exact iteT ⟨_, rfl, _, rfl, _, _, rfl, rfl, _, rfl, q⟩
        | mul =>
          have hb := bd_abs hv
          rw [show decide (V.str (Str.ofString Wb.mul.s) = V.str "add") = false from wne "multiply" "add" (by decide +kernel)]
          refine iteF ⟨_, rfl, rfl, _, rfl, ?_⟩
          rw [show decide (V.str (Str.ofString Wb.mul.s) = V.str "subtract") = false from wne "multiply" "subtract" (by decide +kernel)]
          refine iteF ⟨_, rfl, rfl, _, rfl, ?_⟩
          rw [show decide (V.str (Str.ofString Wb.mul.s) = V.str "multiply") = true from weq "multiply"]
          exact iteT ⟨_, rfl, _, rfl, _, _, rfl, rfl, .inl ⟨by omega, by omega⟩, _, rfl, q⟩
        | div =>
          rw [show decide (V.str (Str.ofString Wb.div.s) = V.str "add") = false from wne "divide" "add" (by decide +kernel)]
          refine iteF ⟨_, rfl, rfl, _, rfl, ?_⟩
          rw [show decide (V.str (Str.ofString Wb.div.s) = V.str "subtract") = false from wne "divide" "subtract" (by decide +kernel)]
          refine iteF ⟨_, rfl, rfl, _, rfl, ?_⟩
          rw [show decide (V.str (Str.ofString Wb.div.s) = V.str "multiply") = false from wne "divide" "multiply" (by decide +kernel)]
          refine iteF ⟨_, rfl, _, _, rfl, rfl, _, rfl, ?_⟩
          have q : Q (if b < 1 then Vl.n else bnd (a / b)).v H := q
          by_cases h1 : b < 1
          · rw [if_pos h1] at q
            rw [decide_eq_true h1]
            exact iteT q
          · rw [if_neg h1, div_bnd hv h1] at q
            rw [decide_eq_false h1]
            have := bd_abs hu
            refine iteF ⟨_, rfl, _, rfl, _, _, rfl, rfl, wide_div (b := 60) (by omega) (by omega) (by decide) (by decide), ?_⟩
            refine ⟨_, rfl, rfl, _, rfl, ?_⟩
            rw [show decide (V.str (Str.ofString Wb.div.s) = V.str "divide") = true from weq "divide"]
            exact iteT ⟨_, rfl, q⟩
        | rem =>
          rw [show decide (V.str (Str.ofString Wb.rem.s) = V.str "add") = false from wne "remainder" "add" (by decide +kernel)]
          refine iteF ⟨_, rfl, rfl, _, rfl, ?_⟩
          rw [show decide (V.str (Str.ofString Wb.rem.s) = V.str "subtract") = false from wne "remainder" "subtract" (by decide +kernel)]
          refine iteF ⟨_, rfl, rfl, _, rfl, ?_⟩
          rw [show decide (V.str (Str.ofString Wb.rem.s) = V.str "multiply") = false from wne "remainder" "multiply" (by decide +kernel)]
          refine iteF ⟨_, rfl, _, _, rfl, rfl, _, rfl, ?_⟩
          have q : Q (if b < 1 then Vl.n else bnd (a % b)).v H := q
          by_cases h1 : b < 1
          · rw [if_pos h1] at q
            rw [decide_eq_true h1]
            exact iteT q
          · rw [if_neg h1, rem_bnd hu h1] at q
            rw [decide_eq_false h1]
            have := bd_abs hu
            refine iteF ⟨_, rfl, _, rfl, _, _, rfl, rfl, wide_div (b := 60) (by omega) (by omega) (by decide) (by decide), ?_⟩
            refine ⟨_, rfl, rfl, _, rfl, ?_⟩
            rw [show decide (V.str (Str.ofString Wb.rem.s) = V.str "divide") = false from wne "remainder" "divide" (by decide +kernel)]
            exact iteF ⟨_, rfl, _, rfl, _, rfl, _, _, rfl, rfl, .inl ⟨by omega, by omega⟩, _, _, rfl, rfl, q⟩
        | les => cases ho
        | equ => cases ho
        | and => cases ho
        | or => cases ho
        | sta => cases ho
theorem ok_logic {f : Addr} {fd : FuncData} (F : Fun K "_law_logic" "_law_logic" s__law_logic f fd) (M : Mg mg) (c__law_known : Cl P w K mg base 1 "_law_known" sp_known) : FnOk P w K mg base CX0 2 f fd ["word", "first", "second"] (sp_logic K) := by
  refine F.ok sc__law_logic (fun vs H Q E h => ?_) (fun cdv A outer s H vs Q E hr h => ?_)
  · obtain ⟨o, v, u, _, rfl, _⟩ := h
    rfl
  · obtain ⟨o, v, u, ho, rfl, q⟩ := h
    obtain ⟨D, hD, hl⟩ : ∃ D, decide (V.str (Str.ofString o.s) = V.str "or") = D ∧ o.f v u = lg D v.kn u.kn := by
      rcases ho with rfl | rfl
      · exact ⟨false, wne "and" "or" (by decide +kernel), lg_and v u⟩
      · exact ⟨true, weq "or", lg_or v u⟩
    rw [hl] at q
    refine ⟨_, (pss_cons (ps_set (i := 3) sc__law_logic.nd rfl (.inl rfl) (pe_cmpR op_eq (pv 0) pe_str (nomark _)))
      (pss_cons (ps_set (i := 4) sc__law_logic.nd rfl (.inl rfl) (pe_u c__law_known hr (by first | decide | omega) (by rfl) (pa_cons (pv 1) pa_nil)))
      (pss_cons (ps_set (i := 5) sc__law_logic.nd rfl (.inl rfl) (pe_u c__law_known hr (by first | decide | omega) (by rfl) (pa_cons (pv 2) pa_nil)))
      (pss_cons (ps_if (PW.pt (pw_or (pt_cmpR op_eq (pv 4) (pv 3) (nomark _)) (pw_or1 (pt_cmpR op_eq (pv 5) (pv 3) (nomark _))))) (pss_one (ps_ret (pe_callTy call_int1 (by rfl) M.int (by decide +kernel) (pa_cons (pv 3) pa_nil)))) pss_nil)
      (pss_one (ps_ret (pe_ifExp (PW.pt (pw_or (pt_cmpR op_isN (pv 4) pe_non (nomark _)) (pw_or1 (pt_cmpR op_isN (pv 5) pe_non (nomark _))))) pe_non (pe_callTy call_int1 (by rfl) M.int (by decide +kernel) (pa_cons (pe_not (pv 3)) pa_nil))))))))), ?_⟩
    refine ⟨_, rfl, rfl, ?_⟩
    rw [hD]
    refine ⟨_, rfl, v, rfl, _, rfl, u, rfl, ?_⟩
    unfold lg at q
    refine ⟨_, rfl, _, rfl, by rcases v.kn with _ | _ | _ <;> cases D <;> rfl, _, rfl, ?_⟩
    rw [oV_eq]
    by_cases h1 : v.kn = some D
    · rw [if_pos h1] at q
      rw [decide_eq_true h1]
      exact iteT (iteT ⟨_, rfl, .inr ⟨D, rfl, q⟩⟩)
    · rw [if_neg h1] at q
      rw [decide_eq_false h1]
      refine iteF ⟨_, rfl, _, rfl, by rcases u.kn with _ | _ | _ <;> cases D <;> rfl, _, rfl, ?_⟩
      rw [oV_eq]
      by_cases h2 : u.kn = some D
      · rw [if_pos h2] at q
        rw [decide_eq_true h2]
        exact iteT ⟨_, rfl, .inr ⟨D, rfl, q⟩⟩
      · rw [if_neg h2] at q
        rw [decide_eq_false h2]
        refine iteF ⟨_, rfl, rfl, _, rfl, ?_⟩
        rw [oV_no]
        by_cases h3 : v.kn = none
        · rw [if_pos h3] at q
          rw [decide_eq_true h3]
          exact iteT (iteT q)
        · rw [if_neg h3] at q
          rw [decide_eq_false h3]
          refine iteF ⟨_, rfl, rfl, _, rfl, ?_⟩
          rw [oV_no]
          by_cases h4 : u.kn = none
          · rw [if_pos h4] at q
            rw [decide_eq_true h4]
            exact iteT q
          · rw [if_neg h4] at q
            rw [decide_eq_false h4]
            exact iteF ⟨_, rfl, D, rfl, .inr ⟨!D, rfl, q⟩⟩
theorem ok_single {f : Addr} {fd : FuncData} (F : Fun K "_law_single" "_law_single" s__law_single f fd) (M : Mg mg) (c__law_known : Cl P w K mg base 1 "_law_known" sp_known) (c__law_arithmetic : Cl P w K mg base 2 "_law_arithmetic" sp_arith) : FnOk P w K mg base CX0 3 f fd ["word", "value"] sp_single := by
  refine F.ok sc__law_single (fun vs H Q E h => ?_) (fun cdv A outer s H vs Q E hr h => ?_)
  · obtain ⟨o, v, rfl, _⟩ := h
    rfl
  · obtain ⟨o, v, rfl, hv, q⟩ := h
    refine ⟨_, (pss_cons (ps_if (pt_cmpR op_eq (pv 0) pe_str (nomark _)) (pss_one (ps_ret (pe_u c__law_arithmetic hr (by first | decide | omega) (by rfl) (pa_cons pe_str (pa_cons pe_int (pa_cons (pv 1) pa_nil)))))) pss_nil)
      (pss_cons (ps_if (pt_cmpR op_eq (pv 0) pe_str (nomark _)) (pss_one (ps_ret (pe_callTy call_int1 (by rfl) M.int (by decide +kernel) (pa_cons (pe_cmpR op_isN (pv 1) pe_non (nomark _)) pa_nil)))) pss_nil)
      (pss_cons (ps_if (pt_cmpR op_eq (pv 0) pe_str (nomark _)) (pss_one (ps_ret (pe_ifExp (pt_val (pe_callB (isiK K) (by rfl) M.isinstance (by decide +kernel) (pa_cons (pv 1) (pa_cons (pe_bltn (v := .ty "str") (by rfl) M.str (by decide +kernel) rfl) pa_nil)))) (pe_callB call_len_str (by rfl) M.len PySem.boot_len (pa_cons (pv 1) pa_nil)) pe_non))) pss_nil)
      (pss_one (ps_ret (pe_ifExp (pt_cmpR op_isN (pe_u c__law_known hr (by first | decide | omega) (by rfl) (pa_cons (pv 1) pa_nil)) pe_non (nomark _)) pe_non (pe_callTy call_int1 (by rfl) M.int (by decide +kernel) (pa_cons (pe_not (pe_u c__law_known hr (by first | decide | omega) (by rfl) (pa_cons (pv 1) pa_nil))) pa_nil)))))))), ?_⟩
    refine ⟨_, rfl, rfl, _, rfl, ?_⟩
    cases o with
    | neg =>
      rw [show decide (V.str (Str.ofString Wu.neg.s) = V.str "negate") = true from weq "negate"]
      refine iteT ⟨_, rfl, .sub, .i 0, v, rfl, rfl, by constructor <;> decide, hv, ?_⟩
      have e : Wb.sub.f (.i 0) v = Wu.neg.f v := by
        cases v with
        | n => rfl
        | s l => rfl
        | i k =>
          show bnd (0 - k) = bnd (-k)
          rw [Int.zero_sub]
      rw [e]
      exact q
    | mis =>
      rw [show decide (V.str (Str.ofString Wu.mis.s) = V.str "negate") = false from wne "missing" "negate" (by decide +kernel)]
      refine iteF ⟨_, rfl, rfl, _, rfl, ?_⟩
      rw [show decide (V.str (Str.ofString Wu.mis.s) = V.str "missing") = true from weq "missing"]
      refine iteT ⟨_, rfl, rfl, .inr ⟨_, rfl, ?_⟩⟩
      rw [v.eN]
      exact q
    | len =>
      rw [show decide (V.str (Str.ofString Wu.len.s) = V.str "negate") = false from wne "length" "negate" (by decide +kernel)]
      refine iteF ⟨_, rfl, rfl, _, rfl, ?_⟩
      rw [show decide (V.str (Str.ofString Wu.len.s) = V.str "missing") = false from wne "length" "missing" (by decide +kernel)]
      refine iteF ⟨_, rfl, rfl, _, rfl, ?_⟩
      rw [show decide (V.str (Str.ofString Wu.len.s) = V.str "length") = true from weq "length"]
      refine iteT ⟨_, rfl, _, _, _, _, _, rfl, .ty _, v.ty, kit_ty v.kS, _, rfl, ?_⟩
      cases v with
      | n => exact iteF q
      | i k => exact iteF q
      | s l =>
        have hl : l.length = 1 := by rcases hv with rfl | rfl <;> rfl
        refine iteT ⟨_, rfl, _, rfl, by rw [S_len', hl]; decide, ?_⟩
        rw [S_len']
        exact q
    | not =>
      rw [show decide (V.str (Str.ofString Wu.not.s) = V.str "negate") = false from wne "not" "negate" (by decide +kernel)]
      refine iteF ⟨_, rfl, rfl, _, rfl, ?_⟩
      rw [show decide (V.str (Str.ofString Wu.not.s) = V.str "missing") = false from wne "not" "missing" (by decide +kernel)]
      refine iteF ⟨_, rfl, rfl, _, rfl, ?_⟩
      rw [show decide (V.str (Str.ofString Wu.not.s) = V.str "length") = false from wne "not" "length" (by decide +kernel)]
      refine iteF ⟨_, rfl, v, rfl, rfl, _, rfl, ?_⟩
      rw [oV_no]
      have q : Q (fNot v).v H := q
      unfold fNot at q
      rw [kn_fa, kn_tr] at q
      generalize hx : v.kn = x at q
      rcases x with _ | b
      · exact iteT q
      · refine iteF ⟨_, rfl, v, rfl, b, by rw [hx]; rfl, .inr ⟨!b, rfl, ?_⟩⟩
        cases b <;> exact q
end

section
variable {P : Program} {w : World} {K : PySem.W.Frag} {mg : Str → Option Value} {base : Heap}
/-- what the law's evaluation asks of a tree's word -/
theorem wu_ls (w : Wu) : (Str.ofString w.s == Str.ofString "choose") = false := by cases w <;> decide +kernel
theorem wb_ls (w : Wb) : (Str.ofString w.s == Str.ofString "choose") = false := by cases w <;> decide +kernel
theorem wb_sta (w : Wb) : w = .sta ∨ (Str.ofString w.s == Str.ofString "starts") = false := by cases w <;> first | exact .inl rfl | exact .inr (by decide +kernel)
theorem wb_lg (w : Wb) : ((w = .and ∨ w = .or) ∧ inV (.str (Str.ofString w.s)) [.str "and", .str "or"] = true) ∨ inV (.str (Str.ofString w.s)) [.str "and", .str "or"] = false := by
  cases w <;> first | exact .inl ⟨.inl rfl, by decide +kernel⟩ | exact .inl ⟨.inr rfl, by decide +kernel⟩ | exact .inr (by decide +kernel)
theorem wb_cm (w : Wb) : (w = .les ∧ inV (.str (Str.ofString w.s)) [.str "less", .str "equal"] = true) ∨ (w = .equ ∧ inV (.str (Str.ofString w.s)) [.str "less", .str "equal"] = true) ∨ (inV (.str (Str.ofString w.s)) [.str "less", .str "equal"] = false) := by
  cases w <;> first | exact .inl ⟨rfl, by decide +kernel⟩ | exact .inr (.inl ⟨rfl, by decide +kernel⟩) | exact .inr (.inr (by decide +kernel))
theorem wb_ar (w : Wb) (h1 : inV (.str (Str.ofString w.s)) [.str "and", .str "or"] = false) (h2 : (Str.ofString w.s == Str.ofString "starts") = false) (h3 : inV (.str (Str.ofString w.s)) [.str "less", .str "equal"] = false) : w.isA = true := by
  cases w <;> first | rfl | exact absurd h1 (by decide +kernel) | exact absurd h2 (by decide +kernel) | exact absurd h3 (by decide +kernel)
theorem cut_ab {l m : List Nat} (hl : l = [97] ∨ l = [98]) (hm : m = [97] ∨ m = [98]) : decide (V.str (cutS ⟨l.toArray⟩ none (some (((⟨m.toArray⟩ : Str).length : Nat) : Int))) = V.str ⟨m.toArray⟩) = m.isPrefixOf l := by
  rcases hl with rfl | rfl <;> rcases hm with rfl | rfl <;> decide +kernel
theorem ok_due (n : Nat) {f : Addr} {fd : FuncData} (F : Fun K "_law_due" "_law_due" s__law_due f fd) (M : Mg mg) (c__law_known : Cl P w K mg base 1 "_law_known" sp_known) (c__law_key : Cl P w K mg base 1 "_law_key" (sp_lkey K)) (c__law_arithmetic : Cl P w K mg base 2 "_law_arithmetic" sp_arith) (c__law_logic : Cl P w K mg base 2 "_law_logic" (sp_logic K)) (c__law_single : Cl P w K mg base 3 "_law_single" sp_single)
    (c__law_due : Cl P w K mg base (n + 3) "_law_due" (sp_eval K n)) : FnOk P w K mg base CX0 (n + 4) f fd ["tree", "row"] (sp_eval K (n + 1)) := by
  refine F.ok sc__law_due (fun vs H Q E h => ?_) (fun cdv A outer s H vs Q E hr h => ?_)
  · obtain ⟨p, a, e, r, rfl, _⟩ := h
    rfl
  · obtain ⟨p, a, e, r, rfl, dp, hS, ok, hr0, ht, q⟩ := h
    refine ⟨_, (pss_cons (ps_set (i := 2) sc__law_due.nd rfl (.inl rfl) (pe_ix (ix_tupK K) (pv 0) pe_int (fun _ _ => rfl)))
      (pss_cons (ps_if (pt_cmpR op_eq (pv 2) pe_str (nomark _)) (pss_one (ps_ret (pe_ix (ix_tupK K) (pv 1) (pe_ix (ix_tupK K) (pv 0) pe_int (fun _ _ => rfl)) (fun _ _ => rfl)))) pss_nil)
      (pss_cons (ps_if (pt_cmpR op_eq (pv 2) pe_str (nomark _)) (pss_one (ps_ret (pe_ix (ix_tupK K) (pv 0) pe_int (fun _ _ => rfl)))) pss_nil)
      (pss_cons (ps_if (pt_cmpR op_eq (pv 2) pe_str (nomark _)) (pss_one (ps_ret (pe_u c__law_due hr (by first | decide | omega) (by rfl) (pa_cons (pe_ifExp (pt_cmpR op_isO (pe_u c__law_known hr (by first | decide | omega) (by rfl) (pa_cons (pe_u c__law_due hr (by first | decide | omega) (by rfl) (pa_cons (pe_ix (ix_tupK K) (pv 0) pe_int (fun _ _ => rfl)) (pa_cons (pv 1) pa_nil))) pa_nil)) pe_bl (nomark _)) (pe_ix (ix_tupK K) (pv 0) pe_int (fun _ _ => rfl)) (pe_ix (ix_tupK K) (pv 0) pe_int (fun _ _ => rfl))) (pa_cons (pv 1) pa_nil))))) pss_nil)
      (pss_cons (ps_set (i := 3) sc__law_due.nd rfl (.inl rfl) (pe_u c__law_due hr (by first | decide | omega) (by rfl) (pa_cons (pe_ix (ix_tupK K) (pv 0) pe_int (fun _ _ => rfl)) (pa_cons (pv 1) pa_nil))))
      (pss_cons (ps_if (pt_cmpR op_eq (pe_callB (len_seqK K) (by rfl) M.len PySem.boot_len (pa_cons (pv 0) pa_nil)) pe_int (nomark _)) (pss_one (ps_ret (pe_u c__law_single hr (by first | decide | omega) (by rfl) (pa_cons (pv 2) (pa_cons (pv 3) pa_nil))))) pss_nil)
      (pss_cons (ps_set (i := 4) sc__law_due.nd rfl (.inl rfl) (pe_u c__law_due hr (by first | decide | omega) (by rfl) (pa_cons (pe_ix (ix_tupK K) (pv 0) pe_int (fun _ _ => rfl)) (pa_cons (pv 1) pa_nil))))
      (pss_cons (ps_if (pt_cmpR (inK K) (pv 2) (pe_tup (pa_cons pe_str (pa_cons pe_str pa_nil))) (by rfl)) (pss_one (ps_ret (pe_u c__law_logic hr (by first | decide | omega) (by rfl) (pa_cons (pv 2) (pa_cons (pv 3) (pa_cons (pv 4) pa_nil)))))) pss_nil)
      (pss_cons (ps_if (pt_cmpR op_eq (pv 2) pe_str (nomark _)) (pss_cons (ps_if (PW.pt (pw_or (pt_not (pt_val (pe_callB (isiK K) (by rfl) M.isinstance (by decide +kernel) (pa_cons (pv 3) (pa_cons (pe_bltn (v := .ty "str") (by rfl) M.str (by decide +kernel) rfl) pa_nil))))) (pw_or1 (pt_not (pt_val (pe_callB (isiK K) (by rfl) M.isinstance (by decide +kernel) (pa_cons (pv 4) (pa_cons (pe_bltn (v := .ty "str") (by rfl) M.str (by decide +kernel) rfl) pa_nil)))))))) (pss_one (ps_ret pe_non)) pss_nil)
      (pss_one (ps_ret (pe_callTy call_int1 (by rfl) M.int (by decide +kernel) (pa_cons (pe_cmpR op_eq (pe_slice sl_str (pv 3) po_none (po_some (pe_callB call_len_str (by rfl) M.len PySem.boot_len (pa_cons (pv 4) pa_nil)))) (pv 4) (nomark _)) pa_nil))))) pss_nil)
      (pss_cons (ps_if (pt_cmpR (notInK K) (pv 2) (pe_tup (pa_cons pe_str (pa_cons pe_str pa_nil))) (by rfl)) (pss_one (ps_ret (pe_u c__law_arithmetic hr (by first | decide | omega) (by rfl) (pa_cons (pv 2) (pa_cons (pv 3) (pa_cons (pv 4) pa_nil)))))) pss_nil)
      (pss_cons (ps_if (PW.pt (pw_or (pt_cmpR op_isN (pv 3) pe_non (nomark _)) (pw_or1 (pt_cmpR op_isN (pv 4) pe_non (nomark _))))) (pss_one (ps_ret pe_non)) pss_nil)
      (pss_one (ps_ret (pe_callTy call_int1 (by rfl) M.int (by decide +kernel) (pa_cons (pe_ifExp (pt_cmpR op_eq (pv 2) pe_str (nomark _)) (pe_cmpR (ltDK K hr.units) (pe_u c__law_key hr (by first | decide | omega) (by rfl) (pa_cons (pv 3) pa_nil)) (pe_u c__law_key hr (by first | decide | omega) (by rfl) (pa_cons (pv 4) pa_nil)) (nomark _)) (pe_cmpR (eqDK K hr.units) (pe_u c__law_key hr (by first | decide | omega) (by rfl) (pa_cons (pv 3) pa_nil)) (pe_u c__law_key hr (by first | decide | omega) (by rfl) (pa_cons (pv 4) pa_nil)) (nomark _))) pa_nil))))))))))))))), ?_⟩
    cases e with
    | col i =>
      have ok : i < r.length := ok
      obtain ⟨b, xs, rfl, hb, hx⟩ := dp_tup dp
      obtain ⟨u, rfl, hu⟩ := dp_two hx
      cases hu
      refine ⟨_, rfl, b, _, _, _, rfl, rfl, hb, atI_nat (j := 0) rfl, ?_⟩
      refine ⟨_, rfl, rfl, _, rfl, ?_⟩
      rw [weq]
      refine iteT ⟨_, rfl, _, rfl, b, _, _, _, rfl, rfl, hb, atI_nat (j := 1) rfl, a, _, _, (r[i]).v, rfl, rfl, hS, atI_nat (by rw [List.getElem?_map, List.getElem?_eq_getElem ok]; rfl), ?_⟩
      have q := q H (.refl H)
      have e2 : (Ep.col i).ev r = r[i] := by
        show r.getD i .n = _
        rw [List.getD_eq_getElem?_getD, List.getElem?_eq_getElem ok]
        rfl
      rw [e2] at q
      exact q
    | con v =>
      obtain ⟨b, xs, rfl, hb, hx⟩ := dp_tup dp
      obtain ⟨u, rfl, hu⟩ := dp_two hx
      have eu : u = v.v := by
        cases v with
        | n => cases hu; rfl
        | i k => cases hu; rfl
        | s l => cases hu; rfl
      subst eu
      refine ⟨_, rfl, b, _, _, _, rfl, rfl, hb, atI_nat (j := 0) rfl, ?_⟩
      refine ⟨_, rfl, rfl, _, rfl, ?_⟩
      rw [wne "constant" "column" (by decide +kernel)]
      refine iteF ⟨_, rfl, rfl, _, rfl, ?_⟩
      rw [weq]
      exact iteT ⟨_, rfl, b, _, _, _, rfl, rfl, hb, atI_nat (j := 1) rfl, q H (.refl H)⟩
    | ch c x y =>
      obtain ⟨b, xs, rfl, hb, hx⟩ := dp_tup dp
      obtain ⟨u1, u2, u3, rfl, d1, d2, d3⟩ : ∃ u1 u2 u3, xs = [.str "choose", u1, u2, u3] ∧ Dp K H u1 c.d ∧ Dp K H u2 x.d ∧ Dp K H u3 y.d := by
        cases hx with
        | cons h1 h2 =>
          cases h1
          cases h2 with
          | cons h3 h4 =>
            cases h4 with
            | cons h5 h6 =>
              cases h6 with
              | cons h7 h8 =>
                cases h8
                exact ⟨_, _, _, rfl, h3, h5, h7⟩
      have hh : (Ep.ch c x y).ht = max c.ht (max x.ht y.ht) + 1 := rfl
      refine ⟨_, rfl, b, _, _, _, rfl, rfl, hb, atI_nat (j := 0) rfl, ?_⟩
      refine ⟨_, rfl, rfl, _, rfl, ?_⟩
      rw [wne "choose" "column" (by decide +kernel)]
      refine iteF ⟨_, rfl, rfl, _, rfl, ?_⟩
      rw [wne "choose" "constant" (by decide +kernel)]
      refine iteF ⟨_, rfl, rfl, _, rfl, ?_⟩
      rw [weq]
      refine iteT ?_
      refine ⟨_, rfl, b, _, _, _, rfl, rfl, hb, atI_nat (j := 1) rfl, _, rfl, u1, a, c, r, rfl, d1, hS, ok.1, hr0, by omega, fun H1 s1 => ?_⟩
      refine ⟨c.ev r, rfl, (c.ev r).kn, true, rfl, rfl, _, rfl, ?_⟩
      have q : ∀ H', Same H H' → Q (if (c.ev r).tr = true then x.ev r else y.ev r).v H' := q
      have hb1 := SqT.ext s1 hb
      rw [← kn_tr]
      cases e : (c.ev r).tr with
      | true =>
        rw [if_pos e] at q
        exact iteT ⟨_, rfl, b, _, _, _, rfl, rfl, hb1, atI_nat (j := 2) rfl, _, rfl, u2, a, x, r, rfl, Dp.ext s1 _ _ d2, SqT.ext s1 hS, ok.2.1, hr0, by omega, fun H2 s2 => q H2 (s1.trans s2)⟩
      | false =>
        rw [if_neg (by rw [e]; exact Bool.false_ne_true)] at q
        exact iteF ⟨_, rfl, b, _, _, _, rfl, rfl, hb1, atI_nat (j := 3) rfl, _, rfl, u3, a, y, r, rfl, Dp.ext s1 _ _ d3, SqT.ext s1 hS, ok.2.2, hr0, by omega, fun H2 s2 => q H2 (s1.trans s2)⟩
    | un o x =>
      obtain ⟨b, xs, rfl, hb, hx⟩ := dp_tup dp
      obtain ⟨u, rfl, hu⟩ := dp_two hx
      have hh : (Ep.un o x).ht = x.ht + 1 := rfl
      refine ⟨_, rfl, b, _, _, _, rfl, rfl, hb, atI_nat (j := 0) rfl, ?_⟩
      refine ⟨_, rfl, rfl, _, rfl, ?_⟩
      rw [wne _ _ (wu_lf o).1]
      refine iteF ⟨_, rfl, rfl, _, rfl, ?_⟩
      rw [wne _ _ (wu_lf o).2]
      refine iteF ⟨_, rfl, rfl, _, rfl, ?_⟩
      rw [wne _ _ (wu_ls o)]
      refine iteF ?_
      refine ⟨_, rfl, b, _, _, _, rfl, rfl, hb, atI_nat (j := 1) rfl, _, rfl, u, a, x, r, rfl, hu, hS, ok, hr0, by omega, fun H1 s1 => ?_⟩
      refine ⟨_, rfl, b, _, rfl, .inr (SqT.ext s1 hb), rfl, _, rfl, ?_⟩
      refine iteT ?_
      exact ⟨_, rfl, _, rfl, o, x.ev r, rfl, Ep.ev_ok hr0 ok, q H1 s1⟩
    | bi o x y =>
      obtain ⟨b, xs, rfl, hb, hx⟩ := dp_tup dp
      obtain ⟨u, u2, rfl, hu, hu2⟩ := dp_three hx
      have hh : (Ep.bi o x y).ht = max x.ht y.ht + 1 := rfl
      have vx := Ep.ev_ok hr0 ok.1
      have vy := Ep.ev_ok hr0 ok.2
      refine ⟨_, rfl, b, _, _, _, rfl, rfl, hb, atI_nat (j := 0) rfl, ?_⟩
      refine ⟨_, rfl, rfl, _, rfl, ?_⟩
      rw [wne _ _ (wb_lf o).1]
      refine iteF ⟨_, rfl, rfl, _, rfl, ?_⟩
      rw [wne _ _ (wb_lf o).2]
      refine iteF ⟨_, rfl, rfl, _, rfl, ?_⟩
      rw [wne _ _ (wb_ls o)]
      refine iteF ?_
      refine ⟨_, rfl, b, _, _, _, rfl, rfl, hb, atI_nat (j := 1) rfl, _, rfl, u, a, x, r, rfl, hu, hS, ok.1, hr0, by omega, fun H1 s1 => ?_⟩
      refine ⟨_, rfl, b, _, rfl, .inr (SqT.ext s1 hb), rfl, _, rfl, ?_⟩
      refine iteF ?_
      refine ⟨_, rfl, b, _, _, _, rfl, rfl, SqT.ext s1 hb, atI_nat (j := 2) rfl, _, rfl, u2, a, y, r, rfl, Dp.ext s1 _ _ hu2, SqT.ext s1 hS, ok.2, hr0, by omega, fun H2 s2 => ?_⟩
      have q : ∀ H', Same H H' → Q (o.f (x.ev r) (y.ev r)).v H' := q
      generalize x.ev r = v at vx q
      generalize y.ev r = w' at vy q
      have s12 := s1.trans s2
      refine ⟨_, rfl, by show 2 ≤ sizeLine; decide, fun t1 nt1 => ?_⟩
      have s3 := same_upd nt1 (o := .tup [.str "and", .str "or"])
      have e3 : (upd H2 t1 (.tup [.str "and", .str "or"])) t1 = some (.tup [.str "and", .str "or"]) := upd_same
      generalize upd H2 t1 (.tup [.str "and", .str "or"]) = H3 at s3 e3
      refine ⟨t1, _, rfl, .inr (.of e3), rfl, rfl, _, rfl, ?_⟩
      rw [if_neg Bool.false_ne_true]
      rcases wb_lg o with ⟨ho, hin⟩ | hin
      · rw [hin]
        exact iteT ⟨_, rfl, _, rfl, _, rfl, o, v, w', ho, rfl, q H3 (s12.trans s3)⟩
      · rw [hin]
        refine iteF ⟨_, rfl, rfl, _, rfl, ?_⟩
        rcases wb_sta o with rfl | hst
        · rw [show decide (V.str (Str.ofString Wb.sta.s) = V.str "starts") = true from weq "starts"]
          have q := q H3 (s12.trans s3)
          refine iteT ⟨_, rfl, _, _, _, _, _, rfl, .ty _, v.ty, kit_ty v.kS, _, rfl, ?_⟩
          cases v with
          | n => exact iteT (iteT q)
          | i k => exact iteT (iteT q)
          | s l =>
            refine iteF ⟨_, rfl, _, _, _, _, _, rfl, .ty _, w'.ty, kit_ty w'.kS, _, rfl, ?_⟩
            cases w' with
            | n => exact iteT q
            | i k => exact iteT q
            | s m =>
              refine iteF ?_
              have hl : l.length = 1 := by rcases vx with rfl | rfl <;> rfl
              have hm : m.length = 1 := by rcases vy with rfl | rfl <;> rfl
              refine ⟨_, rfl, _, rfl, _, rfl, by rw [S_len', hm]; decide, _, rfl, _, rfl, by rw [S_len', hl]; decide, _, rfl, rfl, .inr ⟨_, rfl, ?_⟩⟩
              show Q (V.int (if decide (V.str (cutS ⟨l.toArray⟩ none (some (((⟨m.toArray⟩ : Str).length : Nat) : Int))) = V.str ⟨m.toArray⟩) = true then 1 else 0)) H3
              rw [cut_ab vx vy]
              exact q
        · rw [wne _ _ hst]
          refine iteF ⟨_, rfl, by show 2 ≤ sizeLine; decide, fun t2 nt2 => ?_⟩
          have s4 := same_upd nt2 (o := .tup [.str "less", .str "equal"])
          have e4 : (upd H3 t2 (.tup [.str "less", .str "equal"])) t2 = some (.tup [.str "less", .str "equal"]) := upd_same
          generalize upd H3 t2 (.tup [.str "less", .str "equal"]) = H4 at s4 e4
          have s14 := (s12.trans s3).trans s4
          refine ⟨t2, _, rfl, .inr (.of e4), rfl, rfl, _, rfl, ?_⟩
          rw [if_pos rfl]
          rcases wb_cm o with ⟨rfl, hin2⟩ | ⟨rfl, hin2⟩ | hin2
          · rw [hin2]
            have q : ∀ H', Same H H' → Q (cm bf v w').v H' := q
            unfold cm at q
            refine iteF ⟨_, rfl, rfl, _, rfl, ?_⟩
            rw [v.eN]
            cases e1 : v.isN with
            | true =>
              rw [if_pos e1] at q
              exact iteT (iteT (q H4 s14))
            | false =>
              rw [if_neg (by rw [e1]; exact Bool.false_ne_true)] at q
              refine iteF ⟨_, rfl, rfl, _, rfl, ?_⟩
              rw [w'.eN]
              cases e2 : w'.isN with
              | true =>
                rw [if_pos e2] at q
                exact iteT (q H4 s14)
              | false =>
                rw [if_neg (by rw [e2]; exact Bool.false_ne_true)] at q
                refine iteF ⟨_, rfl, rfl, _, rfl, ?_⟩
                rw [show decide (V.str (Str.ofString Wb.les.s) = V.str "less") = true from weq "less"]
                refine iteT ⟨_, rfl, v, rfl, fun H5 p5 s5 d5 => ?_⟩
                refine ⟨_, rfl, w', rfl, fun H6 p6 s6 d6 => ?_⟩
                refine ⟨_, _, Dp.ext s6 _ _ d5, d6, lk_shaped v vx, lk_shaped w' vy, ok_lk v w', .inr ⟨_, rfl, ?_⟩⟩
                rw [lt_lk]
                exact q H6 ((s14.trans s5).trans s6)
          · rw [hin2]
            have q : ∀ H', Same H H' → Q (cm (fun v w => decide (v = w)) v w').v H' := q
            unfold cm at q
            refine iteF ⟨_, rfl, rfl, _, rfl, ?_⟩
            rw [v.eN]
            cases e1 : v.isN with
            | true =>
              rw [if_pos e1] at q
              exact iteT (iteT (q H4 s14))
            | false =>
              rw [if_neg (by rw [e1]; exact Bool.false_ne_true)] at q
              refine iteF ⟨_, rfl, rfl, _, rfl, ?_⟩
              rw [w'.eN]
              cases e2 : w'.isN with
              | true =>
                rw [if_pos e2] at q
                exact iteT (q H4 s14)
              | false =>
                rw [if_neg (by rw [e2]; exact Bool.false_ne_true)] at q
                refine iteF ⟨_, rfl, rfl, _, rfl, ?_⟩
                rw [show decide (V.str (Str.ofString Wb.equ.s) = V.str "less") = false from wne "equal" "less" (by decide +kernel)]
                refine iteF ⟨_, rfl, v, rfl, fun H5 p5 s5 d5 => ?_⟩
                refine ⟨_, rfl, w', rfl, fun H6 p6 s6 d6 => ?_⟩
                refine ⟨_, _, Dp.ext s6 _ _ d5, d6, lk_shaped v vx, lk_shaped w' vy, .inr ⟨_, rfl, ?_⟩⟩
                rw [eqv_lk]
                exact q H6 ((s14.trans s5).trans s6)
          · rw [hin2]
            exact iteT ⟨_, rfl, _, rfl, _, rfl, o, v, w', wb_ar o hin hst hin2, rfl, vx, vy, q H4 s14⟩
theorem cl_due {f : Addr} {fd : FuncData} (F : Fun K "_law_due" "_law_due" s__law_due f fd) (M : Mg mg) (g : mg "_law_due" = some (.ref f)) (b : Binds K fd ["tree", "row"] []) (c__law_known : Cl P w K mg base 1 "_law_known" sp_known) (c__law_key : Cl P w K mg base 1 "_law_key" (sp_lkey K)) (c__law_arithmetic : Cl P w K mg base 2 "_law_arithmetic" sp_arith) (c__law_logic : Cl P w K mg base 2 "_law_logic" (sp_logic K)) (c__law_single : Cl P w K mg base 3 "_law_single" sp_single) :
    ∀ n, Cl P w K mg base (n + 3) "_law_due" (sp_eval K n)
  | 0 => FnOk.cl (F.ok (k := 2) sc__law_due (fun vs H Q E h => by obtain ⟨p, a, e, r, rfl, _⟩ := h; rfl) (fun cdv A outer s H vs Q E hr h => by obtain ⟨p, a, e, r, rfl, _, _, _, _, hm, _⟩ := h; omega)) F g b
  | n + 1 => FnOk.cl (ok_due n F M c__law_known c__law_key c__law_arithmetic c__law_logic c__law_single (cl_due F M g b c__law_known c__law_key c__law_arithmetic c__law_logic c__law_single n)) F g b
end

/-! ### the laws' drawn expressions -/
def WUS : List Wu := [.neg, .not, .mis, .len]
def WBS : List Wb := [.add, .sub, .mul, .div, .rem, .les, .equ, .and, .or, .sta]
def sp_lexp (K : PySem.W.Frag) (n : Nat) : Sp := fun vs H Q _ => ∃ (d c : Addr) (wd m : Nat), vs = [.ref d, .int (wd : Nat), .int (m : Nat)] ∧ m < n ∧ wd ≤ 100 ∧ Dr H d c ∧ ∀ H' p (e : Ep), Fd d H H' → Dr H' d c → e.ok wd → e.ht ≤ m → Dp K H' p e.d → Q p H'
theorem ep_only : ∀ e : Ep, tupOnly e.d = true
  | .col i => rfl
  | .con v => by cases v <;> rfl
  | .un w a => by
    show (true && (tupOnly a.d && true)) = true
    rw [ep_only a]
    rfl
  | .bi w a b => by
    show (true && (tupOnly a.d && (tupOnly b.d && true))) = true
    rw [ep_only a, ep_only b]
    rfl
  | .ch c a b => by
    show (true && (tupOnly c.d && (tupOnly a.d && (tupOnly b.d && true)))) = true
    rw [ep_only a, ep_only b, ep_only c]
    rfl
section
variable {P : Program} {w : World} {K : PySem.W.Frag} {mg : Str → Option Value} {base : Heap}
set_option maxHeartbeats 1000000 in
theorem ok_lexp (n : Nat) {f : Addr} {fd : FuncData} (F : Fun K "_law_expression" "_law_expression" s__law_expression f fd) (M : Mg mg) (c__law_next : Cl P w K mg base 1 "_law_next" sp_next) (c__law_cell : Cl P w K mg base 2 "_law_cell" sp_cell) (c__law_expression : Cl P w K mg base (n + 2) "_law_expression" (sp_lexp K n)) : FnOk P w K mg base CX0 (n + 3) f fd ["draw", "width", "depth"] (sp_lexp K (n + 1)) := by
  refine F.ok sc__law_expression (fun vs H Q E h => ?_) (fun cdv A outer s H vs Q E hr h => ?_)
  · obtain ⟨d, c, wd, m, rfl, _⟩ := h
    rfl
  · obtain ⟨d, c, wd, m, rfl, hm, hwd, dr, q⟩ := h
    refine ⟨_, (pss_cons (ps_set (i := 3) sc__law_expression.nd rfl (.inl rfl) (pe_u c__law_next hr (by first | decide | omega) (by rfl) (pa_cons (pv 0) (pa_cons pe_int pa_nil))))
      (pss_cons (ps_if (PW.pt (pw_or (pt_cmpR op_eq (pv 2) pe_int (nomark _)) (pw_or1 (pt_cmpR op_lt (pv 3) pe_int (nomark _))))) (pss_cons (ps_if (PW.pt (pw_or (pt_cmpR op_eq (pv 1) pe_int (nomark _)) (pw_or1 (pt_cmpR op_eq (pe_u c__law_next hr (by first | decide | omega) (by rfl) (pa_cons (pv 0) (pa_cons pe_int pa_nil))) pe_int (nomark _))))) (pss_one (ps_ret (pe_tup (pa_cons pe_str (pa_cons (pe_u c__law_cell hr (by first | decide | omega) (by rfl) (pa_cons (pv 0) pa_nil)) pa_nil))))) pss_nil)
      (pss_one (ps_ret (pe_tup (pa_cons pe_str (pa_cons (pe_u c__law_next hr (by first | decide | omega) (by rfl) (pa_cons (pv 0) (pa_cons (pv 1) pa_nil))) pa_nil)))))) pss_nil)
      (pss_cons (ps_if (pt_cmpR op_lt (pv 3) pe_int (nomark _)) (pss_cons (ps_set (i := 4) sc__law_expression.nd rfl (.inl rfl) (pe_ix (ix_listK K) (pe_lst (pa_cons pe_str (pa_cons pe_str (pa_cons pe_str (pa_cons pe_str pa_nil))))) (pe_u c__law_next hr (by first | decide | omega) (by rfl) (pa_cons (pv 0) (pa_cons pe_int pa_nil))) (fun _ _ => rfl)))
      (pss_one (ps_ret (pe_tup (pa_cons (pv 4) (pa_cons (pe_u c__law_expression hr (by first | decide | omega) (by rfl) (pa_cons (pv 0) (pa_cons (pv 1) (pa_cons (pe_op op_sub (pv 2) pe_int) pa_nil)))) pa_nil)))))) pss_nil)
      (pss_cons (ps_set (i := 5) sc__law_expression.nd rfl (.inl rfl) (pe_u c__law_expression hr (by first | decide | omega) (by rfl) (pa_cons (pv 0) (pa_cons (pv 1) (pa_cons (pe_op op_sub (pv 2) pe_int) pa_nil)))))
      (pss_cons (ps_set (i := 6) sc__law_expression.nd rfl (.inl rfl) (pe_u c__law_expression hr (by first | decide | omega) (by rfl) (pa_cons (pv 0) (pa_cons (pv 1) (pa_cons (pe_op op_sub (pv 2) pe_int) pa_nil)))))
      (pss_cons (ps_if (pt_cmpR op_eq (pv 3) pe_int (nomark _)) (pss_one (ps_ret (pe_tup (pa_cons pe_str (pa_cons (pe_u c__law_expression hr (by first | decide | omega) (by rfl) (pa_cons (pv 0) (pa_cons (pv 1) (pa_cons (pe_op op_sub (pv 2) pe_int) pa_nil)))) (pa_cons (pv 5) (pa_cons (pv 6) pa_nil))))))) pss_nil)
      (pss_cons (ps_set (i := 7) sc__law_expression.nd rfl (.inl rfl) (pe_lst (pa_cons pe_str (pa_cons pe_str (pa_cons pe_str (pa_cons pe_str (pa_cons pe_str (pa_cons pe_str (pa_cons pe_str (pa_cons pe_str (pa_cons pe_str (pa_cons pe_str pa_nil))))))))))))
      (pss_one (ps_ret (pe_tup (pa_cons (pe_ix (ix_listK K) (pv 7) (pe_u c__law_next hr (by first | decide | omega) (by rfl) (pa_cons (pv 0) (pa_cons pe_int pa_nil))) (fun _ _ => rfl)) (pa_cons (pv 5) (pa_cons (pv 6) pa_nil))))))))))))), ?_⟩
    refine ⟨_, rfl, d, c, 12, rfl, dr, by decide, by decide, fun H1 r f1 _ dr1 r0 r1 => ?_⟩
    have cnst : ∀ (H2 : Hp) (z : List (Option V)), Fd d H H2 → Dr H2 d c → z[0]? = some (some (.ref d)) →
        tTup (tCons (tC (V.str (Str.ofString "constant"))) (tCons (tCall sp_cell [] E0 (tCons (tVar 0) tNil)) tNil)) z H2 Q := fun H2 z f2 dr2 hz => by
      refine ⟨_, hz, d, c, rfl, dr2, fun H3 v f3 dr3 sm => ?_⟩
      refine ⟨by show 2 ≤ sizeLine; decide, fun p np => ?_⟩
      exact q _ _ (.con v) ((f2.trans f3).trans (Fd.new np)) (dr3.ext (same_upd np)) (Vl.sm_ok sm) (Nat.zero_le _) (.tup (.inl (.inl upd_same)) (.cons (.str _) (.cons (v.dp) .nil)))
    by_cases hd : m = 0 ∨ r < 5
    · refine ⟨_, rfl, rfl, _, rfl, ?_⟩
      refine ite2 (fun e => iteT ?_) (fun e => ⟨_, rfl, _, _, rfl, rfl, _, rfl, ?x⟩)
      case' x =>
        rw [decide_eq_true (show r < 5 by
          rcases hd with rfl | h
          · exact absurd (decide_eq_true rfl) e
          · exact h)]
        refine iteT ?_
      all_goals
        refine ⟨_, rfl, rfl, _, rfl, ?_⟩
        refine ite2 (fun e2 => iteT ?_) (fun e2 => ?_)
        · exact cnst _ _ f1 dr1 rfl
        · have hw0 : wd ≠ 0 := fun z => e2 (by subst z; exact decide_eq_true rfl)
          refine ⟨_, rfl, d, c, 3, rfl, dr1, by decide, by decide, fun H2 r2 f2 _ dr2 r20 r21 => ?_⟩
          refine ⟨rfl, _, rfl, ite2 (fun e3 => ?_) (fun e3 => ?_)⟩
          · exact cnst _ _ (f1.trans f2) dr2 rfl
          · refine ⟨_, rfl, _, rfl, d, c, (wd : Nat), rfl, dr2, by omega, by omega, fun H3 r3 f3 _ dr3 r30 r31 => ?_⟩
            obtain ⟨k3, rfl⟩ := Int.eq_ofNat_of_zero_le r30
            refine ⟨by show 2 ≤ sizeLine; decide, fun p np => ?_⟩
            exact q _ _ (.col k3) (((f1.trans f2).trans f3).trans (Fd.new np)) (dr3.ext (same_upd np)) (by show k3 < wd; omega) (Nat.zero_le _) (.tup (.inl (.inl upd_same)) (.cons (.str _) (.cons (.int _) .nil)))
    · obtain ⟨k, rfl⟩ : ∃ k, m = k + 1 := ⟨m - 1, by omega⟩
      have dec : [V.ref d, V.int ((wd : Nat) : Int), V.int (((k + 1 : Nat) : Int) - 1)] = [V.ref d, V.int ((wd : Nat) : Int), V.int (k : Nat)] := by rw [show (((k + 1 : Nat) : Int) - 1) = (k : Nat) by omega]
      refine ⟨_, rfl, rfl, _, rfl, ?_⟩
      rw [show decide (V.int ((k + 1 : Nat) : Int) = V.int 0) = false from decide_eq_false fun z => by have := V.int.inj z; omega]
      refine iteF ⟨_, rfl, _, _, rfl, rfl, _, rfl, ?_⟩
      rw [decide_eq_false (show ¬ r < 5 by omega)]
      refine iteF ⟨_, rfl, _, _, rfl, rfl, _, rfl, ite2 (fun e => ?_) (fun e => ?_)⟩
      · -- one operand
        refine ⟨by show 4 ≤ sizeLine; decide, fun wp nwp => ?_⟩
        have sw := same_upd nwp (o := .lst [V.str "negate", V.str "not", V.str "missing", V.str "length"])
        have ew : (upd H1 wp (.lst [V.str "negate", V.str "not", V.str "missing", V.str "length"])) wp = some (.lst (WUS.map fun w => V.str (Str.ofString w.s))) := upd_same
        have nwd := dr1.nd nwp
        generalize upd H1 wp (.lst [V.str "negate", V.str "not", V.str "missing", V.str "length"]) = H2 at sw ew
        have dr2 := dr1.ext sw
        refine ⟨_, rfl, d, c, 4, rfl, dr2, by decide, by decide, fun H3 r3 f3 _ dr3 r30 r31 => ?_⟩
        obtain ⟨k3, rfl⟩ := Int.eq_ofNat_of_zero_le r30
        have hk3 : k3 < WUS.length := by show k3 < 4; omega
        refine ⟨wp, _, _, V.str (Str.ofString WUS[k3].s), rfl, rfl, .of (f3 _ _ nwd ew), atI_nat (by rw [List.getElem?_map, List.getElem?_eq_getElem hk3]; rfl), ?_⟩
        refine ⟨_, rfl, _, rfl, _, rfl, _, rfl, _, _, rfl, rfl, d, c, wd, k, dec, by omega, hwd, dr3, fun H4 p1 t1 f4 dr4 ok1 ht1 dp1 => ?_⟩
        refine ⟨by show 2 ≤ sizeLine; decide, fun p np => ?_⟩
        exact q _ _ (.un WUS[k3] t1) ((((f1.trans (Fd.of sw)).trans f3).trans f4).trans (Fd.new np)) (dr4.ext (same_upd np)) ok1 (by show t1.ht + 1 ≤ k + 1; omega) (.tup (.inl (.inl upd_same)) (.cons (.str _) (.cons (Dp.ext (same_upd np) _ _ dp1) .nil)))
      · refine ⟨_, rfl, _, rfl, _, rfl, _, _, rfl, rfl, d, c, wd, k, dec, by omega, hwd, dr1, fun H2 p1 t1 f2 dr2 ok1 ht1 dp1 => ?_⟩
        refine ⟨_, rfl, _, rfl, _, rfl, _, _, rfl, rfl, d, c, wd, k, dec, by omega, hwd, dr2, fun H3 p2 t2 f3 dr3 ok2 ht2 dp2 => ?_⟩
        have dp13 := Dp.fd dr2.lst f3 _ _ (ep_only t1) dp1
        have f13 := (f1.trans f2).trans f3
        refine ⟨_, rfl, rfl, _, rfl, ite2 (fun e2 => ?_) (fun e2 => ?_)⟩
        · refine ⟨_, rfl, _, rfl, _, rfl, _, _, rfl, rfl, d, c, wd, k, dec, by omega, hwd, dr3, fun H4 p3 t3 f4 dr4 ok3 ht3 dp3 => ?_⟩
          have dp14 := Dp.fd dr3.lst f4 _ _ (ep_only t1) dp13
          have dp24 := Dp.fd dr3.lst f4 _ _ (ep_only t2) dp2
          refine ⟨_, rfl, _, rfl, by show 4 ≤ sizeLine; decide, fun p np => ?_⟩
          exact q _ _ (.ch t3 t1 t2) ((f13.trans f4).trans (Fd.new np)) (dr4.ext (same_upd np)) ⟨ok3, ok1, ok2⟩ (by show max t3.ht (max t1.ht t2.ht) + 1 ≤ k + 1; omega) (.tup (.inl (.inl upd_same)) (.cons (.str _) (.cons (Dp.ext (same_upd np) _ _ dp3) (.cons (Dp.ext (same_upd np) _ _ dp14) (.cons (Dp.ext (same_upd np) _ _ dp24) .nil)))))
        · refine ⟨by show 10 ≤ sizeLine; decide, fun wp nwp => ?_⟩
          have sw := same_upd nwp (o := .lst [V.str "add", V.str "subtract", V.str "multiply", V.str "divide", V.str "remainder", V.str "less", V.str "equal", V.str "and", V.str "or", V.str "starts"])
          have ew : (upd H3 wp (.lst [V.str "add", V.str "subtract", V.str "multiply", V.str "divide", V.str "remainder", V.str "less", V.str "equal", V.str "and", V.str "or", V.str "starts"])) wp = some (.lst (WBS.map fun w => V.str (Str.ofString w.s))) := upd_same
          have nwd := dr3.nd nwp
          generalize upd H3 wp (.lst [V.str "add", V.str "subtract", V.str "multiply", V.str "divide", V.str "remainder", V.str "less", V.str "equal", V.str "and", V.str "or", V.str "starts"]) = H4 at sw ew
          have dr4 := dr3.ext sw
          refine ⟨_, rfl, _, rfl, d, c, 10, rfl, dr4, by decide, by decide, fun H5 r5 f5 _ dr5 r50 r51 => ?_⟩
          obtain ⟨k5, rfl⟩ := Int.eq_ofNat_of_zero_le r50
          have hk5 : k5 < WBS.length := by show k5 < 10; omega
          have f35 := (Fd.of (d := d) sw).trans f5
          have dp15 := Dp.fd dr3.lst f35 _ _ (ep_only t1) dp13
          have dp25 := Dp.fd dr3.lst f35 _ _ (ep_only t2) dp2
          refine ⟨wp, _, _, V.str (Str.ofString WBS[k5].s), rfl, rfl, .of (f5 _ _ nwd ew), atI_nat (by rw [List.getElem?_map, List.getElem?_eq_getElem hk5]; rfl), ?_⟩
          refine ⟨_, rfl, _, rfl, by show 3 ≤ sizeLine; decide, fun p np => ?_⟩
          exact q _ _ (.bi WBS[k5] t1 t2) ((f13.trans f35).trans (Fd.new np)) (dr5.ext (same_upd np)) ⟨ok1, ok2⟩ (by show max t1.ht t2.ht + 1 ≤ k + 1; omega) (.tup (.inl (.inl upd_same)) (.cons (.str _) (.cons (Dp.ext (same_upd np) _ _ dp15) (.cons (Dp.ext (same_upd np) _ _ dp25) .nil))))
theorem cl_lexp {f : Addr} {fd : FuncData} (F : Fun K "_law_expression" "_law_expression" s__law_expression f fd) (M : Mg mg) (g : mg "_law_expression" = some (.ref f)) (b : Binds K fd ["draw", "width", "depth"] []) (c__law_next : Cl P w K mg base 1 "_law_next" sp_next) (c__law_cell : Cl P w K mg base 2 "_law_cell" sp_cell) : ∀ n, Cl P w K mg base (n + 2) "_law_expression" (sp_lexp K n)
  | 0 => FnOk.cl (F.ok (k := 1) sc__law_expression (fun vs H Q E h => by obtain ⟨d, c, wd, m, rfl, _⟩ := h; rfl) (fun cdv A outer s H vs Q E hr h => by obtain ⟨d, c, wd, m, rfl, hm, _⟩ := h; omega)) F g b
  | n + 1 => FnOk.cl (ok_lexp n F M c__law_next c__law_cell (cl_lexp F M g b c__law_next c__law_cell n)) F g b
end

/-! ### two data that are the same -/
/-- data of some depth, their lists not too long -/
inductive Sh : Nat → PyData → Prop
  | non {n : Nat} : Sh n .none
  | bl {n : Nat} (b : Bool) : Sh n (.bool b)
  | int {n : Nat} (i : Int) : Sh n (.int i)
  | str {n : Nat} (x : Str) : Sh n (.str x)
  | lst {n : Nat} {ds : List PyData} (l : ds.length ≤ 100000) (h : ∀ d ∈ ds, Sh n d) : Sh (n + 1) (.list ds)
  | tup {n : Nat} {ds : List PyData} (l : ds.length ≤ 100000) (h : ∀ d ∈ ds, Sh n d) : Sh (n + 1) (.tuple ds)
def tnm : PyData → String
  | .none => "NoneType"
  | .bool _ => "bool"
  | .int _ => "int"
  | .str _ => "str"
  | .list _ => "list"
  | .tuple _ => "tuple"
  | .dict _ => "dict"
theorem tyD {K : PySem.W.Frag} {H : Hp} {v : V} {d : PyData} (h : Dp K H v d) : TyX K H v (.type (tnm d)) := by
  cases h with
  | non => exact .base .non
  | bl b => exact .base (.bl b)
  | int i => exact .base (.int i)
  | str x => exact .base (.str x)
  | lst hs _ => exact tyL hs
  | tup hs _ => exact tyT hs
theorem k_any2 {K : PySem.W.Frag} {tn c1 c2 : String} {r1 r2 : Bool} (h1 : kitB tn c1 = some r1) (h2 : kitB tn c2 = some r2) : PySem.W.kitAny K (.type tn) [.type c1, .type c2] = some (r1 || r2) :=
  kitAny_cons (kit_ty h1) (fun e => by
    rw [e, Bool.false_or]
    exact kitAny_cons (b := r2) (kit_ty h2) (fun e2 => by rw [e2]; exact kitAny_nil) (fun e2 => e2)) (fun e => by rw [e, Bool.true_or])
theorem rep_bl (n : Nat) : (List.replicate n true).all id = true := by
  rw [List.all_replicate]
  simp
def sp_same (K : PySem.W.Frag) (n : Nat) : Sp := fun vs H Q _ => ∃ (x y : V) (D : PyData) (m : Nat), n = m + 1 ∧ vs = [x, y] ∧ Sh m D ∧ Dp K H x D ∧ Dp K H y D ∧ ∀ H', Same H H' → Q (.bl true) H'
section
variable {P : Program} {w : World} {K : PySem.W.Frag} {mg : Str → Option Value} {base : Heap}
theorem ok_same {f : Addr} {fd : FuncData} {n l : Nat} (F : Fun K "_law_same" "_law_same" s__law_same f fd) (M : Mg mg) (c__law_same : Cl P w K mg base l "_law_same" (sp_same K n)) : FnOk P w K mg base CX0 (l + 1) f fd ["actual", "due"] (sp_same K (n + 1)) := by
  refine F.ok sc__law_same (fun vs H Q E h => ?_) (fun cdv A outer s H vs Q E hr h => ?_)
  · obtain ⟨x, y, D, m, _, rfl, _⟩ := h
    rfl
  · obtain ⟨x, y, D, m, em, rfl, sh, hx, hy, q⟩ := h
    refine ⟨_, (pss_cons (ps_if (pt_val (pe_callB (isiTK K) (by rfl) M.isinstance (by decide +kernel) (pa_cons (pv 1) (pa_cons (pe_tup (pa_cons (pe_bltn (v := .ty "list") (by rfl) M.list (by decide +kernel) rfl) (pa_cons (pe_bltn (v := .ty "tuple") (by rfl) M.tuple (by decide +kernel) rfl) pa_nil))) pa_nil)))) (pss_cons (ps_if (PW.pt (pw_or (pt_cmpR op_ne (pe_callB (isiK K) (by rfl) M.isinstance (by decide +kernel) (pa_cons (pv 1) (pa_cons (pe_bltn (v := .ty "list") (by rfl) M.list (by decide +kernel) rfl) pa_nil))) (pe_callB (isiK K) (by rfl) M.isinstance (by decide +kernel) (pa_cons (pv 0) (pa_cons (pe_bltn (v := .ty "list") (by rfl) M.list (by decide +kernel) rfl) pa_nil))) (nomark _)) (pw_or1 (pt_cmpR op_ne (pe_callB (isiK K) (by rfl) M.isinstance (by decide +kernel) (pa_cons (pv 1) (pa_cons (pe_bltn (v := .ty "tuple") (by rfl) M.tuple (by decide +kernel) rfl) pa_nil))) (pe_callB (isiK K) (by rfl) M.isinstance (by decide +kernel) (pa_cons (pv 0) (pa_cons (pe_bltn (v := .ty "tuple") (by rfl) M.tuple (by decide +kernel) rfl) pa_nil))) (nomark _))))) (pss_one (ps_ret pe_bl)) pss_nil)
      (pss_cons (ps_if (pt_cmpR op_ne (pe_callB (len_seqK K) (by rfl) M.len PySem.boot_len (pa_cons (pv 0) pa_nil)) (pe_callB (len_seqK K) (by rfl) M.len PySem.boot_len (pa_cons (pv 1) pa_nil)) (nomark _)) (pss_one (ps_ret pe_bl)) pss_nil)
      (pss_one (ps_ret (pe_callB (allK K rfl) (by rfl) M.all (by decide +kernel) (pa_cons (pe_lc (own := [("k", 2)]) (g := gName 2) (tt := tYes) rfl sc__law_same.nd (pi_range1 (by rfl) M.range (pa_cons (pe_callB (len_seqK K) (by rfl) M.len PySem.boot_len (pa_cons (pv 1) pa_nil)) pa_nil)) (blkOk_by (N := N__law_same) (sc := defScope s__law_same) (by decide +kernel)) (fun _ _ _ _ _ => (pg_name (i := 2) sc__law_same.nd rfl (.inl rfl))) (fun _ _ _ _ _ => pts_nil) (fun _ _ _ _ _ => (pe_u c__law_same hr (by first | decide | omega) (by rfl) (pa_cons (pe_ix (ix_seqK K) (pv 0) (pv 2) (fun _ _ => rfl)) (pa_cons (pe_ix (ix_seqK K) (pv 1) (pv 2) (fun _ _ => rfl)) pa_nil))))) pa_nil)))))) pss_nil)
      (pss_cons (ps_if (pt_cmpR op_isN (pv 1) pe_non (nomark _)) (pss_one (ps_ret (pe_cmpR op_isN (pv 0) pe_non (nomark _)))) pss_nil)
      (pss_cons (ps_if (pt_cmpR op_ne (pe_callB (isiK K) (by rfl) M.isinstance (by decide +kernel) (pa_cons (pv 1) (pa_cons (pe_bltn (v := .ty "bool") (by rfl) M.bool (by decide +kernel) rfl) pa_nil))) (pe_callB (isiK K) (by rfl) M.isinstance (by decide +kernel) (pa_cons (pv 0) (pa_cons (pe_bltn (v := .ty "bool") (by rfl) M.bool (by decide +kernel) rfl) pa_nil))) (nomark _)) (pss_one (ps_ret pe_bl)) pss_nil)
      (pss_cons (ps_if (pt_val (pe_callB (isiK K) (by rfl) M.isinstance (by decide +kernel) (pa_cons (pv 1) (pa_cons (pe_bltn (v := .ty "str") (by rfl) M.str (by decide +kernel) rfl) pa_nil)))) (pss_one (ps_ret (pe_and (pe_callB (isiK K) (by rfl) M.isinstance (by decide +kernel) (pa_cons (pv 0) (pa_cons (pe_bltn (v := .ty "str") (by rfl) M.str (by decide +kernel) rfl) pa_nil))) (pe_one (pe_cmpR op_eq (pv 0) (pv 1) (nomark _)))))) pss_nil)
      (pss_one (ps_ret (pe_and (pe_callB (isiK K) (by rfl) M.isinstance (by decide +kernel) (pa_cons (pv 0) (pa_cons (pe_bltn (v := .ty "int") (by rfl) M.int (by decide +kernel) rfl) pa_nil))) (pe_one (pe_cmpR op_eq (pv 0) (pv 1) (nomark _)))))))))), ?_⟩
    refine ⟨_, rfl, by show 2 ≤ sizeLine; decide, fun p np => ?_⟩
    have s1 : Same H (upd H p (.tup [.ty "list", .ty "tuple"])) := same_upd np
    have h1 : (upd H p (.tup [.ty "list", .ty "tuple"])) p = some (.tup [.ty "list", .ty "tuple"]) := upd_same
    generalize upd H p (.tup [.ty "list", .ty "tuple"]) = H1 at s1 h1
    have hx1 := Dp.ext s1 D x hx
    have hy1 := Dp.ext s1 D y hy
    have key : (∃ (a b : Addr) (xs ys : List V) (ds : List PyData) (k : Nat) (tn : String) (r1 r2 : Bool), x = .ref a ∧ y = .ref b ∧ (SqL K H1 a xs ∧ SqL K H1 b ys ∨ SqT K H1 a xs ∧ SqT K H1 b ys) ∧ DpAll K H1 xs ds ∧ DpAll K H1 ys ds ∧ ds.length ≤ 100000 ∧ m = k + 1 ∧ (∀ d ∈ ds, Sh k d) ∧
        TyX K H1 x (.type tn) ∧ TyX K H1 y (.type tn) ∧ kitB tn "list" = some r1 ∧ kitB tn "tuple" = some r2 ∧ (r1 || r2) = true) ∨
        (∃ (tn : String), TyX K H1 x (.type tn) ∧ TyX K H1 y (.type tn) ∧ kitB tn "list" = some false ∧ kitB tn "tuple" = some false ∧ (x = .non ∧ y = .non ∨ (∃ b, x = .bl b ∧ y = .bl b ∧ tn = "bool") ∨ (∃ i, x = .int i ∧ y = .int i ∧ tn = "int") ∨ (∃ z, x = .str z ∧ y = .str z ∧ tn = "str"))) := by
      cases sh with
      | non => cases hx1; cases hy1; exact .inr ⟨"NoneType", .base .non, .base .non, by decide +kernel, by decide +kernel, .inl ⟨rfl, rfl⟩⟩
      | bl b => cases hx1; cases hy1; exact .inr ⟨"bool", .base (.bl b), .base (.bl b), by decide +kernel, by decide +kernel, .inr (.inl ⟨b, rfl, rfl, rfl⟩)⟩
      | int i => cases hx1; cases hy1; exact .inr ⟨"int", .base (.int i), .base (.int i), by decide +kernel, by decide +kernel, .inr (.inr (.inl ⟨i, rfl, rfl, rfl⟩))⟩
      | str z => cases hx1; cases hy1; exact .inr ⟨"str", .base (.str z), .base (.str z), by decide +kernel, by decide +kernel, .inr (.inr (.inr ⟨z, rfl, rfl, rfl⟩))⟩
      | lst l h =>
        cases hx1 with
        | lst hs ha =>
          cases hy1 with
          | lst hs' ha' => exact .inl ⟨_, _, _, _, _, _, "list", true, false, rfl, rfl, .inl ⟨hs, hs'⟩, ha, ha', l, rfl, h, tyL hs, tyL hs', by decide +kernel, by decide +kernel, rfl⟩
      | tup l h =>
        cases hx1 with
        | tup hs ha =>
          cases hy1 with
          | tup hs' ha' => exact .inl ⟨_, _, _, _, _, _, "tuple", false, true, rfl, rfl, .inr ⟨hs, hs'⟩, ha, ha', l, rfl, h, tyT hs, tyT hs', by decide +kernel, by decide +kernel, rfl⟩
    rcases key with ⟨a, b, xs, ys, ds, k, tn, r1, r2, rfl, rfl, hq, ha, hb, hl, ek, hk, tx, ty, k1, k2, kr⟩ | ⟨tn, tx, ty, k1, k2, hs⟩
    · -- a list or a tuple
      have ex := DpAll.len ha
      have ey := DpAll.len hb
      have hqa : SqL K H1 a xs ∨ SqT K H1 a xs := hq.elim (fun z => .inl z.1) (fun z => .inr z.1)
      have hqb : SqL K H1 b ys ∨ SqT K H1 b ys := hq.elim (fun z => .inl z.2) (fun z => .inr z.2)
      refine ⟨_, _, _, _, _, _, rfl, h1, .cons (.ty _) (.cons (.ty _) .nil), ty, k_any2 k1 k2, ?_⟩
      refine ⟨_, rfl, ?_⟩
      rw [kr]
      refine iteT ?_
      -- the kinds
      refine ⟨_, rfl, ⟨_, _, _, _, _, rfl, .ty _, ty, kit_ty k1, _, rfl, ⟨_, _, _, _, _, rfl, .ty _, tx, kit_ty k1, rfl, _, rfl, ?_⟩⟩⟩
      rw [decide_eq_true (rfl : V.bl r1 = V.bl r1)]
      refine iteF ?_
      refine ⟨_, rfl, ⟨_, _, _, _, _, rfl, .ty _, ty, kit_ty k2, _, rfl, ⟨_, _, _, _, _, rfl, .ty _, tx, kit_ty k2, rfl, _, rfl, ?_⟩⟩⟩
      rw [decide_eq_true (rfl : V.bl r2 = V.bl r2)]
      refine iteF ?_
      -- the lengths
      refine ⟨_, rfl, a, xs, rfl, hqa, ⟨_, rfl, b, ys, rfl, hqb, rfl, _, rfl, ?_⟩⟩
      rw [ex, ey, decide_eq_true (rfl : V.int (ds.length : Int) = V.int (ds.length : Int))]
      refine iteF ?_
      -- by places
      refine ⟨_, rfl, b, ys, rfl, hqb, _, rfl, by omega, by omega, fun D nD => ?_⟩
      rw [ey]
      refine lc_range (lo := 0) (n := ((ds.length : Nat) : Int).toNat) (fun i Hi => Same H1 Hi ∧ Hi D = some (.lst ((List.replicate i true).map V.bl))) ⟨same_upd nD, upd_same⟩ (fun i Hi hi hp => ?_) (fun Hn hp => ?_)
      · obtain ⟨si, eD⟩ := hp
        have hi2 : i < ds.length := by omega
        obtain ⟨va, hva, da⟩ := DpAll.get (DpAll.ext si ds xs ha) (List.getElem?_eq_getElem hi2)
        obtain ⟨vb, hvb, db⟩ := DpAll.get (DpAll.ext si ds ys hb) (List.getElem?_eq_getElem hi2)
        have ia : rIx K (.ref a) (.int (0 + (i : Int))) Hi = rIx K (.ref a) (.int (0 + (i : Int))) Hi := rfl
        refine ⟨rfl, ?_⟩
        have go : ∀ (c : Addr) (zs : List V) (v : V) (Q : VK), (SqL K H1 c zs ∨ SqT K H1 c zs) → zs[i]? = some v → Q v Hi → rIx K (.ref c) (.int (0 + (i : Int))) Hi Q := fun c zs v Q hz hv hQ => by
          rcases hz with hz | hz
          · exact .inl ⟨c, zs, _, v, rfl, rfl, si.seq hz, at_0 hv, hQ⟩
          · exact .inr (.inl ⟨c, zs, _, v, rfl, rfl, SqT.ext si hz, at_0 hv, hQ⟩)
        refine ⟨_, rfl, _, rfl, go a xs va _ hqa hva ⟨_, rfl, _, rfl, go b ys vb _ hqb hvb ?_⟩⟩
        refine ⟨va, vb, ds[i], k, by omega, rfl, hk _ (List.getElem_mem hi2), da, db, fun H' s' => ?_⟩
        refine ⟨_, s' _ _ eD, ?_, fun b o e => ?_, ?_⟩
        · rw [List.length_map, List.length_replicate]
          exact Nat.lt_of_lt_of_le (m := 100000) (by omega) (by decide)
        · have nb : b ≠ D := ne_of_none e nD
          rw [upd_ne nb]
          exact s' _ _ (si _ _ e)
        · rw [upd_same, List.replicate_succ', List.map_append]
          rfl
      · obtain ⟨si, eD⟩ := hp
        refine ⟨D, _, rfl, .of eD, ?_⟩
        rw [rep_bl]
        exact q _ (s1.trans si)
    · -- neither
      refine ⟨_, _, _, _, _, _, rfl, h1, .cons (.ty _) (.cons (.ty _) .nil), ty, k_any2 k1 k2, ?_⟩
      refine ⟨_, rfl, iteF ?_⟩
      rcases hs with ⟨rfl, rfl⟩ | ⟨b, rfl, rfl, rfl⟩ | ⟨i, rfl, rfl, rfl⟩ | ⟨z, rfl, rfl, rfl⟩
      · -- None
        refine ⟨_, rfl, rfl, _, rfl, iteT ?_⟩
        refine ⟨_, rfl, rfl, ?_⟩
        exact q _ s1
      · refine ⟨_, rfl, rfl, _, rfl, iteF ?_⟩
        refine ⟨_, rfl, ⟨_, _, _, _, _, rfl, .ty _, ty, kit_ty (show kitB _ _ = some true by decide +kernel), _, rfl, ⟨_, _, _, _, _, rfl, .ty _, tx, kit_ty (show kitB _ _ = some true by decide +kernel), rfl, _, rfl, iteF ?_⟩⟩⟩
        refine ⟨_, rfl, ⟨_, _, _, _, _, rfl, .ty _, ty, kit_ty (show kitB _ _ = some false by decide +kernel), _, rfl, iteF ?_⟩⟩
        refine ⟨_, rfl, ⟨_, _, _, _, _, rfl, .ty _, tx, kit_ty (show kitB _ _ = some true by decide +kernel), _, rfl, iteT ?_⟩⟩
        refine ⟨_, rfl, _, rfl, by cases b <;> rfl, ?_⟩
        rw [decide_eq_true (rfl : V.bl b = V.bl b)]
        exact q _ s1
      · refine ⟨_, rfl, rfl, _, rfl, iteF ?_⟩
        refine ⟨_, rfl, ⟨_, _, _, _, _, rfl, .ty _, ty, kit_ty (show kitB _ _ = some false by decide +kernel), _, rfl, ⟨_, _, _, _, _, rfl, .ty _, tx, kit_ty (show kitB _ _ = some false by decide +kernel), rfl, _, rfl, iteF ?_⟩⟩⟩
        refine ⟨_, rfl, ⟨_, _, _, _, _, rfl, .ty _, ty, kit_ty (show kitB _ _ = some false by decide +kernel), _, rfl, iteF ?_⟩⟩
        refine ⟨_, rfl, ⟨_, _, _, _, _, rfl, .ty _, tx, kit_ty (show kitB _ _ = some true by decide +kernel), _, rfl, iteT ?_⟩⟩
        refine ⟨_, rfl, _, rfl, rfl, ?_⟩
        rw [decide_eq_true (rfl : V.int i = V.int i)]
        exact q _ s1
      · refine ⟨_, rfl, rfl, _, rfl, iteF ?_⟩
        refine ⟨_, rfl, ⟨_, _, _, _, _, rfl, .ty _, ty, kit_ty (show kitB _ _ = some false by decide +kernel), _, rfl, ⟨_, _, _, _, _, rfl, .ty _, tx, kit_ty (show kitB _ _ = some false by decide +kernel), rfl, _, rfl, iteF ?_⟩⟩⟩
        refine ⟨_, rfl, ⟨_, _, _, _, _, rfl, .ty _, ty, kit_ty (show kitB _ _ = some true by decide +kernel), _, rfl, iteT ?_⟩⟩
        refine ⟨_, rfl, ⟨_, _, _, _, _, rfl, .ty _, tx, kit_ty (show kitB _ _ = some true by decide +kernel), _, rfl, iteT ?_⟩⟩
        refine ⟨_, rfl, _, rfl, rfl, ?_⟩
        rw [decide_eq_true (rfl : V.str z = V.str z)]
        exact q _ s1
/-- no data at all: where the recursion ends -/
theorem ok_same0 {f : Addr} {fd : FuncData} (F : Fun K "_law_same" "_law_same" s__law_same f fd) : FnOk P w K mg base CX0 1 f fd ["actual", "due"] (sp_same K 0) := by
  refine F.ok sc__law_same (fun vs H Q E h => ?_) (fun cdv A outer s H vs Q E hr h => ?_)
  · obtain ⟨x, y, D, m, e, _⟩ := h
    exact absurd e (by omega)
  · obtain ⟨x, y, D, m, e, _⟩ := h
    exact absurd e (by omega)
/-- of any depth -/
theorem cl_same {f : Addr} {fd : FuncData} (F : Fun K "_law_same" "_law_same" s__law_same f fd) (M : Mg mg) (g : mg "_law_same" = some (.ref f)) (b : Binds K fd ["actual", "due"] []) : ∀ n : Nat, Cl P w K mg base (n + 1) "_law_same" (sp_same K n)
  | 0 => FnOk.cl (ok_same0 F) F g b
  | n + 1 => FnOk.cl (ok_same F M (cl_same F M g b n)) F g b
end

/-! ### sorted(xs, key=f): keys that are data, any number of them -/
/-- what the heap tells of a machine value -/
def bk : Value → V
  | .none => .non
  | .bool b => .bl b
  | .int i _ => .int i
  | .str x _ => .str x
  | .bytes b _ => .byt b
  | .float b _ => .flt b
  | .ref a => .ref a
  | .type n => .ty n
  | _ => .non
theorem bk_rel : ∀ {y : V} {v : Value}, RelV y v → bk v = y
  | .non, _, h => by cases h; rfl
  | .bl _, _, h => by cases h; rfl
  | .int _, _, h => by obtain ⟨t, rfl⟩ := h; rfl
  | .str _, _, h => by obtain ⟨t, rfl⟩ := h; rfl
  | .byt _, _, h => by obtain ⟨t, rfl⟩ := h; rfl
  | .flt _, _, h => by obtain ⟨t, rfl⟩ := h; rfl
  | .ref _, _, h => by cases h; rfl
  | .ty _, _, h => by cases h; rfl
/-- a tuple that begins with an int (b) or with a tuple -/
structure KeyD (b : Bool) (d : PyData) : Prop where
  hd : ∃ d0 ds, d = .tuple (d0 :: ds) ∧ (if b = true then ∃ n, d0 = .int n else ∃ es, d0 = .tuple es)
  lay : d.canLay0 = true
  dep : d.depth ≤ 40
section
open PySem.SeqAt PySem.W
theorem lex_D {prog : Program} {w : World} {A : Around} {s : Shared} (b : Bool) {Q : Bool → Shared → Prop} : ∀ (xs ys : List PyData) (vs ws : List Value) (as bs : List Addr) (i : Nat), ReadsAll s.heap vs xs as → ReadsAll s.heap ws ys bs → PyData.canLayAll0 xs = true → PyData.canLayAll0 ys = true →
    okDs xs ys = true → A.units + min (PyData.depthAll xs) (PyData.depthAll ys) < cLine → (b = true → i = 0 → ∀ x r y r', xs = x :: r → ys = y :: r' → ∃ m n, x = .int m ∧ y = .int n) → Q (ltDs xs ys) s →
    KatLex prog w A b (decide (xs.length < ys.length)) Q (vs.zip ws) i s
  | [], [], _, _, _, _, _, ra, rb, _, _, _, _, _, q => by
    cases ra
    unfold ltDs at q
    exact kat_nil q
  | [], _ :: _, _, _, _, _, _, ra, rb, _, _, _, _, _, q => by
    cases ra
    unfold ltDs at q
    exact kat_nil q
  | _ :: _, [], _, _, _, _, _, ra, rb, _, _, _, _, _, q => by
    cases ra
    cases rb
    unfold ltDs at q
    exact kat_nil q
  | x :: xs, y :: ys, _, _, _, _, i, ra, rb, ca, cb, ho, hu, hb, q => by
    have c1 : x.canLay0 = true ∧ PyData.canLayAll0 xs = true := by simpa [PyData.canLayAll0] using ca
    have c2 : y.canLay0 = true ∧ PyData.canLayAll0 ys = true := by simpa [PyData.canLayAll0] using cb
    cases ra with
    | cons r rs =>
      cases rb with
      | cons r' rs' =>
        have el : decide ((x :: xs).length < (y :: ys).length) = decide (xs.length < ys.length) := by
          rw [List.length_cons, List.length_cons, decide_eq_decide]
          omega
        rw [el]
        unfold okDs at ho
        unfold ltDs at q
        refine kat_cons (eqAt_reads x y A s _ _ _ _ r r' c1.1 c2.1 (room_head hu) prog w _ _ ?_)
        refine kat_go (fun e => kat_yes ?_) (fun e => kat_no ?_)
        · rw [if_pos e] at ho q
          exact lex_D b xs ys _ _ _ _ (i + 1) rs rs' c1.2 c2.2 ho (room_tail hu) (fun _ z => by omega) q
        · rw [if_neg (by rw [e]; exact Bool.false_ne_true)] at ho q
          generalize hc : (b && i == 0) = c
          cases c with
          | true =>
            rw [Bool.and_eq_true] at hc
            obtain ⟨m, n, rfl, rfl⟩ := hb hc.1 (by simpa using hc.2) _ _ _ _ rfl rfl
            cases r
            cases r'
            refine TS.oneLt_ints true ?_
            unfold ltD at q
            exact q
          | false => exact kat_one _ _ (rcLt_D x y A s _ _ _ _ r r' c1.1 c2.1 ho (room_head hu) prog w _ _ q)
theorem key_lt {prog : Program} {w : World} {A : Around} {s : Shared} {b : Bool} {x y : PyData} {u v : Value} {as bs : List Addr} (kx : KeyD b x) (ky : KeyD b y) (rx : Reads s.heap u x as) (ry : Reads s.heap v y bs) (ho : okD x y = true) (hu : A.units + 64 < cLine) :
    wpAny (model prog w) A (keyLt' (tuples' b) u v) (fun r s' => s' = s ∧ r = ltD x y) (fun _ _ => False) s := by
  obtain ⟨d0, ds, rfl, h0⟩ := kx.hd
  obtain ⟨e0, es, rfl, g0⟩ := ky.hd
  have c1 : PyData.canLayAll0 (d0 :: ds) = true := by have := kx.lay; unfold PyData.canLay0 at this; exact this
  have c2 : PyData.canLayAll0 (e0 :: es) = true := by have := ky.lay; unfold PyData.canLay0 at this; exact this
  have dd := kx.dep
  unfold PyData.depth at dd
  unfold okD at ho
  cases rx with
  | @tuple p o vs n _ as1 a1 a2 a3 a4 =>
    cases ry with
    | @tuple q o' ws n' _ bs1 b1 b2 b3 b4 =>
      have l1 : vs.size = (d0 :: ds).length := by simpa using ReadsAll.length _ _ _ a4
      have l2 : ws.size = (e0 :: es).length := by simpa using ReadsAll.length _ _ _ b4
      refine kat_lt a1 a3 b1 b3 ?_
      rw [l1, l2]
      refine lex_D b _ _ _ _ _ _ 0 a4 b4 c1 c2 ho ?_ (fun hb _ x r y r' e1 e2 => ?_) ⟨rfl, ?_⟩
      · have : min (PyData.depthAll (d0 :: ds)) (PyData.depthAll (e0 :: es)) ≤ PyData.depthAll (d0 :: ds) := Nat.min_le_left _ _
        omega
      · cases e1
        cases e2
        rw [if_pos hb] at h0 g0
        obtain ⟨m, rfl⟩ := h0
        obtain ⟨n, rfl⟩ := g0
        exact ⟨m, n, rfl, rfl⟩
      · unfold ltD
        rfl
theorem key_kind {prog : Program} {w : World} {A : Around} {E : Value → Shared → Prop} {s : Shared} {b : Bool} {us : List Value} {Q : SortKind → Shared → Prop} (h2 : 0 < us.length) (h : ∀ u ∈ us, ∃ d as, Reads s.heap u d as ∧ KeyD b d) (q : Q (tuples' b) s) : wpAny (model prog w) A (keyKind' us.toArray) Q E s := by
  have mk : ∀ us : List Value, (∀ u ∈ us, ∃ d as, Reads s.heap u d as ∧ KeyD b d) → ∃ fs, fs.length = us.length ∧ KatTups s.heap us fs ∧ ∀ f ∈ fs, Looks (model prog w) s.heap (typeOf f) (.type (if b = true then "int" else "tuple")) := by
    intro us
    induction us with
    | nil => exact fun _ => ⟨[], rfl, KatTups.nil, fun _ h => by cases h⟩
    | cons u us ih =>
      intro h
      obtain ⟨fs, l1, l2, l3⟩ := ih fun x hx => h x (List.mem_cons_of_mem _ hx)
      obtain ⟨d, as, rd, kd⟩ := h u List.mem_cons_self
      obtain ⟨d0, ds, rfl, h0⟩ := kd.hd
      cases rd with
      | @tuple p o vs n _ as1 a1 a2 a3 a4 =>
        obtain ⟨vs⟩ := vs
        cases vs with
        | nil => cases a4
        | cons v0 vs =>
          cases a4 with
          | cons r rs =>
            refine ⟨v0 :: fs, by rw [List.length_cons, List.length_cons, l1], KatTups.cons a1 a2 a3 rfl l2, fun f hf => ?_⟩
            rcases List.mem_cons.mp hf with rfl | hf
            · cases b with
              | true =>
                rw [if_pos rfl] at h0
                obtain ⟨n, rfl⟩ := h0
                cases r
                exact Looks.now
              | false =>
                rw [if_neg Bool.false_ne_true] at h0
                obtain ⟨es, rfl⟩ := h0
                cases r with
                | @tuple p' o' vs' n' _ as2 c1 c2 c3 c4 =>
                  have z : Looks (model prog w) s.heap (typeOf (.ref p')) o'.cls := (Looks.ld c1).andThen .now
                  rw [c2] at z
                  exact z
            · exact l3 f hf
  obtain ⟨fs, l1, l2, l3⟩ := mk us h
  refine kat_kind (T := .type (if b = true then "int" else "tuple")) l2 (by omega) l3 (by cases b <;> rfl) ?_
  have e : ((Value.type (if b = true then "int" else "tuple")) != Value.type "tuple") = b := by
    cases b <;> first | rfl | decide +kernel
  rw [e]
  exact q
end
/-- all that H has, and the tuples of H2 -/
def Kp3 (H H2 H3 : Hp) : Prop := Same H H3 ∧ ∀ b o, (∃ xs, o = HO.tup xs) ∨ (∃ q u, o = HO.frz q u) → H2 b = some o → H3 b = some o
def rSortF (P : Program) (w : World) (K : PySem.W.Frag) (mg : Str → Option Value) (base : Heap) (k : Nat) : List V → List V → Hp → VK → Prop := fun vs zs H Q => ∃ (a f : Addr) (sp : Sp) (ys : List V) (kd : V → PyData) (b : Bool), vs = [.ref a] ∧ zs = [.ref f] ∧ SqL K H a ys ∧ Hd P w K mg base k f sp ∧
  (∀ y ∈ ys, ∀ (H1 : Hp) (R : VK), Same H H1 → (∀ u H2, Same H1 H2 → (∀ H3, Kp3 H H2 H3 → Dp K H3 u (kd y)) → R u H2) → sp [y] H1 R E0) ∧ (∀ y ∈ ys, KeyD b (kd y)) ∧ (∀ y ∈ ys, ∀ z ∈ ys, okD (kd y) (kd z) = true) ∧ SrtO.Swo (fun y z : V => ltD (kd y) (kd z)) ∧
  ∀ zs H' p, Same H H' → H p = none → SrtO.Srtd (fun y z => ltD (kd y) (kd z)) zs → SrtO.Stb (fun y z => ltD (kd y) (kd z)) zs ys → H' p = some (.lst zs) → Q (.ref p) H'
section
open PySem.SeqAt PySem.W
theorem push_keep {h : Heap} {o : Obj} : ∀ b u, h.get? b = some u → (h.push o).get? b = some u := fun b u e => Heap.get?_push_of_some _ e
set_option maxHeartbeats 4000000 in
theorem cr_sortF {X : Cx} {k j : Nat} (hr : Room j X.A) (hk : k + 2 ≤ j) (hu : X.A.units + 70 < cLine) : CallRK X (.builtin "sorted") [Str.ofString "key"] (rSortF X.prog X.w X.K X.mg X.base k) := by
  intro pins s σ H vs zs us ws Q I r rz ask
  obtain ⟨a, f, sp, ys, kd, b, rfl, rfl, hs, ⟨fd, ps, F, kp, bnd⟩, prom, kok, cmp, O, q⟩ := ask
  obtain rfl := Vals.ref1 r
  obtain ⟨w1, rfl, e1⟩ := vals1 rz
  obtain rfl : w1 = Value.ref f := e1
  obtain ⟨its, rv, pl, hz⟩ := I.list hs
  have lz : its.length = ys.length := rv.length.symm
  -- the collected list, the list that is sorted, what is held, the keys
  generalize eh1 : (s.heap.push (seqObj "list" #[] 0)).update s.heap.objs.size (Obj.mapSeq (· ++ its.toArray)) = h1
  have sz1 : h1.objs.size = s.heap.objs.size + 1 := by
    rw [← eh1, Heap.size_update]
    exact size_push' _ _
  have k1 : ∀ b o, s.heap.get? b = some o → h1.get? b = some o := fun b o e => by
    rw [← eh1, Heap.get?_update_ne _ _ _ _ (Nat.ne_of_lt (Heap.lt_size e))]
    exact push_keep _ _ e
  generalize eD : h1.objs.size = D at sz1
  have oD : (h1.push (seqObj "list" its.toArray 0)).get? D = some (seqObj "list" its.toArray 0) := by
    rw [← eD]
    exact Heap.get?_push_size _ rfl
  refine (call_function_entry_kw kind_sorted plain_sorted entry_sorted (ksk_s1 _ _) ?_)
  unfold Builtin.«sorted»
  refine (wpAny_bind (m := checkCount "sorted" 1 1 _) (wpAny_pure ?_))
  refine (wpAny_bind (collect_list pl.isList ?_ (by rw [lz]; exact hz)))
  refine (wpAny_bind (wpAny_newList ?_ (by rw [lz]; exact hz)))
  show wpAny _ _ _ _ _ { s with heap := ((s.heap.push (seqObj "list" #[] 0)).update s.heap.objs.size (Obj.mapSeq (· ++ its.toArray))).push (seqObj "list" its.toArray 0) }
  rw [eh1, eD]
  refine (wpAny_bind (wpAny_holding (wpAny_call_entry_kw slot_list_sort ⟨_, oD, rfl⟩ entry_list_sort ?body (ksk_l1 _ _))))
  show wpAny (model X.prog X.w) X.A.in1.in1 (Builtin.«list.sort» ⟨[.ref D], [(Str.ofString "key", .ref f)]⟩) _ _ _
  rw [ksk_t1]
  -- the list emptied, its items held, the keys
  obtain ⟨ep, oD3⟩ : ∃ ep, ((h1.push (seqObj "list" its.toArray 0)).update D (Obj.mapSeq fun _ => #[])).get? D = some (seqObj "list" #[] ep) := ⟨_, get?_update_seq oD fun _ => #[]⟩
  have k3 : ∀ c o, s.heap.get? c = some o → ((h1.push (seqObj "list" its.toArray 0)).update D (Obj.mapSeq fun _ => #[])).get? c = some o := fun c o e => by
    have lt : c < s.heap.objs.size := Heap.lt_size e
    rw [Heap.get?_update_ne _ _ _ _ (Nat.ne_of_lt (by rw [sz1]; exact Nat.lt_succ_of_lt lt))]
    exact push_keep _ _ (k1 _ _ e)
  unfold ksk_tree
  refine (wpAny_bind (listItems_at oD rfl ?_))
  refine (wpAny_bind (listUpdate_at oD rfl ?_ (by rw [List.size_toArray, lz]; exact hz) (Nat.zero_le _)))
  refine (wpAny_bind (seqEpoch_at oD3 rfl ?_))
  refine (wpAny_bind (wpAny_newTuple ?_ (by show its.length ≤ _; rw [lz]; exact hz)))
  refine (wpAny_bind (wpAny_newList ?_ (Nat.zero_le _)))
  refine wpAny_holding ?_
  generalize (h1.push (seqObj "list" its.toArray 0)).update D (Obj.mapSeq fun _ => #[]) = h3 at oD3 k3 ⊢
  have lD : D < h3.objs.size := Heap.lt_size oD3
  show wpAny _ _ _ _ _ { s with heap := (h3.push (seqObj "tuple" its.toArray 0)).push (seqObj "list" #[] 0) }
  generalize e4 : h3.push (seqObj "tuple" its.toArray 0) = h4
  have oD4 : h4.get? D = some (seqObj "list" #[] ep) := by rw [← e4]; exact push_keep _ _ oD3
  have k4 : ∀ c o, s.heap.get? c = some o → h4.get? c = some o := fun c o e => by rw [← e4]; exact push_keep _ _ (k3 _ _ e)
  have lD4 : D < h4.objs.size := Heap.lt_size oD4
  let φ : Heap → Prop := fun h => h.get? D = some (seqObj "list" #[] ep)
  have nD : H D = none := I.hok.fresh (by omega)
  have I4 : Inv X pins σ (upd H D (.ext φ)) { s with heap := h4 } := I.laid (t' := s.toks) k4 (by omega) ⟨oD4, ⟨_, oD4⟩, fun h1 h2 z g => g _ z⟩
  have nK : (upd H D (.ext φ)) h4.objs.size = none := I4.hok.fresh (Nat.le_refl _)
  have oK : (h4.push (seqObj "list" #[] 0)).get? h4.objs.size = some (seqObj "list" #[] 0) := Heap.get?_push_size _ rfl
  have I5 : Inv X pins σ (upd (upd H D (.ext φ)) h4.objs.size (.lst [])) { s with heap := h4.push (seqObj "list" #[] 0) } := I4.laid (t' := s.toks) (h' := h4.push (seqObj "list" #[] 0)) push_keep (Nat.le_refl _) ⟨Nat.zero_le _, [], 0, .nil, oK⟩
  generalize h4.objs.size = kS at lD4 nK oK I5 ⊢
  have nDk : D ≠ kS := by omega
  have nHk : H kS = none := by
    rw [upd_ne (Ne.symm nDk)] at nK
    exact nK
  have sm5 : Same H (upd (upd H D (.ext φ)) kS (.lst [])) := (same_upd nD).trans (same_upd nK)
  unfold ksk_rest
  refine (wpAny_bind (wpAny_rule ?_))
  rw [List.forIn_toArray]
  refine (wpAny_bind (ksk_fold (fun i s' => ∃ (Hi : Hp) (kvs : List V), Inv X pins σ Hi s' ∧ Same H Hi ∧ Hi D = some (.ext φ) ∧ Hi kS = some (.lst kvs) ∧ kvs.length = i ∧ ∀ H3, Kp3 H Hi H3 → DpAll X.K H3 kvs ((ys.take i).map kd)) its 0 _ ⟨_, [], I5, sm5, by rw [upd_ne nDk]; exact upd_same, upd_same, rfl, fun _ _ => .nil⟩ (fun j x s' hx hI => ?turn) (fun s' hI => ?done)))
  case turn =>
    rw [Nat.zero_add] at hI ⊢
    obtain ⟨Hi, kvs, Ii, si, eDi, eKi, lk, dpi⟩ := hI
    have hj : j < ys.length := by
      rw [← lz]
      exact (List.getElem?_eq_some_iff.mp hx).1
    obtain ⟨u0, hu0, rel⟩ := Vals.get rv (List.getElem?_eq_getElem hj)
    obtain rfl : u0 = x := Option.some.inj (hu0.symm.trans hx)
    have hy : ys[j] ∈ ys := List.getElem_mem hj
    have hyj := List.getElem?_eq_getElem hj
    generalize ys[j] = y at rel hy hyj
    have spy := prom y hy Hi (fun u H2 => Same Hi H2 ∧ ∀ H3, Kp3 H H2 H3 → Dp X.K H3 u (kd y)) si fun u H2 g1 g2 => ⟨g1, g2⟩
    have called : wpAny (model X.prog X.w) X.A.in1.in1 (call (.ref f) [u0]) (fun u s2 => ∃ v H2, Inv X pins σ H2 s2 ∧ RelV v u ∧ Same Hi H2 ∧ ∀ H3, Kp3 H H2 H3 → Dp X.K H3 v (kd y)) (fun _ _ => False) s' := by
      refine wpAny_call (codeAny_mono (F.run X.A.in1.in1 X.stack s' Hi ⟨[u0], []⟩ [u0] [y] _ E0 ((hr.mono hk).in1.in1) Ii.env0.in1.in1 (bnd s' [u0] Ii.kIn (by rw [← F.len _ _ _ _ spy]; rfl)) (.cons rel .nil) spy) fun r s2 hq => ?_)
      match r, hq with
      | .error _, hq => exact False.elim hq
      | .ok .next, hq => exact False.elim hq
      | .ok .brk, hq => exact False.elim hq
      | .ok .cont, hq => exact False.elim hq
      | .ok (.ret u), hq =>
        obtain ⟨v, H2, J, rvv, g1, g2⟩ := Ii.after hq
        exact ⟨v, H2, J, rvv, g1, g2⟩
    refine wpAny_bind (wpAny_attempt (wpAny_mono called (fun u s2 hu => ?_) fun _ _ z => z.elim))
    obtain ⟨v, H2, J, rvv, g1, g2⟩ := hu
    have eK2 := g1 _ _ eKi
    obtain ⟨_, kits, n2, kr, ok2⟩ := J.hok kS _ eK2
    have lkk : kits.length = j := by rw [← kr.length]; exact lk
    obtain ⟨n3, ok3⟩ : ∃ n3, (s2.heap.update kS (Obj.mapSeq (·.push u))).get? kS = some (seqObj "list" (kits ++ [u]).toArray n3) := ⟨_, by
      rw [show (kits ++ [u]).toArray = kits.toArray.push u by simp]
      exact get?_update_seq ok2 (·.push u)⟩
    dsimp only
    refine (wpAny_bind (listUpdate_at ok2 rfl ?_ (by rw [List.size_toArray]; omega) (by rw [Array.size_push, List.size_toArray]; omega)))
    have J3 : Inv X pins σ (upd H2 kS (.lst (kvs ++ [v]))) { s2 with heap := s2.heap.update kS (Obj.mapSeq (·.push u)) } := J.write (e := kS) (t' := s2.toks) (by rw [eK2]; trivial) (.inl rfl) (fun c o nc e => by rw [Heap.get?_update_ne _ _ _ _ nc]; exact e) ⟨_, ok3⟩
      ⟨by rw [List.length_append, lk]; show j + 1 ≤ _; omega, kits ++ [u], n3, kr.append (.cons rvv .nil), ok3⟩
    refine wpAny_pure ⟨rfl, _, kvs ++ [v], J3, fun c o e => ?_, by rw [upd_ne nDk]; exact g1 _ _ eDi, upd_same, by rw [List.length_append, lk]; rfl, fun H3 kp3 => ?_⟩
    · rw [upd_ne (ne_of_none e nHk)]
      exact g1 _ _ (si _ _ e)
    · have k2 : Kp3 H H2 H3 := ⟨kp3.1, fun c o ho e => kp3.2 c o ho (by
        rw [upd_ne (fun z => ?_)]
        · exact e
        · subst z
          rw [eK2] at e
          cases e
          rcases ho with ⟨xs, z⟩ | ⟨q', u', z⟩ <;> cases z)⟩
      have ki : Kp3 H Hi H3 := ⟨kp3.1, fun c o ho e => k2.2 c o ho (g1 _ _ e)⟩
      rw [List.take_add_one, hyj, List.map_append]
      exact DpAll.snoc (dpi H3 ki) (g2 H3 k2)
  case done =>
    rw [Nat.zero_add] at hI
    obtain ⟨Hn, kvs, In, sn, eDn, eKn, lk, dpn⟩ := hI
    have dpn := dpn Hn ⟨sn, fun _ _ _ e => e⟩
    rw [lz, List.take_of_length_le (Nat.le_refl _)] at dpn
    obtain ⟨_, kits, n2, kr, okK⟩ := In.hok kS _ eKn
    obtain ⟨okD, _⟩ := In.hok D _ eDn
    have okD : s'.heap.get? D = some (seqObj "list" #[] ep) := okD
    have lkk : kits.length = its.length := by rw [← kr.length]; exact lk
    refine (wpAny_bind (listItems_at okK rfl ?_))
    have ez : (kits.toArray.zip its.toArray).toList = kits.zip its := by simp
    have lt2 : SrtO.Swo (fun p q : Keyed => ltD (kd (bk p.2)) (kd (bk q.2))) := ⟨fun x y h => O.asym _ _ h, fun x y z h g => O.tr _ _ _ h g⟩
    let P : Keyed → Prop := fun p => (∃ as, Reads s'.heap p.1 (kd (bk p.2)) as) ∧ bk p.2 ∈ ys ∧ RelV (bk p.2) p.2
    have hP : ∀ p ∈ kits.zip its, P p := fun p hp => by
      obtain ⟨i, hi⟩ := List.getElem?_of_mem hp
      rw [List.getElem?_zip_eq_some] at hi
      obtain ⟨i1, i2⟩ := hi
      have li : i < ys.length := by
        rw [← lz]
        exact (List.getElem?_eq_some_iff.mp i2).1
      obtain ⟨u0, hu0, rel⟩ := Vals.get rv (List.getElem?_eq_getElem li)
      obtain rfl : u0 = p.2 := Option.some.inj (hu0.symm.trans i2)
      obtain ⟨v0, hv0, dv⟩ := DpAll.get dpn (show (ys.map kd)[i]? = some (kd ys[i]) by rw [List.getElem?_map, List.getElem?_eq_getElem li]; rfl)
      obtain ⟨u1, hu1, rel1⟩ := Vals.get kr hv0
      obtain rfl : u1 = p.1 := Option.some.inj (hu1.symm.trans i1)
      have eb := bk_rel rel
      refine ⟨?_, by rw [eb]; exact List.getElem_mem li, by rw [eb]; exact rel⟩
      rw [eb]
      exact Dp.reads In _ _ _ dv rel1
    have emap : (kits.zip its).map (fun p => bk p.2) = ys := by
      have e1 : (kits.zip its).map (fun p => bk p.2) = its.map bk := by
        rw [show (fun p : Value × Value => bk p.2) = bk ∘ Prod.snd from rfl, ← List.map_map, List.map_snd_zip (by omega)]
      rw [e1]
      have : ∀ {ys : List V} {its : List Value}, Vals ys its → its.map bk = ys := by
        intro ys its h
        induction h with
        | nil => rfl
        | cons a _ ih => rw [List.map_cons, ih, bk_rel a]
      exact this rv
    have fin : ∀ st' : SortSt, SrtO.Srtd (fun p q : Keyed => ltD (kd (bk p.2)) (kd (bk q.2))) (arrOf st').toList → SrtO.Stb (fun p q : Keyed => ltD (kd (bk p.2)) (kd (bk q.2))) (arrOf st').toList (kits.zip its) → failedOf st' = none →
        wpAny (model X.prog X.w) X.A.in1.in1 (ksk_tail D false ep (.ref kS) st') (fun fin s' => ∃ v, fin = PySem.Fin.done (Flow.ret v) ∧ wpAny (model X.prog X.w) X.A.in1 (ret (Value.ref D)) (fun fin s' => ∃ v, fin = PySem.Fin.done (Flow.ret v) ∧ EP X pins σ Q v s') X.xe s') X.xe s' := fun st' a1 a2 a3 => by
      have lo : (arrOf st').toList.length = its.length := by
        rw [a2.len, List.length_zip, lkk, Nat.min_self]
      have lo2 : ((arrOf st').map (·.2)).size = its.length := by
        rw [Array.size_map, ← lo, Array.length_toList]
      obtain ⟨n4, ok4⟩ : ∃ n4, (s'.heap.update kS (Obj.mapSeq fun _ => (#[] : Array Value))).get? kS = some (seqObj "list" #[] n4) := ⟨_, get?_update_seq okK fun _ => #[]⟩
      have okD4 : (s'.heap.update kS (Obj.mapSeq fun _ => (#[] : Array Value))).get? D = some (seqObj "list" #[] ep) := by
        rw [Heap.get?_update_ne _ _ _ _ nDk]
        exact okD
      have J1 : Inv X pins σ (upd Hn kS (.lst [])) { s' with heap := s'.heap.update kS (Obj.mapSeq fun _ => (#[] : Array Value)) } := In.write (e := kS) (t' := s'.toks) (by rw [eKn]; trivial) (.inl rfl) (fun c o nc e => by rw [Heap.get?_update_ne _ _ _ _ nc]; exact e) ⟨_, ok4⟩ ⟨Nat.zero_le _, [], n4, .nil, ok4⟩
      obtain ⟨n5, ok5⟩ : ∃ n5, ((s'.heap.update kS (Obj.mapSeq fun _ => (#[] : Array Value))).update D (Obj.mapSeq fun _ => (arrOf st').map (·.2))).get? D = some (seqObj "list" ((arrOf st').map (·.2)) n5) := ⟨_, get?_update_seq okD4 fun _ => (arrOf st').map (·.2)⟩
      have vv : Vals ((arrOf st').toList.map fun p => bk p.2) ((arrOf st').map (·.2)).toList := by
        rw [Array.toList_map]
        have hall : ∀ p ∈ (arrOf st').toList, RelV (bk p.2) p.2 := fun p hp => (hP p (a2.perm.mem_iff.mp hp)).2.2
        generalize (arrOf st').toList = l at hall
        induction l with
        | nil => exact .nil
        | cons p l ih => exact .cons (hall p List.mem_cons_self) (ih fun x hx => hall x (List.mem_cons_of_mem _ hx))
      have eD1 : (upd Hn kS (.lst [])) D = some (.ext φ) := by
        rw [upd_ne nDk]
        exact eDn
      have J2 : Inv X pins σ (upd (upd Hn kS (.lst [])) D (.lst ((arrOf st').toList.map fun p => bk p.2))) { s' with heap := (s'.heap.update kS (Obj.mapSeq fun _ => (#[] : Array Value))).update D (Obj.mapSeq fun _ => (arrOf st').map (·.2)) } := J1.write (e := D) (t' := s'.toks) (by rw [eD1]; trivial) (.inl rfl) (fun c o nc e => by
        show ((s'.heap.update kS (Obj.mapSeq fun _ => (#[] : Array Value))).update D _).get? c = _
        rw [Heap.get?_update_ne _ _ _ _ nc]
        exact e) ⟨_, ok5⟩ ⟨by rw [List.length_map, lo, lz]; exact hz, _, n5, vv, by rw [Array.toArray_toList]; exact ok5⟩
      unfold ksk_tail
      dsimp only
      refine (wpAny_bind (listUpdate_at okK rfl ?_ (by rw [List.size_toArray, lkk, lz]; exact hz) (Nat.zero_le _)))
      refine (wpAny_bind (wpAny_letGo ?_))
      refine (wpAny_bind (seqEpoch_at okD4 rfl ?_))
      refine (wpAny_bind (listUpdate_at okD4 rfl ?_ (Nat.zero_le _) (by
        rw [if_neg Bool.false_ne_true, lo2, lz]
        omega)))
      rw [a3]
      simp only [bne_self_eq_false, Bool.false_eq_true, if_false]
      refine wpAny_pure ⟨_, rfl, wpAny_pure ⟨_, rfl, .ref D, _, J2, rfl, ?_⟩⟩
      refine q _ _ D (fun c o e => ?_) nD (SrtO.srtd_map a1) (by rw [← emap]; exact SrtO.Stb.map O (fun p : Keyed => bk p.2) a2) upd_same
      rw [upd_ne (ne_of_none e nD), upd_ne (ne_of_none e nHk)]
      exact sn _ _ e
    unfold ksk_end
    dsimp only
    rw [if_neg Bool.false_ne_true]
    by_cases h2 : its.toArray.size < 2
    · rw [if_pos h2, if_pos h2]
      refine (wpAny_bind (wpAny_pure ?_))
      rw [StateT.run_pure]
      refine (wpAny_bind (wpAny_pure ?_))
      refine fin (SortSt.mk' general' (kits.toArray.zip its.toArray) #[] 7 none) ?_ ?_ rfl
      · show SrtO.Srtd _ (kits.toArray.zip its.toArray).toList
        rw [ez]
        have l2 : (kits.zip its).length < 2 := by
          rw [List.length_zip]
          rw [List.size_toArray] at h2
          omega
        match kits.zip its, l2 with
        | [], _ => exact List.Pairwise.nil
        | [x], _ => exact List.pairwise_singleton _ _
        | _ :: _ :: _, l2 => simp only [List.length_cons] at l2; omega
      · show SrtO.Stb _ (kits.toArray.zip its.toArray).toList _
        rw [ez]
        exact SrtO.Stb.refl _
    · rw [if_neg h2, if_neg h2]
      rw [List.size_toArray] at h2
      refine (wpAny_bind (key_kind (b := b) (by omega) (fun u hu => ?_) ?_))
      · obtain ⟨i, hi⟩ := List.getElem?_of_mem hu
        have li : i < kits.length := (List.getElem?_eq_some_iff.mp hi).1
        have hp := hP (kits[i], its[i]) (by
          refine List.mem_of_getElem? (i := i) ?_
          rw [List.getElem?_zip_eq_some]
          exact ⟨List.getElem?_eq_getElem li, List.getElem?_eq_getElem _⟩)
        obtain ⟨⟨as, g1⟩, g2, _⟩ := hp
        rw [List.getElem?_eq_getElem li] at hi
        cases hi
        exact ⟨_, as, g1, kok _ g2⟩
      · refine (wpAny_bind (wpAny_mono (SrtO.wpS_sortO (P := P) (st0 := SortSt.mk' (tuples' b) (kits.toArray.zip its.toArray) #[] 7 none) (lt := fun p q : Keyed => ltD (kd (bk p.2)) (kd (bk q.2)))
          (Q := fun _ st' => SrtO.Srtd (fun p q : Keyed => ltD (kd (bk p.2)) (kd (bk q.2))) (arrOf st').toList ∧ SrtO.Stb (fun p q : Keyed => ltD (kd (bk p.2)) (kd (bk q.2))) (arrOf st').toList (kits.zip its) ∧ failedOf st' = none) lt2 (fun p q hp hq => ?_) rfl (fun p hp => hP p (by rw [← ez]; exact hp)) rfl rfl fun st' g1 g2 g3 => ⟨g1, by rw [← ez]; exact g2, g3⟩) ?_ fun _ _ e => e))
        · obtain ⟨⟨as, g1⟩, g2, _⟩ := hp
          obtain ⟨⟨bs, g3⟩, g4, _⟩ := hq
          exact key_lt (kok _ g2) (kok _ g4) g1 g3 (cmp _ g2 _ g4) (by show X.A.units + 1 + 1 + 64 < _; omega)
        · rintro ⟨⟨⟩, st'⟩ s2 ⟨rfl, g1, g2, g3⟩
          exact fin st' g1 g2 g3
end

/-! ### min(xs, key=f, default=d), max likewise: keys that are data, any number of them -/
/-- what the best of the items seen so far holds -/
def bestV (bt : V → V → Bool) (xs : List V) (y : V) : Prop := y ∈ xs ∧ ∀ z ∈ xs, bt z y = false
def rMmF (P : Program) (w : World) (K : PySem.W.Frag) (mg : Str → Option Value) (base : Heap) (k : Nat) (gt : Bool) : List V → List V → Hp → VK → Prop := fun vs zs H Q => ∃ (a f : Addr) (sp : Sp) (ys : List V) (kd : V → PyData) (bt : V → V → Bool) (df : V), vs = [.ref a] ∧ zs = [.ref f, df] ∧ SqL K H a ys ∧ Hd P w K mg base k f sp ∧
  (∀ y ∈ ys, ∀ (H1 : Hp) (R : VK), Same H H1 → (∀ u H2, Same H1 H2 → (∀ H3, Kp3 H H2 H3 → Dp K H3 u (kd y)) → R u H2) → sp [y] H1 R E0) ∧ (∀ y ∈ ys, SeqAt.shaped (kd y) = true) ∧ (∀ y ∈ ys, ∀ z ∈ ys, okD (kd y) (kd z) = true) ∧
  (∀ y z, bt y z = if gt = true then gtD (kd y) (kd z) else ltD (kd y) (kd z)) ∧ SrtO.Swo bt ∧
  ∀ H', Same H H' → (ys = [] → Q df H') ∧ (∀ y, bestV bt ys y → Q y H')
def stA (st : Option (V × Value × V × Value)) : Array Value := match st with
  | none => #[]
  | some (_, v, _, u) => #[v, u]
theorem SqL.same {K : PySem.W.Frag} {H H' : Hp} {a : Addr} {xs : List V} (e : Same H H') (h : SqL K H a xs) : SqL K H' a xs := by
  rcases h with (h | ⟨o, h⟩) | h
  · exact .inl (.inl (e _ _ h))
  · exact .inl (.inr ⟨o, e _ _ h⟩)
  · exact .inr h
section
open PySem.SeqAt PySem.W
theorem min_loopF {X : Cx} {k j : Nat} (hr : Room j X.A) (hk : k + 2 ≤ j) (hu : X.A.units + 70 < cLine) (hc : X.calm = true) {pins : List (Addr × Obj)} {σ : L2.St} {H : Hp} {Q : VK} {a f : Addr} {sp : Sp} {ys : List V} {kd : V → PyData} {bt : V → V → Bool} {df : V} {dv : Value} {E : Value → Shared → Prop}
    (HD : Hd X.prog X.w X.K X.mg X.base k f sp) (prom : ∀ y ∈ ys, ∀ (H1 : Hp) (R : VK), Same H H1 → (∀ u H2, Same H1 H2 → (∀ H3, Kp3 H H2 H3 → Dp X.K H3 u (kd y)) → R u H2) → sp [y] H1 R E0)
    (shp : ∀ y ∈ ys, SeqAt.shaped (kd y) = true) (cmp : ∀ y ∈ ys, ∀ z ∈ ys, okD (kd y) (kd z) = true) (hbt : ∀ y z, bt y z = ltD (kd y) (kd z)) (O : SrtO.Swo bt) (sq : SqL X.K H a ys) (rd : RelV df dv)
    (q : ∀ H', Same H H' → (ys = [] → Q df H') ∧ (∀ y, bestV bt ys y → Q y H')) {I S : Addr} (fp0 : FpOk X pins H I) (nS : H S = none) (nIS : I ≠ S) (naI : a ≠ I) (naS : a ≠ S) :
    ∀ (r i : Nat), i + r = ys.length → ∀ (s : Shared) (Hi : Hp) (c : Nat) (st : Option (V × Value × V × Value)), Inv X pins σ Hi s → Same H Hi → Hi I = none → s.heap.IsListIter I a i →
      Hi S = some (.ext fun h => h.get? S = some (seqObj "list" (stA st) c)) →
      (match st with | none => i = 0 | some (y, v, x, u) => RelV y v ∧ RelV x u ∧ y ∈ ys ∧ bestV bt (ys.take i) y ∧ ∀ H3, Kp3 H Hi H3 → Dp X.K H3 x (kd y)) →
      codeAny (model X.prog X.w) X.A (.builtin "min.loop" ⟨[.ref I, .ref f, .ref S], [(Str.ofString "default", dv)]⟩) (fun r s' => match r with | .ok (.ret v) => EP X pins σ Q v s' | .ok _ => False | .error e => E e s') s := by
  obtain ⟨fd, ps, F, kp, bnd⟩ := HD.ex
  have hname : (toString "min" ++ toString ".loop" : String) = "min.loop" := by decide
  intro r
  induction r with
  | zero =>
    intro i hi s Hi c st Ii si nIi hit eS hst
    obtain ⟨oS, _⟩ := Ii.hok S _ eS
    have oS : s.heap.get? S = some (seqObj "list" (stA st) c) := oS
    obtain ⟨its, rv, pl, hz⟩ := Ii.list (SqL.same si sq)
    have lz : its.length = ys.length := rv.length.symm
    have W := Walks.list (prog := X.prog) (w := X.w) (A := X.A.in1) (Ii.ok.hd hc) I a naI its.toArray
    refine codeAny_builtin PySem.F.entry_min_loop ?_
    rw [Around.under_plainId PySem.F.plain_min_loop _]
    show wpAny _ X.A.in1 (seqItems? (.ref S) >>= _) _ _ s
    refine (wpAny_bind (wpAny_seqItems oS rfl ?_))
    show wpAny _ X.A.in1 (tryCatch (pyNext (.ref I)) _ >>= _) _ _ s
    refine (wpAny_bind (wpAny_tryCatch (W.done s _ _ ⟨by rw [List.size_toArray, lz, ← hi, Nat.add_zero]; exact hit, pl.isList⟩ fun h' tk hk2 => ?_)))
    have I2 : Inv X pins σ Hi { s with heap := h', toks := tk } := Ii.turned (it := I) (t' := tk) (fun b o hb e => hk2 b o (fun z => hb (List.mem_singleton.mp z)) e) nIi fp0.2.1 fp0.2.2.2.1 fp0.2.2.2.2.1 fp0.2.2.2.2.2
    have oS2 := hk2 S _ (fun z => nIS (List.mem_singleton.mp z).symm) oS
    cases st with
    | none =>
      refine (wpAny_bind (wpAny_rule ?_))
      refine wpAny_pure ?_
      have e0 : ys = [] := by
        subst hst
        exact List.eq_nil_of_length_eq_zero (by omega)
      exact ⟨df, _, I2, rd, (q _ si).1 e0⟩
    | some t =>
      obtain ⟨y, v, x, u⟩ := t
      obtain ⟨ryv, rxu, hy, hb, _⟩ := hst
      have oS2 : h'.get? S = some (seqObj "list" #[v, u] c) := oS2
      show wpAny _ X.A.in1 (updateSeq S (fun _ => #[]) >>= _) _ _ _
      refine (wpAny_bind (wpAny_updateSeq oS2 rfl (wpAny_bind (wpAny_letGo (wpAny_pure ?_)))))
      have hb : bestV bt ys y := by
        have hb := hb
        rw [List.take_of_length_le (by omega)] at hb
        exact hb
      have I3 := I2.write (x := S) (e := S) (o := .ext fun h => ∃ o, h.get? S = some o) (h' := h'.update S (Obj.mapSeq fun _ => (#[] : Array Value))) (t' := tk) (by rw [eS]; trivial) (.inl rfl) (fun b o nb e => by rw [Heap.get?_update_ne _ _ _ _ nb]; exact e) ⟨_, get?_update_seq oS2 fun _ => #[]⟩ ⟨⟨_, get?_update_seq oS2 fun _ => #[]⟩, ⟨_, get?_update_seq oS2 fun _ => #[]⟩, fun h1 h2 z g => by obtain ⟨o, z⟩ := z; exact ⟨o, g _ z⟩⟩
      exact ⟨y, _, I3, ryv, (q _ (fun b o e => by rw [upd_ne (ne_of_none e nS)]; exact si _ _ e)).2 y hb⟩
  | succ r ih =>
    intro i hi s Hi c st Ii si nIi hit eS hst
    have lti : i < ys.length := by omega
    obtain ⟨oS, _⟩ := Ii.hok S _ eS
    have oS : s.heap.get? S = some (seqObj "list" (stA st) c) := oS
    obtain ⟨its, rv, pl, hz⟩ := Ii.list (SqL.same si sq)
    have lz : its.length = ys.length := rv.length.symm
    have W := Walks.list (prog := X.prog) (w := X.w) (A := X.A.in1) (Ii.ok.hd hc) I a naI its.toArray
    refine codeAny_builtin PySem.F.entry_min_loop ?_
    rw [Around.under_plainId PySem.F.plain_min_loop _]
    show wpAny _ X.A.in1 (seqItems? (.ref S) >>= _) _ _ s
    refine (wpAny_bind (wpAny_seqItems oS rfl ?_))
    show wpAny _ X.A.in1 (tryCatch (pyNext (.ref I)) _ >>= _) _ _ s
    refine (wpAny_bind (wpAny_tryCatch (W.item i s _ _ (by rw [List.size_toArray, lz]; exact lti) ⟨hit, pl.isList⟩ fun v h' tk hx hst2 hk2 => ?_)))
    obtain ⟨hit2, _⟩ := hst2
    have hx : its[i]? = some v := by simpa using hx
    obtain ⟨v0, hv0, rel⟩ := Vals.get rv (List.getElem?_eq_getElem lti)
    obtain rfl : v0 = v := Option.some.inj (hv0.symm.trans hx)
    have hy : ys[i] ∈ ys := List.getElem_mem lti
    have hyi := List.getElem?_eq_getElem lti
    generalize ys[i] = y at rel hy hyi
    have I2 : Inv X pins σ Hi { s with heap := h', toks := tk } := Ii.turned (it := I) (t' := tk) (fun b o hb e => hk2 b o (fun z => hb (List.mem_singleton.mp z)) e) nIi fp0.2.1 fp0.2.2.2.1 fp0.2.2.2.2.1 fp0.2.2.2.2.2
    obtain ⟨oi, hoi, coi, doi⟩ := id hit2
    have Ip := I2.pinned (fp := [I]) (fun b hb => by rw [List.mem_singleton.mp hb]; exact ⟨nIi, fp0.2⟩) (fun b hb => by rw [List.mem_singleton.mp hb]; exact ⟨oi, hoi, fun v z => by rw [doi] at z; cases z⟩)
    have spy := prom y hy Hi (fun u H4 => Same Hi H4 ∧ ∀ H3, Kp3 H H4 H3 → Dp X.K H3 u (kd y)) si fun u H4 g1 g2 => ⟨g1, g2⟩
    have called : wpAny (model X.prog X.w) X.A.in1 (call (.ref f) [v0]) (fun u s2 => ∃ x H4, Inv X pins σ H4 s2 ∧ H4 I = none ∧ s2.heap.IsListIter I a (i + 1) ∧ RelV x u ∧ Same Hi H4 ∧ ∀ H3, Kp3 H H4 H3 → Dp X.K H3 x (kd y)) (fun _ _ => False) { s with heap := h', toks := tk } := by
      refine wpAny_call (codeAny_mono (F.run X.A.in1 X.stack _ Hi ⟨[v0], []⟩ [v0] [y] _ E0 ((hr.mono (Nat.le_of_succ_le hk)).in1) Ip.env0.in1 (bnd _ [v0] Ip.kIn (by rw [← F.len _ _ _ _ spy]; rfl)) (.cons rel .nil) spy) fun r s2 hq => ?_)
      match r, hq with
      | .error _, hq => exact False.elim hq
      | .ok .next, hq => exact False.elim hq
      | .ok .brk, hq => exact False.elim hq
      | .ok .cont, hq => exact False.elim hq
      | .ok (.ret u), hq =>
        obtain ⟨x, H4, J, rxv, g1, g2⟩ := Ip.after hq
        have pp := J.pin (I, oi) (List.mem_append_right _ (List.mem_append_right _ (mem_pinsAt (List.mem_singleton.mpr rfl) hoi)))
        exact ⟨x, H4, (J.unpinned (pins := [])).pins_of (fun p hp => J.pin p (List.mem_append_right _ (List.mem_append_left _ hp))), pp.2.1, ⟨oi, pp.1, coi, doi⟩, rxv, g1, g2⟩
    show wpAny _ X.A.in1 (tryCatch (holding [v0] (call (.ref f) [v0])) _ >>= _) _ _ _
    refine (wpAny_bind (wpAny_tryCatch (wpAny_holding (wpAny_mono called (fun u s2 hu2 => ?_) fun _ _ z => z.elim))))
    obtain ⟨x, H4, J, nI4, hit4, rxu, g1, g2⟩ := hu2
    have eS4 := g1 _ _ eS
    have si4 : Same H H4 := si.trans g1
    obtain ⟨oS4, _⟩ := J.hok S _ eS4
    have oS4 : s2.heap.get? S = some (seqObj "list" (stA st) c) := oS4
    have kp4 : ∀ H3, Kp3 H H4 H3 → Kp3 H Hi H3 := fun H3 z => ⟨z.1, fun b o ho e => z.2 b o ho (g1 _ _ e)⟩
    -- the best so far is written down
    have wr : ∀ {c' : Nat} (o' : s2.heap.update S (Obj.mapSeq fun _ => #[v0, u]) = s2.heap.update S (Obj.mapSeq fun _ => #[v0, u])), (s2.heap.update S (Obj.mapSeq fun _ => #[v0, u])).get? S = some (seqObj "list" #[v0, u] c') → bestV bt (ys.take (i + 1)) y →
        codeAny (model X.prog X.w) X.A (.builtin "min.loop" ⟨[.ref I, .ref f, .ref S], [(Str.ofString "default", dv)]⟩) (fun r s' => match r with | .ok (.ret v) => EP X pins σ Q v s' | .ok _ => False | .error e => E e s') { s2 with heap := s2.heap.update S (Obj.mapSeq fun _ => #[v0, u]) } := fun {c'} _ e hb => by
      have J2 := J.write (x := S) (e := S) (o := .ext fun h => h.get? S = some (seqObj "list" #[v0, u] c')) (t' := s2.toks) (by rw [eS4]; trivial) (.inl rfl) (fun b o nb z => by rw [Heap.get?_update_ne _ _ _ _ nb]; exact z) ⟨_, e⟩ ⟨e, ⟨_, e⟩, fun h1 h2 z g => g _ z⟩
      refine ih (i + 1) (by omega) _ _ c' (some (y, v0, x, u)) J2 (fun b o z => ?_) ?_ ?_ upd_same ⟨rel, rxu, hy, hb, fun H3 z => g2 H3 ⟨z.1, fun b o ho e9 => z.2 b o ho ?_⟩⟩
      · rw [upd_ne (ne_of_none z nS)]
        exact si4 _ _ z
      · rw [upd_ne nIS]
        exact nI4
      · exact hit4.at fun o e => by rw [Heap.get?_update_ne _ _ _ _ nIS]; exact e
      · rw [upd_ne (fun z => ?_)]
        · exact e9
        · subst z
          rw [eS4] at e9
          cases e9
          rcases ho with ⟨xs, z⟩ | ⟨q', u', z⟩ <;> cases z
    have tk1 : ys.take (i + 1) = ys.take i ++ [y] := by rw [List.take_add_one, hyi]; rfl
    cases st with
    | none =>
      have i0 : i = 0 := hst
      have oS4 : s2.heap.get? S = some (seqObj "list" #[] c) := oS4
      subst i0
      show wpAny _ X.A.in1 (updateSeq S (fun _ => #[v0, u]) >>= _) _ _ _
      refine (wpAny_bind (wpAny_updateSeq oS4 rfl ?_))
      rw [hname]
      refine wpAny_pure ⟨plainId_quiet PySem.F.plain_min_loop _, wr rfl (get?_update_seq oS4 fun _ => #[v0, u]) ?_⟩
      rw [tk1]
      refine ⟨List.mem_singleton.mpr rfl, fun z hz => ?_⟩
      rw [List.mem_singleton.mp hz]
      exact O.refl _
    | some t =>
      obtain ⟨y', v', x', u'⟩ := t
      obtain ⟨ryv, rxu', hy', hb, dp'⟩ := hst
      have oS4 : s2.heap.get? S = some (seqObj "list" #[v', u'] c) := oS4
      obtain ⟨as, r1⟩ := Dp.reads J _ _ _ (g2 H4 ⟨si4, fun _ _ _ e => e⟩) rxu
      obtain ⟨bs, r2⟩ := Dp.reads J _ _ _ (dp' H4 (kp4 H4 ⟨si4, fun _ _ _ e => e⟩)) rxu'
      have go := rcLt_D (kd y) (kd y') X.A.in1 s2 u u' as bs r1 r2 (SeqAt.canLay_of_shaped (shp _ hy)) (SeqAt.canLay_of_shaped (shp _ hy')) (cmp _ hy _ hy') (SeqAt.room_of_shaped (shp _ hy) (by show X.A.units + 1 + 64 < _; omega))
      show wpAny _ X.A.in1 (tryCatch (holding [v0, u] (richCompare .Lt u u' >>= _)) _ >>= _) _ _ _
      refine (wpAny_bind (wpAny_tryCatch (wpAny_holding (wpAny_bind (go X.prog X.w _ _ ?_)))))
      refine (wpAny_bind (wpAny_holding (wpAny_truthy_bool ?_)))
      refine (wpAny_bind (wpAny_letGo (wpAny_pure ?_)))
      rw [← hbt]
      cases hb' : bt y y' with
      | true =>
        simp only [if_true]
        refine (wpAny_bind (wpAny_updateSeq oS4 rfl (wpAny_bind (wpAny_letGo ?_))))
        rw [hname]
        refine wpAny_pure ⟨plainId_quiet PySem.F.plain_min_loop _, wr rfl (get?_update_seq oS4 fun _ => #[v0, u]) ?_⟩
        rw [tk1]
        refine ⟨List.mem_append_right _ (List.mem_singleton.mpr rfl), fun z hz => ?_⟩
        rcases List.mem_append.mp hz with hz | hz
        · exact O.tr _ _ _ (O.asym _ _ hb') (hb.2 z hz)
        · rw [List.mem_singleton.mp hz]
          exact O.refl _
      | false =>
        simp only [Bool.false_eq_true, if_false]
        refine (wpAny_bind (wpAny_letGo ?_))
        rw [hname]
        refine wpAny_pure ⟨plainId_quiet PySem.F.plain_min_loop _, ih (i + 1) (by omega) _ _ c (some (y', v', x', u')) J si4 nI4 hit4 eS4 ⟨ryv, rxu', hy', ?_, fun H3 z => dp' H3 (kp4 H3 z)⟩⟩
        rw [tk1]
        refine ⟨List.mem_append_left _ hb.1, fun z hz => ?_⟩
        rcases List.mem_append.mp hz with hz | hz
        · exact hb.2 z hz
        · rw [List.mem_singleton.mp hz]
          exact hb'
theorem cr_minF {X : Cx} {k j : Nat} (hr : Room j X.A) (hk : k + 2 ≤ j) (hu : X.A.units + 70 < cLine) (hc : X.calm = true) : CallRK X (.builtin "min") [Str.ofString "key", Str.ofString "default"] (rMmF X.prog X.w X.K X.mg X.base k false) := by
  intro pins s σ H vs zs us ws Q I r rz ask
  obtain ⟨a, f, sp, ys, kd, bt, df, rfl, rfl, hs, HD, prom, shp, cmp, hbt, O, q⟩ := ask
  obtain rfl := Vals.ref1 r
  cases rz with
  | cons e1 rz =>
    cases rz with
    | @cons _ dv _ _ e2 rz =>
      cases rz
      obtain rfl : _ = Value.ref f := e1
      obtain ⟨its, rv, pl, hz⟩ := I.list hs
      have lt : a < s.heap.objs.size := by obtain ⟨o, ho, _⟩ := pl.isList; exact Heap.lt_size ho
      refine kmk_tree PySem.F.kind_min PySem.F.plain_min PySem.F.entry_min (args_min_key_default _ _ _) ?_
      show wpAny _ X.A.in1 (Builtin.Builtins.bindParams "min" ["key", "default"] 0 ⟨[], [(Str.ofString "key", .ref f), (Str.ofString "default", dv)]⟩ >>= _) _ _ s
      refine (wpAny_bind (wpAny_of_eq (show Builtin.Builtins.bindParams "min" ["key", "default"] 0 ⟨[], [(Str.ofString "key", .ref f), (Str.ofString "default", dv)]⟩ = pure [some (.ref f), some dv] from rfl) ?_))
      refine (wpAny_bind (wpAny_pure ?_))
      refine (wpAny_bind (wpAny_pyIter_list pl.isList ?_))
      refine (wpAny_bind (wpAny_newList ?_ (Nat.zero_le _)))
      show wpAny _ X.A.in1 (pure _) _ _ _
      refine wpAny_pure ⟨plainId_quiet PySem.F.plain_min_loop _, ?_⟩
      have gI : (s.heap.push { cls := .type "list_iterator", data := .fields #[.ref a, .int 0 0] }).get? s.heap.objs.size = some { cls := .type "list_iterator", data := .fields #[.ref a, .int 0 0] } := Heap.get?_push_size _ rfl
      have nI : H s.heap.objs.size = none := I.hok.fresh (Nat.le_refl _)
      have fp0 : FpOk X pins H s.heap.objs.size := I.fpOk (Nat.le_refl _) nI
      have I1 : Inv X pins σ H { s with heap := s.heap.push { cls := .type "list_iterator", data := .fields #[.ref a, .int 0 0] } } := I.kept (t' := s.toks) push_keep
      have sz := size_push' s.heap { cls := .type "list_iterator", data := .fields #[.ref a, .int 0 0] }
      have nS0 : H (s.heap.push { cls := .type "list_iterator", data := .fields #[.ref a, .int 0 0] }).objs.size = none := I1.hok.fresh (Nat.le_refl _)
      have nIS : s.heap.objs.size ≠ (s.heap.push { cls := .type "list_iterator", data := .fields #[.ref a, .int 0 0] }).objs.size := by rw [sz]; exact Nat.ne_of_lt (Nat.lt_succ_self _)
      have I2 := I1.laid (o := .ext fun h => h.get? (s.heap.push { cls := .type "list_iterator", data := .fields #[.ref a, .int 0 0] }).objs.size = some (seqObj "list" (stA none) 0)) (h' := (s.heap.push { cls := .type "list_iterator", data := .fields #[.ref a, .int 0 0] }).push (seqObj "list" #[] 0)) (t' := s.toks) push_keep (Nat.le_refl _) ⟨Heap.get?_push_size _ rfl, ⟨_, Heap.get?_push_size _ rfl⟩, fun h1 h2 z g => g _ z⟩
      have naS : a ≠ (s.heap.push { cls := .type "list_iterator", data := .fields #[.ref a, .int 0 0] }).objs.size := by rw [sz]; exact Nat.ne_of_lt (Nat.lt_succ_of_lt lt)
      have naI : a ≠ s.heap.objs.size := Nat.ne_of_lt lt
      refine min_loopF hr hk hu hc HD prom shp cmp (fun y z => hbt y z) O hs e2 q fp0 nS0 nIS naI naS ys.length 0 (Nat.zero_add _) _ _ 0 none I2 (fun b o e => ?_) ?_ ?_ upd_same rfl
      · rw [upd_ne (ne_of_none e nS0)]
        exact e
      · rw [upd_ne nIS]
        exact nI
      · exact ⟨_, push_keep _ _ gI, rfl, rfl⟩
end
section
open PySem.SeqAt PySem.W
theorem max_loopF {X : Cx} {k j : Nat} (hr : Room j X.A) (hk : k + 2 ≤ j) (hu : X.A.units + 70 < cLine) (hc : X.calm = true) {pins : List (Addr × Obj)} {σ : L2.St} {H : Hp} {Q : VK} {a f : Addr} {sp : Sp} {ys : List V} {kd : V → PyData} {bt : V → V → Bool} {df : V} {dv : Value} {E : Value → Shared → Prop}
    (HD : Hd X.prog X.w X.K X.mg X.base k f sp) (prom : ∀ y ∈ ys, ∀ (H1 : Hp) (R : VK), Same H H1 → (∀ u H2, Same H1 H2 → (∀ H3, Kp3 H H2 H3 → Dp X.K H3 u (kd y)) → R u H2) → sp [y] H1 R E0)
    (shp : ∀ y ∈ ys, SeqAt.shaped (kd y) = true) (cmp : ∀ y ∈ ys, ∀ z ∈ ys, okD (kd y) (kd z) = true) (hbt : ∀ y z, bt y z = gtD (kd y) (kd z)) (O : SrtO.Swo bt) (sq : SqL X.K H a ys) (rd : RelV df dv)
    (q : ∀ H', Same H H' → (ys = [] → Q df H') ∧ (∀ y, bestV bt ys y → Q y H')) {I S : Addr} (fp0 : FpOk X pins H I) (nS : H S = none) (nIS : I ≠ S) (naI : a ≠ I) (naS : a ≠ S) :
    ∀ (r i : Nat), i + r = ys.length → ∀ (s : Shared) (Hi : Hp) (c : Nat) (st : Option (V × Value × V × Value)), Inv X pins σ Hi s → Same H Hi → Hi I = none → s.heap.IsListIter I a i →
      Hi S = some (.ext fun h => h.get? S = some (seqObj "list" (stA st) c)) →
      (match st with | none => i = 0 | some (y, v, x, u) => RelV y v ∧ RelV x u ∧ y ∈ ys ∧ bestV bt (ys.take i) y ∧ ∀ H3, Kp3 H Hi H3 → Dp X.K H3 x (kd y)) →
      codeAny (model X.prog X.w) X.A (.builtin "max.loop" ⟨[.ref I, .ref f, .ref S], [(Str.ofString "default", dv)]⟩) (fun r s' => match r with | .ok (.ret v) => EP X pins σ Q v s' | .ok _ => False | .error e => E e s') s := by
  obtain ⟨fd, ps, F, kp, bnd⟩ := HD.ex
  have hname : (toString "max" ++ toString ".loop" : String) = "max.loop" := by decide
  intro r
  induction r with
  | zero =>
    intro i hi s Hi c st Ii si nIi hit eS hst
    obtain ⟨oS, _⟩ := Ii.hok S _ eS
    have oS : s.heap.get? S = some (seqObj "list" (stA st) c) := oS
    obtain ⟨its, rv, pl, hz⟩ := Ii.list (SqL.same si sq)
    have lz : its.length = ys.length := rv.length.symm
    have W := Walks.list (prog := X.prog) (w := X.w) (A := X.A.in1) (Ii.ok.hd hc) I a naI its.toArray
    refine codeAny_builtin PySem.F.entry_max_loop ?_
    rw [Around.under_plainId PySem.F.plain_max_loop _]
    show wpAny _ X.A.in1 (seqItems? (.ref S) >>= _) _ _ s
    refine (wpAny_bind (wpAny_seqItems oS rfl ?_))
    show wpAny _ X.A.in1 (tryCatch (pyNext (.ref I)) _ >>= _) _ _ s
    refine (wpAny_bind (wpAny_tryCatch (W.done s _ _ ⟨by rw [List.size_toArray, lz, ← hi, Nat.add_zero]; exact hit, pl.isList⟩ fun h' tk hk2 => ?_)))
    have I2 : Inv X pins σ Hi { s with heap := h', toks := tk } := Ii.turned (it := I) (t' := tk) (fun b o hb e => hk2 b o (fun z => hb (List.mem_singleton.mp z)) e) nIi fp0.2.1 fp0.2.2.2.1 fp0.2.2.2.2.1 fp0.2.2.2.2.2
    have oS2 := hk2 S _ (fun z => nIS (List.mem_singleton.mp z).symm) oS
    cases st with
    | none =>
      refine (wpAny_bind (wpAny_rule ?_))
      refine wpAny_pure ?_
      have e0 : ys = [] := by
        subst hst
        exact List.eq_nil_of_length_eq_zero (by omega)
      exact ⟨df, _, I2, rd, (q _ si).1 e0⟩
    | some t =>
      obtain ⟨y, v, x, u⟩ := t
      obtain ⟨ryv, rxu, hy, hb, _⟩ := hst
      have oS2 : h'.get? S = some (seqObj "list" #[v, u] c) := oS2
      show wpAny _ X.A.in1 (updateSeq S (fun _ => #[]) >>= _) _ _ _
      refine (wpAny_bind (wpAny_updateSeq oS2 rfl (wpAny_bind (wpAny_letGo (wpAny_pure ?_)))))
      have hb : bestV bt ys y := by
        have hb := hb
        rw [List.take_of_length_le (by omega)] at hb
        exact hb
      have I3 := I2.write (x := S) (e := S) (o := .ext fun h => ∃ o, h.get? S = some o) (h' := h'.update S (Obj.mapSeq fun _ => (#[] : Array Value))) (t' := tk) (by rw [eS]; trivial) (.inl rfl) (fun b o nb e => by rw [Heap.get?_update_ne _ _ _ _ nb]; exact e) ⟨_, get?_update_seq oS2 fun _ => #[]⟩ ⟨⟨_, get?_update_seq oS2 fun _ => #[]⟩, ⟨_, get?_update_seq oS2 fun _ => #[]⟩, fun h1 h2 z g => by obtain ⟨o, z⟩ := z; exact ⟨o, g _ z⟩⟩
      exact ⟨y, _, I3, ryv, (q _ (fun b o e => by rw [upd_ne (ne_of_none e nS)]; exact si _ _ e)).2 y hb⟩
  | succ r ih =>
    intro i hi s Hi c st Ii si nIi hit eS hst
    have lti : i < ys.length := by omega
    obtain ⟨oS, _⟩ := Ii.hok S _ eS
    have oS : s.heap.get? S = some (seqObj "list" (stA st) c) := oS
    obtain ⟨its, rv, pl, hz⟩ := Ii.list (SqL.same si sq)
    have lz : its.length = ys.length := rv.length.symm
    have W := Walks.list (prog := X.prog) (w := X.w) (A := X.A.in1) (Ii.ok.hd hc) I a naI its.toArray
    refine codeAny_builtin PySem.F.entry_max_loop ?_
    rw [Around.under_plainId PySem.F.plain_max_loop _]
    show wpAny _ X.A.in1 (seqItems? (.ref S) >>= _) _ _ s
    refine (wpAny_bind (wpAny_seqItems oS rfl ?_))
    show wpAny _ X.A.in1 (tryCatch (pyNext (.ref I)) _ >>= _) _ _ s
    refine (wpAny_bind (wpAny_tryCatch (W.item i s _ _ (by rw [List.size_toArray, lz]; exact lti) ⟨hit, pl.isList⟩ fun v h' tk hx hst2 hk2 => ?_)))
    obtain ⟨hit2, _⟩ := hst2
    have hx : its[i]? = some v := by simpa using hx
    obtain ⟨v0, hv0, rel⟩ := Vals.get rv (List.getElem?_eq_getElem lti)
    obtain rfl : v0 = v := Option.some.inj (hv0.symm.trans hx)
    have hy : ys[i] ∈ ys := List.getElem_mem lti
    have hyi := List.getElem?_eq_getElem lti
    generalize ys[i] = y at rel hy hyi
    have I2 : Inv X pins σ Hi { s with heap := h', toks := tk } := Ii.turned (it := I) (t' := tk) (fun b o hb e => hk2 b o (fun z => hb (List.mem_singleton.mp z)) e) nIi fp0.2.1 fp0.2.2.2.1 fp0.2.2.2.2.1 fp0.2.2.2.2.2
    obtain ⟨oi, hoi, coi, doi⟩ := id hit2
    have Ip := I2.pinned (fp := [I]) (fun b hb => by rw [List.mem_singleton.mp hb]; exact ⟨nIi, fp0.2⟩) (fun b hb => by rw [List.mem_singleton.mp hb]; exact ⟨oi, hoi, fun v z => by rw [doi] at z; cases z⟩)
    have spy := prom y hy Hi (fun u H4 => Same Hi H4 ∧ ∀ H3, Kp3 H H4 H3 → Dp X.K H3 u (kd y)) si fun u H4 g1 g2 => ⟨g1, g2⟩
    have called : wpAny (model X.prog X.w) X.A.in1 (call (.ref f) [v0]) (fun u s2 => ∃ x H4, Inv X pins σ H4 s2 ∧ H4 I = none ∧ s2.heap.IsListIter I a (i + 1) ∧ RelV x u ∧ Same Hi H4 ∧ ∀ H3, Kp3 H H4 H3 → Dp X.K H3 x (kd y)) (fun _ _ => False) { s with heap := h', toks := tk } := by
      refine wpAny_call (codeAny_mono (F.run X.A.in1 X.stack _ Hi ⟨[v0], []⟩ [v0] [y] _ E0 ((hr.mono (Nat.le_of_succ_le hk)).in1) Ip.env0.in1 (bnd _ [v0] Ip.kIn (by rw [← F.len _ _ _ _ spy]; rfl)) (.cons rel .nil) spy) fun r s2 hq => ?_)
      match r, hq with
      | .error _, hq => exact False.elim hq
      | .ok .next, hq => exact False.elim hq
      | .ok .brk, hq => exact False.elim hq
      | .ok .cont, hq => exact False.elim hq
      | .ok (.ret u), hq =>
        obtain ⟨x, H4, J, rxv, g1, g2⟩ := Ip.after hq
        have pp := J.pin (I, oi) (List.mem_append_right _ (List.mem_append_right _ (mem_pinsAt (List.mem_singleton.mpr rfl) hoi)))
        exact ⟨x, H4, (J.unpinned (pins := [])).pins_of (fun p hp => J.pin p (List.mem_append_right _ (List.mem_append_left _ hp))), pp.2.1, ⟨oi, pp.1, coi, doi⟩, rxv, g1, g2⟩
    show wpAny _ X.A.in1 (tryCatch (holding [v0] (call (.ref f) [v0])) _ >>= _) _ _ _
    refine (wpAny_bind (wpAny_tryCatch (wpAny_holding (wpAny_mono called (fun u s2 hu2 => ?_) fun _ _ z => z.elim))))
    obtain ⟨x, H4, J, nI4, hit4, rxu, g1, g2⟩ := hu2
    have eS4 := g1 _ _ eS
    have si4 : Same H H4 := si.trans g1
    obtain ⟨oS4, _⟩ := J.hok S _ eS4
    have oS4 : s2.heap.get? S = some (seqObj "list" (stA st) c) := oS4
    have kp4 : ∀ H3, Kp3 H H4 H3 → Kp3 H Hi H3 := fun H3 z => ⟨z.1, fun b o ho e => z.2 b o ho (g1 _ _ e)⟩
    -- the best so far is written down
    have wr : ∀ {c' : Nat} (o' : s2.heap.update S (Obj.mapSeq fun _ => #[v0, u]) = s2.heap.update S (Obj.mapSeq fun _ => #[v0, u])), (s2.heap.update S (Obj.mapSeq fun _ => #[v0, u])).get? S = some (seqObj "list" #[v0, u] c') → bestV bt (ys.take (i + 1)) y →
        codeAny (model X.prog X.w) X.A (.builtin "max.loop" ⟨[.ref I, .ref f, .ref S], [(Str.ofString "default", dv)]⟩) (fun r s' => match r with | .ok (.ret v) => EP X pins σ Q v s' | .ok _ => False | .error e => E e s') { s2 with heap := s2.heap.update S (Obj.mapSeq fun _ => #[v0, u]) } := fun {c'} _ e hb => by
      have J2 := J.write (x := S) (e := S) (o := .ext fun h => h.get? S = some (seqObj "list" #[v0, u] c')) (t' := s2.toks) (by rw [eS4]; trivial) (.inl rfl) (fun b o nb z => by rw [Heap.get?_update_ne _ _ _ _ nb]; exact z) ⟨_, e⟩ ⟨e, ⟨_, e⟩, fun h1 h2 z g => g _ z⟩
      refine ih (i + 1) (by omega) _ _ c' (some (y, v0, x, u)) J2 (fun b o z => ?_) ?_ ?_ upd_same ⟨rel, rxu, hy, hb, fun H3 z => g2 H3 ⟨z.1, fun b o ho e9 => z.2 b o ho ?_⟩⟩
      · rw [upd_ne (ne_of_none z nS)]
        exact si4 _ _ z
      · rw [upd_ne nIS]
        exact nI4
      · exact hit4.at fun o e => by rw [Heap.get?_update_ne _ _ _ _ nIS]; exact e
      · rw [upd_ne (fun z => ?_)]
        · exact e9
        · subst z
          rw [eS4] at e9
          cases e9
          rcases ho with ⟨xs, z⟩ | ⟨q', u', z⟩ <;> cases z
    have tk1 : ys.take (i + 1) = ys.take i ++ [y] := by rw [List.take_add_one, hyi]; rfl
    cases st with
    | none =>
      have i0 : i = 0 := hst
      have oS4 : s2.heap.get? S = some (seqObj "list" #[] c) := oS4
      subst i0
      show wpAny _ X.A.in1 (updateSeq S (fun _ => #[v0, u]) >>= _) _ _ _
      refine (wpAny_bind (wpAny_updateSeq oS4 rfl ?_))
      rw [hname]
      refine wpAny_pure ⟨plainId_quiet PySem.F.plain_max_loop _, wr rfl (get?_update_seq oS4 fun _ => #[v0, u]) ?_⟩
      rw [tk1]
      refine ⟨List.mem_singleton.mpr rfl, fun z hz => ?_⟩
      rw [List.mem_singleton.mp hz]
      exact O.refl _
    | some t =>
      obtain ⟨y', v', x', u'⟩ := t
      obtain ⟨ryv, rxu', hy', hb, dp'⟩ := hst
      have oS4 : s2.heap.get? S = some (seqObj "list" #[v', u'] c) := oS4
      obtain ⟨as, r1⟩ := Dp.reads J _ _ _ (g2 H4 ⟨si4, fun _ _ _ e => e⟩) rxu
      obtain ⟨bs, r2⟩ := Dp.reads J _ _ _ (dp' H4 (kp4 H4 ⟨si4, fun _ _ _ e => e⟩)) rxu'
      have go := rcGt_D (kd y) (kd y') X.A.in1 s2 u u' as bs r1 r2 (SeqAt.canLay_of_shaped (shp _ hy)) (SeqAt.canLay_of_shaped (shp _ hy')) (cmp _ hy _ hy') (SeqAt.room_of_shaped (shp _ hy) (by show X.A.units + 1 + 64 < _; omega))
      show wpAny _ X.A.in1 (tryCatch (holding [v0, u] (richCompare .Gt u u' >>= _)) _ >>= _) _ _ _
      refine (wpAny_bind (wpAny_tryCatch (wpAny_holding (wpAny_bind (go X.prog X.w _ _ ?_)))))
      refine (wpAny_bind (wpAny_holding (wpAny_truthy_bool ?_)))
      refine (wpAny_bind (wpAny_letGo (wpAny_pure ?_)))
      rw [← hbt]
      cases hb' : bt y y' with
      | true =>
        simp only [if_true]
        refine (wpAny_bind (wpAny_updateSeq oS4 rfl (wpAny_bind (wpAny_letGo ?_))))
        rw [hname]
        refine wpAny_pure ⟨plainId_quiet PySem.F.plain_max_loop _, wr rfl (get?_update_seq oS4 fun _ => #[v0, u]) ?_⟩
        rw [tk1]
        refine ⟨List.mem_append_right _ (List.mem_singleton.mpr rfl), fun z hz => ?_⟩
        rcases List.mem_append.mp hz with hz | hz
        · exact O.tr _ _ _ (O.asym _ _ hb') (hb.2 z hz)
        · rw [List.mem_singleton.mp hz]
          exact O.refl _
      | false =>
        simp only [Bool.false_eq_true, if_false]
        refine (wpAny_bind (wpAny_letGo ?_))
        rw [hname]
        refine wpAny_pure ⟨plainId_quiet PySem.F.plain_max_loop _, ih (i + 1) (by omega) _ _ c (some (y', v', x', u')) J si4 nI4 hit4 eS4 ⟨ryv, rxu', hy', ?_, fun H3 z => dp' H3 (kp4 H3 z)⟩⟩
        rw [tk1]
        refine ⟨List.mem_append_left _ hb.1, fun z hz => ?_⟩
        rcases List.mem_append.mp hz with hz | hz
        · exact hb.2 z hz
        · rw [List.mem_singleton.mp hz]
          exact hb'
theorem cr_maxF {X : Cx} {k j : Nat} (hr : Room j X.A) (hk : k + 2 ≤ j) (hu : X.A.units + 70 < cLine) (hc : X.calm = true) : CallRK X (.builtin "max") [Str.ofString "key", Str.ofString "default"] (rMmF X.prog X.w X.K X.mg X.base k true) := by
  intro pins s σ H vs zs us ws Q I r rz ask
  obtain ⟨a, f, sp, ys, kd, bt, df, rfl, rfl, hs, HD, prom, shp, cmp, hbt, O, q⟩ := ask
  obtain rfl := Vals.ref1 r
  cases rz with
  | cons e1 rz =>
    cases rz with
    | @cons _ dv _ _ e2 rz =>
      cases rz
      obtain rfl : _ = Value.ref f := e1
      obtain ⟨its, rv, pl, hz⟩ := I.list hs
      have lt : a < s.heap.objs.size := by obtain ⟨o, ho, _⟩ := pl.isList; exact Heap.lt_size ho
      refine kmk_tree PySem.F.kind_max PySem.F.plain_max PySem.F.entry_max (args_max_key_default _ _ _) ?_
      show wpAny _ X.A.in1 (Builtin.Builtins.bindParams "max" ["key", "default"] 0 ⟨[], [(Str.ofString "key", .ref f), (Str.ofString "default", dv)]⟩ >>= _) _ _ s
      refine (wpAny_bind (wpAny_of_eq (show Builtin.Builtins.bindParams "max" ["key", "default"] 0 ⟨[], [(Str.ofString "key", .ref f), (Str.ofString "default", dv)]⟩ = pure [some (.ref f), some dv] from rfl) ?_))
      refine (wpAny_bind (wpAny_pure ?_))
      refine (wpAny_bind (wpAny_pyIter_list pl.isList ?_))
      refine (wpAny_bind (wpAny_newList ?_ (Nat.zero_le _)))
      show wpAny _ X.A.in1 (pure _) _ _ _
      refine wpAny_pure ⟨plainId_quiet PySem.F.plain_max_loop _, ?_⟩
      have gI : (s.heap.push { cls := .type "list_iterator", data := .fields #[.ref a, .int 0 0] }).get? s.heap.objs.size = some { cls := .type "list_iterator", data := .fields #[.ref a, .int 0 0] } := Heap.get?_push_size _ rfl
      have nI : H s.heap.objs.size = none := I.hok.fresh (Nat.le_refl _)
      have fp0 : FpOk X pins H s.heap.objs.size := I.fpOk (Nat.le_refl _) nI
      have I1 : Inv X pins σ H { s with heap := s.heap.push { cls := .type "list_iterator", data := .fields #[.ref a, .int 0 0] } } := I.kept (t' := s.toks) push_keep
      have sz := size_push' s.heap { cls := .type "list_iterator", data := .fields #[.ref a, .int 0 0] }
      have nS0 : H (s.heap.push { cls := .type "list_iterator", data := .fields #[.ref a, .int 0 0] }).objs.size = none := I1.hok.fresh (Nat.le_refl _)
      have nIS : s.heap.objs.size ≠ (s.heap.push { cls := .type "list_iterator", data := .fields #[.ref a, .int 0 0] }).objs.size := by rw [sz]; exact Nat.ne_of_lt (Nat.lt_succ_self _)
      have I2 := I1.laid (o := .ext fun h => h.get? (s.heap.push { cls := .type "list_iterator", data := .fields #[.ref a, .int 0 0] }).objs.size = some (seqObj "list" (stA none) 0)) (h' := (s.heap.push { cls := .type "list_iterator", data := .fields #[.ref a, .int 0 0] }).push (seqObj "list" #[] 0)) (t' := s.toks) push_keep (Nat.le_refl _) ⟨Heap.get?_push_size _ rfl, ⟨_, Heap.get?_push_size _ rfl⟩, fun h1 h2 z g => g _ z⟩
      have naS : a ≠ (s.heap.push { cls := .type "list_iterator", data := .fields #[.ref a, .int 0 0] }).objs.size := by rw [sz]; exact Nat.ne_of_lt (Nat.lt_succ_of_lt lt)
      have naI : a ≠ s.heap.objs.size := Nat.ne_of_lt lt
      refine max_loopF hr hk hu hc HD prom shp cmp (fun y z => hbt y z) O hs e2 q fp0 nS0 nIS naI naS ys.length 0 (Nat.zero_add _) _ _ 0 none I2 (fun b o e => ?_) ?_ ?_ upd_same rfl
      · rw [upd_ne (ne_of_none e nS0)]
        exact e
      · rw [upd_ne nIS]
        exact nI
      · exact ⟨_, push_keep _ _ gI, rfl, rfl⟩
end
section
variable {P : Program} {w : World} {K : PySem.W.Frag} {mg : Str → Option Value} {base : Heap} {X : Cx} {k j : Nat}
theorem hu70 {A : Around} (hr : Room j A) : A.units + 70 < cLine := by have := hr.un; omega
theorem cr_minFK (hr : Room j X.A) (hk : k + 2 ≤ j) (h1 : X.prog = P := by rfl) (h2 : X.w = w := by rfl) (h3 : X.K = K := by rfl) (h4 : X.mg = mg := by rfl) (h5 : X.base = base := by rfl) (hc : X.calm = true := by rfl) : CallRK X (.builtin "min") [Str.ofString "key", Str.ofString "default"] (rMmF P w K mg base k false) := by
  subst h1 h2 h3 h4 h5
  exact cr_minF hr hk (hu70 hr) hc
theorem cr_maxFK (hr : Room j X.A) (hk : k + 2 ≤ j) (h1 : X.prog = P := by rfl) (h2 : X.w = w := by rfl) (h3 : X.K = K := by rfl) (h4 : X.mg = mg := by rfl) (h5 : X.base = base := by rfl) (hc : X.calm = true := by rfl) : CallRK X (.builtin "max") [Str.ofString "key", Str.ofString "default"] (rMmF P w K mg base k true) := by
  subst h1 h2 h3 h4 h5
  exact cr_maxF hr hk (hu70 hr) hc
theorem cr_sortFK (hr : Room j X.A) (hk : k + 2 ≤ j) (h1 : X.prog = P := by rfl) (h2 : X.w = w := by rfl) (h3 : X.K = K := by rfl) (h4 : X.mg = mg := by rfl) (h5 : X.base = base := by rfl) : CallRK X (.builtin "sorted") [Str.ofString "key"] (rSortF P w K mg base k) := by
  subst h1 h2 h3 h4 h5
  exact cr_sortF hr hk (hu70 hr)
end

/-! ### a set of numbers and texts, made by a comprehension without tests; its length -/
section
open PpSet
variable {X : Cx}
/-- the new set is at D; W tells of the turn, of a measure, of the heap -/
def tScK (P : Program) (w : World) (wi : TI) (g : TG) (te : TE) (vs : List Nat) : TE := fun σ H Q =>
  wi σ H fun J Hi => ∀ D, Hi D = none → ∃ W : Nat → Nat → Hp → Prop,
    (∃ m, W 0 m (upd Hi D (SetK P w D (fun _ => false) 0))) ∧
    ∀ i m Hw, W i m Hw →
      (J.stop i Hw ∧ Q (.ref D) Hw) ∨
      (J.go i Hw ∧ ∃ Nx : Hp → Prop, (∀ Hn, Nx Hn → ∃ m2, m2 < m ∧ W (i + 1) m2 Hn) ∧
        ∀ x Hy, J.yld i Hw x Hy → g x (wipe σ vs) Hy fun τ Hz => wipe τ vs = wipe σ vs ∧
          te τ Hz fun y Ha => ∃ (k : Key) (S : Key → Bool) (n : Nat), y = kV k ∧ Ha D = some (SetK P w D S n) ∧ n + 1 < scanBound ∧
            Nx (upd Ha D (SetK P w D (fun j => S j || decide (j = k)) (if S k = true then n else n + 1))))
theorem pe_scK {elt tg iter : Expr} {scope : Scope} {own : List (PySem.Str × Nat)} {pos : Pos} {wi : TI} {g : TG} {te : TE} (hc : X.calm = true) (hN : X.N.Nodup) (hi : PI X tg iter wi) (ok : BlkOk X.N X.env.scope scope own)
    (hg : ∀ s0 H0 C0 cl0 fp0, PG (X.blk s0 H0 scope (compEnvC scope cl0 C0 X.env) fp0) tg g)
    (he : ∀ s0 H0 C0 cl0 fp0, PE (X.blk s0 H0 scope (compEnvC scope cl0 C0 X.env) fp0) elt te)
    (hs : ∀ x, foldedSetIterable iter X.env x = pure x := by intro _; rfl) : PE X (.SetComp elt [⟨tg, iter, [], 0⟩] scope pos) (tScK X.prog X.w wi g te (own.map (·.2))) := by
  refine ⟨fun pins s σ H Q I q0 => ?_⟩
  rw [eval_SetComp]
  have cellsThere : ∀ nk ∈ scope.names, nk.2 = .free → ∃ c, X.env.cells.lookup nk.1 = some c := by
    intro nk hm hk
    cases ok.free nk hm hk with
    | inl z => exact I.ok.has _ (.inl z)
    | inr z => exact I.ok.has _ (.inr z)
  refine wpAny_comprehension_free (use := none) rfl hs (closure_ok cellsThere) ok.kind
    (fun nk hm hk => by rw [ok.uniq nk hm, hk])
    (thn (hi.run pins s σ H _ I q0) fun v0 t1 w1 => thn w1 fun itv t2 w2 => ?_)
  obtain ⟨ia, fp, tn, J, Hj, e0, Ij, T, sj, fj, qj⟩ := w2
  subst e0
  refine newSet_ok (newEnv_comp ?_)
  generalize eD : t2.heap.objs.size = D
  have nD : Hj D = none := Ij.hok.fresh (Nat.le_of_eq eD)
  obtain ⟨W, ⟨m0, w0⟩, turn⟩ := qj D nD
  generalize et3 : ({ t2 with heap := t2.heap.push { cls := .type "set", dict := none, data := .set #[] 0 (.fresh 0 0 (!X.w.params.followText "set-order")) } } : Shared) = t3
  have heap3 : t3.heap = t2.heap.push { cls := .type "set", dict := none, data := .set #[] 0 (.fresh 0 0 (!X.w.params.followText "set-order")) } := by
    rw [← et3]
  have Id : Inv X pins σ (upd Hj D (SetK X.prog X.w D (fun _ => false) 0)) t3 := by
    rw [← et3]
    refine Ij.laid (t' := t2.toks) (fun bb oo ee => Heap.get?_push_of_some _ ee) (Nat.le_of_eq eD) ?_
    rw [← eD]
    exact setK_new ⟨_, #[], 0, _, Heap.get?_push_size _ rfl, ⟨rfl, rfl, rfl⟩, rfl, (fun e he => by simp at he), (fun k => by simp), (by decide), (by rfl), rfl⟩
  have below : ∀ b ∈ fp, b < t2.heap.objs.size := by
    intro b hb
    obtain ⟨oo, ee, _⟩ := T.obj _ _ sj b hb
    exact Heap.lt_size ee
  have fd3 : ∀ b ∈ fp, FpOk X pins (upd Hj D (SetK X.prog X.w D (fun _ => false) 0)) b ∧ b < t3.heap.objs.size := by
    intro b hb
    have lt := below b hb
    constructor
    · refine ⟨?_, (fj b hb).2⟩
      rw [upd_ne (by rw [← eD]; exact Nat.ne_of_lt lt)]
      exact (fj b hb).1
    · rw [heap3, Heap.size_push]
      exact Nat.lt_succ_of_lt lt
  have sj3 : tn 0 t3.heap := T.keep _ _ _ sj fun b _ oo ee => by
    rw [heap3]
    exact Heap.get?_push_of_some _ ee
  have Ib := block_start Id ok hN fd3
  have G := hg t3 (upd Hj D (SetK X.prog X.w D (fun _ => false) 0)) t3.heap.objs.size
    (cellsFrom (t3.heap.objs.size + 1) scope.names (cloFrom X.env.cells scope.names [])) fp
  have EE := he t3 (upd Hj D (SetK X.prog X.w D (fun _ => false) 0)) t3.heap.objs.size
    (cellsFrom (t3.heap.objs.size + 1) scope.names (cloFrom X.env.cells scope.names [])) fp
  have off : ∀ b ∈ fp, (upd Hj D (SetK X.prog X.w D (fun _ => false) 0)) b = none := fun b hb => (fd3 b hb).1.1
  show codeAny _ _ (.compStart (.SetComp elt [⟨tg, iter, [], 0⟩] scope pos) 0 (.ref ia) (.ref D)
    (compEnvC scope (cellsFrom (t3.heap.objs.size + 1) scope.names (cloFrom X.env.cells scope.names [])) t3.heap.objs.size X.env)) _
    { t3 with heap := pushCells (t3.heap.push { cls := .type "dict", data := .dict #[] }) scope.names }
  generalize ece : compEnvC scope (cellsFrom (t3.heap.objs.size + 1) scope.names (cloFrom X.env.cells scope.names []))
    t3.heap.objs.size X.env = ce at Ib G EE ⊢
  have locC : ce.locals = t3.heap.objs.size := by
    subst ece
    rfl
  generalize eHd : upd Hj D (SetK X.prog X.w D (fun _ => false) 0) = Hd at Id Ib G EE w0 off fd3
  generalize et4 : ({ t3 with heap := pushCells (t3.heap.push { cls := .type "dict", data := .dict #[] }) scope.names } : Shared) = t4 at Ib ⊢
  have sj4 : tn 0 t4.heap := T.keep _ _ _ sj3 fun b _ oo ee => by
    rw [← et4]
    exact pushCells_keeps _ _ _ _ (Heap.get?_push_of_some _ ee)
  have iterOk : ∀ {τ : L2.St} {Hx : Hp} {sx : Shared}, Inv (X.blk t3 Hd scope ce fp) [] τ Hx sx → (∀ b ∈ fp, Hx b = none) →
      ∀ b ∈ fp, FpOk (X.blk t3 Hd scope ce fp) [] Hx b := by
    intro τ Hx sx Ix hx b hb
    refine ⟨hx b hb, (Ix.ok.exf b hb).1, Ix.ok.exfs b hb, .inl hb, fun y c ee => (Ix.ok.exf b hb).2 y c ee, fun pp hpp => ?_⟩
    exact absurd (show pp ∈ ([] : List (Addr × Obj)) ++ [] from hpp) (by simp)
  refine codeAny_compStart_set ?lp (T.self X.A 0 _ _ _ sj4 ?lp)
  refine compLoopS_any (fun n sx => ∃ i Hx, Inv (X.blk t3 Hd scope ce fp) [] (wipe σ (own.map (·.2))) Hx sx ∧ tn i sx.heap ∧ (∀ b ∈ fp, Hx b = none) ∧ W i n Hx)
    ?_ m0 ⟨0, Hd, Ib, sj4, off, w0⟩
  rintro n t5 ⟨i, H5, I5, sj5, off5, w5⟩
  rcases turn i n H5 w5 with ⟨stop, fin⟩ | ⟨go, Nx, hNx, step⟩
  · have done := T.done (X.blk t3 Hd scope ce fp) rfl rfl rfl hc i [] t5 _ H5 (fun _ _ => False) I5 (iterOk I5 off5) sj5 stop
    refine thnF done fun r t6 ⟨er, I6⟩ => ?_
    subst er
    have Iout : Inv X pins σ H5 t6 := Id.call' (ch := fp) I6.os I6.base I6.hok I6.bare fun b hb =>
      ⟨(fd3 b hb).1.2.2.2.1, (fd3 b hb).1.2.1, (fd3 b hb).1.2.2.2.2.1, (fd3 b hb).1.2.2.2.2.2⟩
    have freeC : H5 t3.heap.objs.size = none := by
      have z : H5 ce.locals = none := I6.free
      rwa [locC] at z
    obtain ⟨mm, hns, _⟩ := I6.loc
    have hns : t6.heap.Ns ce.locals mm := hns
    rw [locC] at hns
    obtain ⟨f0, f1, f2, f3, f4, f5⟩ := Id.fpOk (Nat.le_refl _) freeC
    exact ⟨mm, hns, fun h'' sb => ⟨.ref D, H5, Iout.turned (t' := t6.toks) (fun bb oo hb ee => (sb.2 bb hb).trans ee) f0 f1 f3 f4 f5, rfl, fin⟩⟩
  · have item := T.item (X.blk t3 Hd scope ce fp) rfl rfl rfl hc i [] t5 _ H5 (fun _ _ => False) I5 (iterOk I5 off5) sj5 go
    refine thnF item fun r t6 ⟨u, er, w6⟩ => ?_
    subst er
    refine thnF w6 fun _ t7 ⟨y, H7, I7, r7, y7, sj7, off7⟩ => ?_
    have I7p := I7.pinned (iterOk I7 off7) (T.obj _ _ sj7)
    refine thnF (G.run _ t7 _ H7 y u _ I7p r7 (step y H7 y7)) fun _ t8 ⟨τ, H8, I8, hw, q8⟩ => ?_
    refine wpAny_tests_nil ?_
    rw [if_pos rfl]
    refine thnF (EE.run _ t8 τ H8 _ I8 q8) fun z t9 ⟨yv, H9, I9, r9, k, S, m, ey, eD9, room, nx⟩ => ?_
    subst ey
    refine thnF (mt_saddK (X := X.blk t3 Hd scope ce fp) _ t9 τ H9 (.ref D) [kV k] (.ref D) [z] (fun _ Hx => Nx Hx) I9 rfl (.cons r9 .nil) ⟨D, k, S, m, rfl, rfl, eD9, room, nx⟩) fun _ t10 ⟨_, H10, I10, _, nx10⟩ => ?_
    obtain ⟨m2, lt, w10⟩ := hNx H10 nx10
    have kept : ∀ b ∈ fp, ∀ oo, t7.heap.get? b = some oo → t10.heap.get? b = some oo ∧ H10 b = none := by
      intro b hb oo ee
      have pp := I10.pin (b, oo) (List.mem_append_right _ (List.mem_append_right _ (mem_pinsAt hb ee)))
      exact ⟨pp.1, pp.2.1⟩
    have len8 : (wipe σ (own.map (·.2))).length = τ.length := by rw [← hw, wipe_length]
    refine ⟨m2, lt, i + 1, H10, (I10.unpinned (pins := [])).weak len8 (fun j v ee => ?_), T.keep _ _ _ sj7 fun b hb oo ee => (kept b hb oo ee).1, fun b hb => ?_, w10⟩
    · rw [← hw] at ee
      exact (wipe_some ee).1
    · obtain ⟨oo, ee, _⟩ := T.obj _ _ sj7 b hb
      exact (kept b hb oo ee).2
end
/-- a walk over a list that fills a set of numbers and texts -/
theorem sck_list {P : Program} {w : World} {K : PySem.W.Frag} {a D : Addr} {xs : List V} {g : TG} {te : TE} {vs : List Nat} {σ : L2.St} {H1 : Hp} {Qd : Hp → Prop} (Pv : Nat → Hp → Prop) (h0 : Pv 0 (upd H1 D (SetK P w D (fun _ => false) 0)))
    (hl : ∀ i H, i ≤ xs.length → Pv i H → SqL K H a xs)
    (hs : ∀ i x H, xs[i]? = some x → Pv i H → g x (wipe σ vs) H fun τ Hz => wipe τ vs = wipe σ vs ∧ te τ Hz fun y Ha => ∃ (k : Key) (S : Key → Bool) (n : Nat), y = kV k ∧ Ha D = some (SetK P w D S n) ∧ n + 1 < scanBound ∧
      Pv (i + 1) (upd Ha D (SetK P w D (fun j => S j || decide (j = k)) (if S k = true then n else n + 1))))
    (hd : ∀ H, Pv xs.length H → Qd H) :
    ∃ W : Nat → Nat → Hp → Prop, (∃ m, W 0 m (upd H1 D (SetK P w D (fun _ => false) 0))) ∧
    ∀ i m Hw, W i m Hw →
      ((Itl K a).stop i Hw ∧ Qd Hw) ∨
      ((Itl K a).go i Hw ∧ ∃ Nx : Hp → Prop, (∀ Hn, Nx Hn → ∃ m2, m2 < m ∧ W (i + 1) m2 Hn) ∧
        ∀ x Hy, (Itl K a).yld i Hw x Hy → g x (wipe σ vs) Hy fun τ Hz => wipe τ vs = wipe σ vs ∧
          te τ Hz fun y Ha => ∃ (k : Key) (S : Key → Bool) (n : Nat), y = kV k ∧ Ha D = some (SetK P w D S n) ∧ n + 1 < scanBound ∧
            Nx (upd Ha D (SetK P w D (fun j => S j || decide (j = k)) (if S k = true then n else n + 1)))) := by
  refine ⟨fun i m H => m = xs.length - i ∧ i ≤ xs.length ∧ Pv i H, ⟨xs.length, rfl, Nat.zero_le _, h0⟩, ?_⟩
  rintro i m H ⟨em, hi, pv⟩
  subst em
  have sq := hl i H hi pv
  by_cases lt : i < xs.length
  · right
    refine ⟨⟨xs, xs[i], sq, by simp [lt]⟩, Pv (i + 1), fun Hn pn => ⟨xs.length - (i + 1), by omega, rfl, lt, pn⟩, fun x Hy yl => ?_⟩
    obtain ⟨e, yl⟩ := yl
    subst e
    exact hs i x _ (yl xs sq) pv
  · left
    have e : i = xs.length := by omega
    subst e
    exact ⟨⟨xs, sq, Nat.le_refl _⟩, hd H pv⟩
/-- len(s), s a set of numbers and texts -/
def rLenK (P : Program) (w : World) : List V → Hp → VK → Prop := fun xs H Q => ∃ (p : Addr) (S : Key → Bool) (n : Nat), xs = [.ref p] ∧ H p = some (SetK P w p S n) ∧ Q (.int (n : Nat)) H
theorem len_setK {X : Cx} {P : Program} {w : World} (h1 : X.prog = P := by rfl) (h2 : X.w = w := by rfl) : CallR X (.builtin "len") (rLenK P w) := by
  subst h1 h2
  intro pins s σ H xs us Q I r h
  obtain ⟨p, S, n, rfl, hp, q⟩ := h
  obtain rfl := Vals.ref1 r
  obtain ⟨o, es, ep, t, ho, hex, hd, _, _, hb, hf, rfl⟩ := setK_get I hp
  refine call_len_set ho hex hd hf (by have : scanBound = 4096 := rfl; omega) ?_
  exact ⟨.int ((es.size : Nat) : Int), H, I.tok _, ⟨_, rfl⟩, q⟩

/-! ### what is made of tuples stands where all tuples stand -/
theorem SqT.tsn {K : PySem.W.Frag} {H H' : Hp} {a : Addr} {xs : List V} (e : ∀ b o, (∃ ys, o = HO.tup ys) ∨ (∃ q u, o = HO.frz q u) → H b = some o → H' b = some o) (h : SqT K H a xs) : SqT K H' a xs := by
  rcases h with (h | ⟨o, h⟩) | h
  · exact .inl (.inl (e _ _ (.inl ⟨_, rfl⟩) h))
  · exact .inl (.inr ⟨o, e _ _ (.inr ⟨_, _, rfl⟩) h⟩)
  · exact .inr h
mutual
/-- what is made of tuples stands where all tuples stand -/
theorem Dp.tsn {K : PySem.W.Frag} {H H' : Hp} (e : ∀ b o, (∃ ys, o = HO.tup ys) ∨ (∃ q u, o = HO.frz q u) → H b = some o → H' b = some o) : ∀ (d : PyData) (v : V), tupOnly d = true → Dp K H v d → Dp K H' v d
  | .none, _, _, h => by cases h; exact .non
  | .bool b, _, _, h => by cases h; exact .bl b
  | .int i, _, _, h => by cases h; exact .int i
  | .str x, _, _, h => by cases h; exact .str x
  | .list ds, _, e', _ => by unfold tupOnly at e'; cases e'
  | .tuple ds, _, e', h => by
    unfold tupOnly at e'
    cases h with
    | tup hs ha => exact .tup (SqT.tsn e hs) (DpAll.tsn e ds _ e' ha)
  | .dict _, _, _, h => by cases h
theorem DpAll.tsn {K : PySem.W.Frag} {H H' : Hp} (e : ∀ b o, (∃ ys, o = HO.tup ys) ∨ (∃ q u, o = HO.frz q u) → H b = some o → H' b = some o) : ∀ (ds : List PyData) (vs : List V), tupOnlys ds = true → DpAll K H vs ds → DpAll K H' vs ds
  | [], _, _, h => by cases h; exact .nil
  | d :: ds, _, e', h => by
    unfold tupOnlys at e'
    rw [Bool.and_eq_true] at e'
    cases h with
    | cons h1 h2 => exact .cons (Dp.tsn e d _ e'.1 h1) (DpAll.tsn e ds _ e'.2 h2)
end

/-! ### totals of values -/
/-- the value that the heap's value is -/
def toVl : V → Vl
  | .int k => .i k
  | .str x => .s x.cps.toList
  | _ => .n
theorem toVl_v : ∀ v : Vl, toVl v.v = v
  | .n => rfl
  | .i _ => rfl
  | .s l => by
    show Vl.s (⟨l.toArray⟩ : Str).cps.toList = _
    simp
theorem bf_tri : ∀ {a b : Vl}, bf a b = false → bf b a = false → a = b
  | .n, .n, _, _ => rfl
  | .n, .i _, h, _ => by cases h
  | .n, .s _, h, _ => by cases h
  | .i _, .n, _, h => by cases h
  | .s _, .n, _, h => by cases h
  | .i _, .s _, h, _ => by cases h
  | .s _, .i _, _, h => by cases h
  | .i a, .i b, h, g => by
    have h := of_decide_eq_false h
    have g := of_decide_eq_false g
    have e : a = b := by omega
    rw [e]
  | .s l, .s m, h, g => by
    have h : decide (l < m) = false := h
    have g : decide (m < l) = false := g
    have := lt_tri l m
    rw [h, g] at this
    have e := of_decide_eq_true this.symm
    rw [e]
theorem bf_asym : ∀ a b : Vl, bf a b = true → bf b a = false
  | .n, .n, h => by cases h
  | .n, .i _, _ => rfl
  | .n, .s _, _ => rfl
  | .i _, .n, h => by cases h
  | .s _, .n, h => by cases h
  | .i _, .s _, _ => rfl
  | .s _, .i _, h => by cases h
  | .i a, .i b, h => by
    have h := of_decide_eq_true h
    exact decide_eq_false (by omega)
  | .s l, .s m, h => by
    have h : l < m := of_decide_eq_true h
    exact decide_eq_false (List.lt_asymm h)
theorem bf_tr : ∀ a b c : Vl, bf b a = false → bf c b = false → bf c a = false
  | .n, .n, .n, _, _ => rfl
  | .n, .n, .i _, _, h => h
  | .n, .n, .s _, _, h => h
  | .n, .i _, .n, _, h => by cases h
  | .n, .s _, .n, _, h => by cases h
  | .n, .i _, .i _, _, _ => rfl
  | .n, .i _, .s _, _, _ => rfl
  | .n, .s _, .i _, _, _ => rfl
  | .n, .s _, .s _, _, _ => rfl
  | .i _, .n, _, h, _ => by cases h
  | .s _, .n, _, h, _ => by cases h
  | .i _, .i _, .n, _, h => by cases h
  | .i _, .s _, .n, _, h => by cases h
  | .s _, .i _, _, h, _ => by cases h
  | .s _, .s _, .n, _, h => by cases h
  | .i a, .i b, .i c, h, g => by
    have h := of_decide_eq_false h
    have g := of_decide_eq_false g
    exact decide_eq_false (by omega)
  | .i _, .i _, .s _, _, _ => rfl
  | .i _, .s _, .s _, _, _ => rfl
  | .i _, .s _, .i _, _, h => by cases h
  | .s _, .s _, .i _, _, h => by cases h
  | .s l, .s m, .s k, h, g => by
    have h : ¬ m < l := of_decide_eq_false h
    have g : ¬ k < m := of_decide_eq_false g
    exact decide_eq_false (List.not_lt.mpr (List.le_trans (List.not_lt.mp h) (List.not_lt.mp g)))
theorem bf_swo : SrtO.Swo (fun x y : V => bf (toVl x) (toVl y)) := ⟨fun _ _ h => bf_asym _ _ h, fun _ _ _ h g => bf_tr _ _ _ h g⟩
theorem fb_swo : SrtO.Swo (fun x y : V => bf (toVl y) (toVl x)) := ⟨fun _ _ h => bf_asym _ _ h, fun _ _ _ h g => bf_tr _ _ _ g h⟩
theorem gt_d (v w : Vl) : gtD v.d w.d = bf w v := by
  cases v <;> cases w <;> simp [Vl.d, gtD, gtDs, PyData.eqv, PyData.eqvAll, bf]
  · omega
  · exact fun h e => by subst e; exact List.lt_irrefl _ h
theorem lk_lt (v w : Vl) : ltD v.lk w.lk = bf v w := by
  cases v <;> cases w <;> simp [Vl.lk, ltD, ltDs, PyData.eqv, PyData.eqvAll, bf]
  · omega
  · exact fun h e => by subst e; exact List.lt_irrefl _ h
theorem lk_ok (v w : Vl) : okD v.lk w.lk = true := by
  cases v <;> cases w <;> simp [Vl.lk, okD, okDs, PyData.eqv, PyData.eqvAll]
/-- those that are known -/
def kn0 (l : List Vl) : List Vl := l.filter fun v => !v.isN
/-- each once -/
def dist (l : List Vl) : List Vl := l.foldl (fun a x => if x ∈ a then a else a ++ [x]) []
theorem dist_snoc (l : List Vl) (x : Vl) : dist (l ++ [x]) = if x ∈ dist l then dist l else dist l ++ [x] := by
  unfold dist
  rw [List.foldl_append]
  rfl
theorem mem_dist (l : List Vl) : ∀ x, x ∈ dist l ↔ x ∈ l := by
  have go : ∀ (l a : List Vl) (x : Vl), x ∈ l.foldl (fun a x => if x ∈ a then a else a ++ [x]) a ↔ x ∈ a ∨ x ∈ l := by
    intro l
    induction l with
    | nil => exact fun a x => ⟨.inl, fun h => h.elim id (fun z => by cases z)⟩
    | cons y l ih =>
      intro a x
      rw [List.foldl_cons, ih]
      by_cases h : y ∈ a
      · rw [if_pos h]
        constructor
        · exact fun z => z.elim .inl (fun z => .inr (List.mem_cons_of_mem _ z))
        · intro z
          rcases z with z | z
          · exact .inl z
          · rcases List.mem_cons.mp z with rfl | z
            · exact .inl h
            · exact .inr z
      · rw [if_neg h]
        constructor
        · intro z
          rcases z with z | z
          · rcases List.mem_append.mp z with z | z
            · exact .inl z
            · exact .inr (by rw [List.mem_singleton.mp z]; exact List.mem_cons_self)
          · exact .inr (List.mem_cons_of_mem _ z)
        · intro z
          rcases z with z | z
          · exact .inl (List.mem_append_left _ z)
          · rcases List.mem_cons.mp z with rfl | z
            · exact .inl (List.mem_append_right _ (List.mem_singleton.mpr rfl))
            · exact .inr z
  intro x
  unfold dist
  rw [go]
  exact ⟨fun h => h.elim (fun z => by cases z) id, .inr⟩
theorem dist_len (l : List Vl) : (dist l).length ≤ l.length := by
  have go : ∀ (l a : List Vl), (l.foldl (fun a x => if x ∈ a then a else a ++ [x]) a).length ≤ a.length + l.length := by
    intro l
    induction l with
    | nil => exact fun a => Nat.le_refl _
    | cons y l ih =>
      intro a
      rw [List.foldl_cons, List.length_cons]
      by_cases h : y ∈ a
      · rw [if_pos h]
        have := ih a
        omega
      · rw [if_neg h]
        have := ih (a ++ [y])
        rw [List.length_append, List.length_singleton] at this
        omega
  have := go l []
  simpa [dist] using this
/-- the integers -/
def ints0 : List Vl → List Int
  | [] => []
  | .i k :: l => k :: ints0 l
  | _ :: l => ints0 l
theorem ints0_map : ∀ l : List Vl, (l.filter Vl.isI).map Vl.v = (ints0 l).map V.int
  | [] => rfl
  | .n :: l => ints0_map l
  | .s _ :: l => ints0_map l
  | .i k :: l => by
    show V.int k :: (l.filter Vl.isI).map Vl.v = V.int k :: (ints0 l).map V.int
    rw [ints0_map l]
/-- the least and the greatest one -/
def mn (l : List Vl) : Vl := (l.find? fun y => l.all fun z => !bf z y).getD .n
def mx (l : List Vl) : Vl := (l.find? fun y => l.all fun z => !bf y z).getD .n
theorem mn_eq {l : List Vl} {y : Vl} (h : y ∈ l) (g : ∀ z ∈ l, bf z y = false) : mn l = y := by
  unfold mn
  cases e : l.find? fun y => l.all fun z => !bf z y with
  | none =>
    have := List.find?_eq_none.mp e y h
    exact absurd (List.all_eq_true.mpr fun z hz => by rw [g z hz]; rfl) this
  | some y' =>
    have h1 := List.find?_some e
    have h2 := List.mem_of_find?_eq_some e
    have h3 := List.all_eq_true.mp h1 y h
    rw [Bool.not_eq_true'] at h3
    exact (bf_tri h3 (g y' h2)).symm
theorem mx_eq {l : List Vl} {y : Vl} (h : y ∈ l) (g : ∀ z ∈ l, bf y z = false) : mx l = y := by
  unfold mx
  cases e : l.find? fun y => l.all fun z => !bf y z with
  | none =>
    have := List.find?_eq_none.mp e y h
    exact absurd (List.all_eq_true.mpr fun z hz => by rw [g z hz]; rfl) this
  | some y' =>
    have h1 := List.find?_some e
    have h2 := List.mem_of_find?_eq_some e
    have h3 := List.all_eq_true.mp h1 y h
    rw [Bool.not_eq_true'] at h3
    exact (bf_tri (g y' h2) h3).symm
/-- the key that a set keeps of a value -/
def kOf : Vl → Key
  | .i k => .inl k
  | .s l => .inr ⟨l.toArray⟩
  | .n => .inl 0
theorem kOf_v : ∀ {v : Vl}, v.isN = false → kV (kOf v) = v.v
  | .i _, _ => rfl
  | .s _, _ => rfl
  | .n, h => by cases h
theorem kOf_inj : ∀ {v u : Vl}, v.isN = false → u.isN = false → kOf v = kOf u → v = u
  | .i _, .i _, _, _, e => by rw [Sum.inl.inj e]
  | .s _, .s _, _, _, e => by rw [mk_inj (Sum.inr.inj e)]
  | .i _, .s _, _, _, e => by cases e
  | .s _, .i _, _, _, e => by cases e
  | .n, _, h, _, _ => by cases h
  | .i _, .n, _, h, _ => by cases h
  | .s _, .n, _, h, _ => by cases h
theorem upd_same' {H : Hp} {a : Addr} {o o' : HO} (h : o = o') : upd H a o a = some o' := by rw [upd_same, h]
theorem d_tup : ∀ v : Vl, tupOnly v.d = true
  | .n => rfl
  | .i _ => rfl
  | .s _ => rfl
theorem lk_tup : ∀ v : Vl, tupOnly v.lk = true
  | .n => rfl
  | .i _ => rfl
  | .s _ => rfl
/-! the forms -/
inductive Fw where
  | dis | sum | lea | gre
def Fw.s : Fw → String
  | dis => "distinct"
  | sum => "sum"
  | lea => "least"
  | gre => "greatest"
def Fw.ev : Fw → List Vl → Vl
  | dis, l => .i (dist l).length
  | sum, l => if ints0 l = [] then .n else bnd (ints0 l).sum
  | lea, l => mn l
  | gre, l => mx l
inductive Fm where
  | cnt
  | ex (w : Fw) (e : Ep)
def Fm.d : Fm → PyData
  | cnt => .tuple [.str "count"]
  | ex w e => .tuple [.str (Str.ofString w.s), e.d]
def Fm.ev (rs : List (List Vl)) : Fm → Vl
  | cnt => .i rs.length
  | ex w e => w.ev (kn0 (rs.map fun r => e.ev r))
def Fm.ok (n : Nat) : Fm → Prop
  | cnt => True
  | ex _ e => e.ok n ∧ e.ht < 5
/-- rows in a list -/
def Rws (K : PySem.W.Frag) (H : Hp) (p : Addr) (as : List Addr) (rs : List (List Vl)) : Prop := SqL K H p (as.map V.ref) ∧ as.length = rs.length ∧ ∀ (i : Nat) (a : Addr) (r : List Vl), as[i]? = some a → rs[i]? = some r → SqT K H a (r.map Vl.v)
theorem Rws.ext {K : PySem.W.Frag} {H H' : Hp} {p : Addr} {as : List Addr} {rs : List (List Vl)} (e : Same H H') (h : Rws K H p as rs) : Rws K H' p as rs := ⟨SqL.same e h.1, h.2.1, fun i a r h1 h2 => SqT.ext e (h.2.2 i a r h1 h2)⟩
def sp_total (K : PySem.W.Frag) : Sp := fun vs H Q _ => ∃ (p : V) (ra : Addr) (as : List Addr) (fm : Fm) (rs : List (List Vl)) (n : Nat), vs = [p, .ref ra] ∧ Dp K H p fm.d ∧ Rws K H ra as rs ∧ fm.ok n ∧ (∀ r ∈ rs, r.length = n ∧ ∀ v ∈ r, v.ok) ∧ rs.length ≤ 1000 ∧ ∀ H', Same H H' → Q (fm.ev rs).v H'
def sp_xsum (K : PySem.W.Frag) : Sp := fun vs H Q _ => ∃ (p : Addr) (l : List Vl), vs = [.ref p] ∧ SqL K H p (l.map Vl.v) ∧ l.length ≤ 1000 ∧ ∀ H', Same H H' → Q (Fw.sum.ev l).v H'

section
variable {P : Program} {w : World} {K : PySem.W.Frag} {mg : Str → Option Value} {base : Heap}
theorem flt_snoc (f : Vl → Bool) {l : List Vl} {j : Nat} {v : Vl} (h : l[j]? = some v) : (l.take (j + 1)).filter f = (l.take j).filter f ++ if f v = true then [v] else [] := by
  rw [List.take_add_one, h, List.filter_append]
  show _ ++ List.filter _ [v] = _
  rw [List.filter_cons, List.filter_nil]
theorem flt_len (f : Vl → Bool) {l : List Vl} {j n : Nat} (h : l.length ≤ n) : (((l.take j).filter f).map Vl.v).length ≤ n := by
  rw [List.length_map]
  have h1 : ((l.take j).filter f).length ≤ (l.take j).length := List.length_filter_le _ _
  rw [List.length_take] at h1
  omega
theorem small1 {n : Nat} (h : n ≤ 1000) : n < sizeLine := Nat.lt_of_le_of_lt h (by decide)
theorem ok_xsum {f : Addr} {fd : FuncData} (F : Fun K "exact_sum" "exact_sum" s_exact_sum f fd) (M : Mg mg) (c_bounded : Cl P w K mg base 1 "bounded" sp_bnd) : FnOk P w K mg base CX0 2 f fd ["values"] (sp_xsum K) := by
  refine F.ok sc_exact_sum (fun vs H Q E h => ?_) (fun cdv A outer s H vs Q E hr h => ?_)
  · obtain ⟨p, l, rfl, _⟩ := h
    rfl
  · obtain ⟨p, l, rfl, hS, hl, q⟩ := h
    refine ⟨_, (pss_cons (ps_setLc (i := 1) (own := [("value", 2)]) (g := gName 2) rfl sc_exact_sum.nd rfl rfl (sw_true rfl rfl rfl (by decide +kernel)) (pi_list (pv 0)) (blkOk_by (N := N_exact_sum) (sc := defScope s_exact_sum) (by decide +kernel)) (fun _ _ _ _ _ => (pg_name (i := 2) sc_exact_sum.nd rfl (.inl rfl))) (fun _ _ _ _ _ => (pts_one (pt_val (pe_callB (isiK K) (by rfl) M.isinstance (by decide +kernel) (pa_cons (pv 2) (pa_cons (pe_bltn (v := .ty "int") (by rfl) M.int (by decide +kernel) rfl) pa_nil)))))) (fun _ _ _ _ _ => (pv 2)))
      (pss_cons (ps_if (pt_not (pt_truthK K (pv 1) (by intro _; rfl))) (pss_one (ps_ret pe_non)) pss_nil)
      (pss_one (ps_ret (pe_u c_bounded hr (by first | decide | omega) (by rfl) (pa_cons (pe_callB (cr_sum rfl) (by rfl) M.sum (by decide +kernel) (pa_cons (pv 1) pa_nil)) pa_nil)))))), ?_⟩
    refine ⟨_, rfl, p, rfl, ⟨_, hS⟩, fun D nD => ?_⟩
    refine lc_list (K := K) (a := p) (xs := l.map Vl.v) (fun j Hj => Same H Hj ∧ Hj D = some (.lst (((l.take j).filter Vl.isI).map Vl.v))) ⟨same_upd nD, upd_same⟩ (fun j Hj _ hp => SqL.same hp.1 hS) (fun j y Hj hy hp => ?_) (fun H1 hp => ?_)
    · obtain ⟨sj, eD⟩ := hp
      rw [List.getElem?_map] at hy
      obtain ⟨v, hv, rfl⟩ := Option.map_eq_some_iff.mp hy
      refine ⟨rfl, ?_⟩
      refine ⟨_, rfl, _, _, _, _, _, rfl, .ty _, v.ty, kit_ty v.kI, _, rfl, ?_⟩
      refine ite2 (fun hc => ?_) (fun hc => ?_)
      · refine ⟨_, rfl, _, eD, small1 (flt_len _ hl), fun b o e => ?_, ?_⟩
        · rw [upd_ne (ne_of_none e nD)]
          exact sj _ _ e
        · rw [upd_same, flt_snoc _ hv, if_pos hc, List.map_append]
          rfl
      · refine ⟨sj, ?_⟩
        rw [flt_snoc _ hv, if_neg hc, List.append_nil]
        exact eD
    obtain ⟨s1, eD⟩ := hp
    rw [List.length_map, List.take_of_length_le (Nat.le_refl _), ints0_map] at eD
    have q : ∀ H', Same H H' → Q (if ints0 l = [] then Vl.n else bnd (ints0 l).sum).v H' := q
    refine ⟨_, rfl, _, .inl ⟨_, .of eD, rfl⟩, ?_⟩
    generalize ints0 l = is at eD q
    cases is with
    | nil => exact iteT (q H1 s1)
    | cons k is =>
      refine iteF ⟨_, rfl, D, k :: is, rfl, .of eD, ?_⟩
      have := q H1 s1
      rw [if_neg (fun z => by cases z)] at this
      exact ⟨_, rfl, this⟩
theorem rws_at {K : PySem.W.Frag} {H : Hp} {p : Addr} {as : List Addr} {rs : List (List Vl)} (h : Rws K H p as rs) {j : Nat} {y : V} (hy : (as.map V.ref)[j]? = some y) : ∃ a r, y = .ref a ∧ rs[j]? = some r ∧ SqT K H a (r.map Vl.v) ∧ r ∈ rs := by
  rw [List.getElem?_map] at hy
  obtain ⟨a, ha, rfl⟩ := Option.map_eq_some_iff.mp hy
  have hj : j < rs.length := by
    rw [← h.2.1]
    exact (List.getElem?_eq_some_iff.mp ha).1
  exact ⟨a, rs[j], rfl, List.getElem?_eq_getElem hj, h.2.2 j a _ ha (List.getElem?_eq_getElem hj), List.getElem_mem hj⟩
theorem ok_total {f : Addr} {fd : FuncData} (F : Fun K "total" "total" s_total f fd) (M : Mg mg) (c_evaluate : Cl P w K mg base 7 "evaluate" (sp_eval K 5)) (c_exact_sum : Cl P w K mg base 2 "exact_sum" (sp_xsum K)) (c_value_key : Cl P w K mg base 1 "value_key" (sp_key K)) : FnOk P w K mg base CX0 8 f fd ["form", "rows"] (sp_total K) := by
  obtain ⟨fk, hm_value_key, hdk⟩ := c_value_key.hd
  refine F.ok sc_total (fun vs H Q E h => ?_) (fun cdv A outer s H vs Q E hr h => ?_)
  · obtain ⟨p, ra, as, fm, rs, n, rfl, _⟩ := h
    rfl
  · obtain ⟨p, ra, as, fm, rs, n, rfl, dp, hR, okf, okr, hl, q⟩ := h
    refine ⟨_, (pss_cons (ps_set (i := 2) sc_total.nd rfl (.inl rfl) (pe_ix (ix_tupK K) (pv 0) pe_int (fun _ _ => rfl)))
      (pss_cons (ps_if (pt_cmpR op_eq (pv 2) pe_str (nomark _)) (pss_one (ps_ret (pe_callB (len_seqK K) (by rfl) M.len PySem.boot_len (pa_cons (pv 1) pa_nil)))) pss_nil)
      (pss_cons (ps_setLc (i := 3) (own := [("row", 5)]) (g := gName 5) (tt := tYes) rfl sc_total.nd rfl rfl (sw_true rfl rfl rfl (by decide +kernel)) (pi_list (pv 1)) (blkOk_by (N := N_total) (sc := defScope s_total) (by decide +kernel)) (fun _ _ _ _ _ => (pg_name (i := 5) sc_total.nd rfl (.inl rfl))) (fun _ _ _ _ _ => pts_nil) (fun _ _ _ _ _ => (pe_u c_evaluate hr (by first | decide | omega) (by rfl) (pa_cons (pe_ix (ix_tupK K) (pv 0) pe_int (fun _ _ => rfl)) (pa_cons (pv 5) pa_nil)))))
      (pss_cons (ps_setLc (i := 4) (own := [("value", 6)]) (g := gName 6) rfl sc_total.nd rfl rfl (sw_true rfl rfl rfl (by decide +kernel)) (pi_list (pv 3)) (blkOk_by (N := N_total) (sc := defScope s_total) (by decide +kernel)) (fun _ _ _ _ _ => (pg_name (i := 6) sc_total.nd rfl (.inl rfl))) (fun _ _ _ _ _ => (pts_one (pt_cmpR op_notN (pv 6) pe_non (nomark _)))) (fun _ _ _ _ _ => (pv 6)))
      (pss_cons (ps_if (pt_cmpR op_eq (pv 2) pe_str (nomark _)) (pss_one (ps_ret (pe_callB (len_setK (P := P) (w := w)) (by rfl) M.len PySem.boot_len (pa_cons (pe_scK (own := [("value", 6)]) (g := gName 6) rfl sc_total.nd (pi_list (pv 4)) (blkOk_by (N := N_total) (sc := defScope s_total) (by decide +kernel)) (fun _ _ _ _ _ => (pg_name (i := 6) sc_total.nd rfl (.inl rfl))) (fun _ _ _ _ _ => (pv 6))) pa_nil)))) pss_nil)
      (pss_cons (ps_if (pt_cmpR op_eq (pv 2) pe_str (nomark _)) (pss_one (ps_ret (pe_u c_exact_sum hr (by first | decide | omega) (by rfl) (pa_cons (pv 4) pa_nil)))) pss_nil)
      (pss_cons (ps_if (pt_cmpR op_eq (pv 2) pe_str (nomark _)) (pss_one (ps_ret (pe_callBK (cr_minFK (P := P) (w := w) (K := K) (mg := mg) (base := base) (k := 1) hr (by first | decide | omega)) (by rfl) M.min (by decide +kernel) (pa_cons (pv 4) pa_nil) (pk_cons (C8.pe_gc (v := .ref _) (by rfl) ⟨_, hm_value_key, rfl⟩) (pk_cons pe_non pk_nil))))) pss_nil)
      (pss_one (ps_ret (pe_callBK (cr_maxFK (P := P) (w := w) (K := K) (mg := mg) (base := base) (k := 1) hr (by first | decide | omega)) (by rfl) M.max (by decide +kernel) (pa_cons (pv 4) pa_nil) (pk_cons (C8.pe_gc (v := .ref _) (by rfl) ⟨_, hm_value_key, rfl⟩) (pk_cons pe_non pk_nil)))))))))))), ?_⟩
    cases fm with
    | cnt =>
      obtain ⟨b, xs, rfl, hb, hx⟩ := dp_tup dp
      obtain rfl : xs = [.str "count"] := by
        cases hx with
        | cons h1 h2 =>
          cases h1
          cases h2
          rfl
      refine ⟨_, rfl, b, _, _, _, rfl, rfl, hb, atI_nat (j := 0) rfl, ?_⟩
      refine ⟨_, rfl, rfl, _, rfl, ?_⟩
      rw [weq]
      refine iteT ⟨_, rfl, ra, _, rfl, .inl hR.1, ?_⟩
      rw [List.length_map, hR.2.1]
      exact q H (.refl H)
    | ex o e =>
      obtain ⟨b, xs, rfl, hb, hx⟩ := dp_tup dp
      obtain ⟨u, rfl, hu⟩ := dp_two hx
      refine ⟨_, rfl, b, _, _, _, rfl, rfl, hb, atI_nat (j := 0) rfl, ?_⟩
      refine ⟨_, rfl, rfl, _, rfl, ?_⟩
      rw [wne _ "count" (by cases o <;> decide +kernel)]
      refine iteF ?_
      refine ⟨_, rfl, ra, rfl, ⟨_, hR.1⟩, fun D nD => ?_⟩
      refine lc_list (K := K) (a := ra) (xs := as.map V.ref) (fun j Hj => Same H Hj ∧ Hj D = some (.lst (((rs.take j).map fun r => e.ev r).map Vl.v))) ⟨same_upd nD, upd_same⟩ (fun j Hj _ hp => SqL.same hp.1 hR.1) (fun j y Hj hy hp => ?_) (fun H1 hp => ?_)
      · obtain ⟨sj, eD⟩ := hp
        obtain ⟨a, r, rfl, hr1, hT, hm⟩ := rws_at hR hy
        refine ⟨rfl, ?_⟩
        refine ⟨_, rfl, b, _, _, _, rfl, rfl, SqT.ext sj hb, atI_nat (j := 1) rfl, ?_⟩
        refine ⟨_, rfl, u, a, e, r, rfl, Dp.ext sj _ _ hu, SqT.ext sj hT, by rw [(okr r hm).1]; exact okf.1, (okr r hm).2, okf.2, fun H' s' => ?_⟩
        refine ⟨_, s' _ _ eD, ?_, fun b o eb => ?_, ?_⟩
        · rw [List.length_map, List.length_map, List.length_take]
          exact small1 (by omega)
        · rw [upd_ne (ne_of_none eb nD)]
          exact s' _ _ (sj _ _ eb)
        · rw [upd_same, List.take_add_one, hr1, List.map_append, List.map_append]
          rfl
      obtain ⟨s1, eD⟩ := hp
      rw [List.length_map, hR.2.1, List.take_of_length_le (Nat.le_refl _)] at eD
      have lok : ∀ v ∈ rs.map fun r => e.ev r, v.ok := fun v hv => by
        obtain ⟨r, hr1, rfl⟩ := List.mem_map.mp hv
        exact Ep.ev_ok (okr r hr1).2 (by rw [(okr r hr1).1]; exact okf.1)
      have lv : (rs.map fun r => e.ev r).length ≤ 1000 := by rw [List.length_map]; exact hl
      have q : ∀ H', Same H H' → Q (o.ev (kn0 (rs.map fun r => e.ev r))).v H' := q
      have sD : SqL K H1 D ((rs.map fun r => e.ev r).map Vl.v) := .of eD
      generalize (rs.map fun r => e.ev r) = l at eD lv q sD lok
      refine ⟨_, rfl, D, rfl, ⟨_, sD⟩, fun D2 nD2 => ?_⟩
      refine lc_list (K := K) (a := D) (xs := l.map Vl.v) (fun j Hj => Same H1 Hj ∧ Hj D2 = some (.lst (((l.take j).filter fun v => !v.isN).map Vl.v))) ⟨same_upd nD2, upd_same⟩ (fun j Hj _ hp => SqL.same hp.1 sD) (fun j y Hj hy hp => ?_) (fun H2 hp => ?_)
      · obtain ⟨sj, eD⟩ := hp
        rw [List.getElem?_map] at hy
        obtain ⟨v, hv, rfl⟩ := Option.map_eq_some_iff.mp hy
        refine ⟨rfl, ?_⟩
        refine ⟨_, rfl, rfl, _, rfl, ?_⟩
        rw [v.eN]
        refine ite2 (fun hc => ?_) (fun hc => ?_)
        · refine ⟨_, rfl, _, eD, small1 (flt_len _ lv), fun b o e => ?_, ?_⟩
          · rw [upd_ne (ne_of_none e nD2)]
            exact sj _ _ e
          · rw [upd_same, flt_snoc _ hv, if_pos hc, List.map_append]
            rfl
        · refine ⟨sj, ?_⟩
          rw [flt_snoc _ hv, if_neg hc, List.append_nil]
          exact eD
      obtain ⟨s2, eD2⟩ := hp
      rw [List.length_map, List.take_of_length_le (Nat.le_refl _)] at eD2
      have lk : (kn0 l).length ≤ 1000 := Nat.le_trans (List.length_filter_le _ _) lv
      have kno : ∀ v ∈ kn0 l, v.isN = false := fun v hv => by
        have := (List.mem_filter.mp hv).2
        simpa using this
      have sK : SqL K H2 D2 ((kn0 l).map Vl.v) := .of eD2
      have q : ∀ H', Same H2 H' → Q (o.ev (kn0 l)).v H' := fun H' s' => q H' ((s1.trans s2).trans s')
      have kok : ∀ v ∈ kn0 l, v.ok := fun v hv => lok v (List.mem_filter.mp hv).1
      generalize kn0 l = ks at lk kno sK q kok
      clear eD2 sD eD
      refine ⟨_, rfl, rfl, _, rfl, ?_⟩
      cases o with
      | dis =>
        rw [show decide (V.str (Str.ofString Fw.dis.s) = V.str (Str.ofString "distinct")) = true from decide_eq_true rfl]
        refine iteT ?_
        refine ⟨_, rfl, D2, rfl, ⟨_, sK⟩, fun D3 nD3 => ?_⟩
        refine sck_list (P := P) (w := w) (K := K) (a := D2) (D := D3) (xs := ks.map Vl.v) (fun j Hj => Same H2 Hj ∧ ∃ S : Key → Bool, Hj D3 = some (SetK P w D3 S (dist (ks.take j)).length) ∧ ∀ k, S k = true ↔ ∃ v ∈ dist (ks.take j), kOf v = k) ⟨same_upd nD3, fun _ => false, upd_same, fun k => Iff.intro (fun z => by cases z) (fun z => by obtain ⟨v, hv, _⟩ := z; exact absurd ((mem_dist _ _).mp hv) List.not_mem_nil)⟩ (fun j Hj _ hp => SqL.same hp.1 sK) (fun j y Hj hy hp => ?_) (fun H3 hp => ?_)
        · obtain ⟨sj, S, eS, hS⟩ := hp
          rw [List.getElem?_map] at hy
          obtain ⟨v, hv, rfl⟩ := Option.map_eq_some_iff.mp hy
          have hvn := kno v (List.mem_of_getElem? hv)
          have etk : dist (ks.take (j + 1)) = if v ∈ dist (ks.take j) then dist (ks.take j) else dist (ks.take j) ++ [v] := by
            rw [List.take_add_one, hv]
            exact dist_snoc _ _
          have hd1 : (dist (ks.take j)).length ≤ 1000 := by
            have h1 := dist_len (ks.take j)
            rw [List.length_take] at h1
            omega
          have hSv : S (kOf v) = true ↔ v ∈ dist (ks.take j) := by
            rw [hS]
            constructor
            · rintro ⟨v', h1, h2⟩
              have := kno v' (List.mem_of_mem_take ((mem_dist _ _).mp h1))
              rw [← kOf_inj this hvn h2]
              exact h1
            · exact fun h => ⟨v, h, rfl⟩
          refine ⟨rfl, ?_⟩
          refine ⟨_, rfl, kOf v, S, _, (kOf_v hvn).symm, eS, ?_, fun b o eb => ?_, fun j => S j || decide (j = kOf v), upd_same' (congrArg (SetK P w D3 fun j => S j || decide (j = kOf v)) ?_), fun k => ?_⟩
          · show _ + 1 < 4096
            omega
          · rw [upd_ne (ne_of_none eb nD3)]
            exact sj _ _ eb
          · rw [etk]
            by_cases h : v ∈ dist (ks.take j)
            · rw [if_pos h, if_pos (hSv.mpr h)]
            · rw [if_neg h, if_neg (fun z => h (hSv.mp z)), List.length_append, List.length_singleton]
          · rw [Bool.or_eq_true, hS, decide_eq_true_iff, etk]
            by_cases h : v ∈ dist (ks.take j)
            · rw [if_pos h]
              exact ⟨fun z => z.elim id fun z => ⟨v, h, z.symm⟩, .inl⟩
            · rw [if_neg h]
              constructor
              · intro z
                rcases z with ⟨v', h1, h2⟩ | z
                · exact ⟨v', List.mem_append_left _ h1, h2⟩
                · exact ⟨v, List.mem_append_right _ (List.mem_singleton.mpr rfl), z.symm⟩
              · rintro ⟨v', h1, h2⟩
                rcases List.mem_append.mp h1 with h1 | h1
                · exact .inl ⟨v', h1, h2⟩
                · rw [List.mem_singleton.mp h1] at h2
                  exact .inr h2.symm
        obtain ⟨s3, S, eS, _⟩ := hp
        rw [List.length_map, List.take_of_length_le (Nat.le_refl _)] at eS
        exact ⟨D3, S, _, rfl, eS, q H3 s3⟩
      | sum =>
        rw [wne Fw.sum.s "distinct" (by decide +kernel)]
        refine iteF ⟨_, rfl, rfl, _, rfl, ?_⟩
        rw [show decide (V.str (Str.ofString Fw.sum.s) = V.str (Str.ofString "sum")) = true from decide_eq_true rfl]
        exact iteT ⟨_, rfl, D2, ks, rfl, sK, lk, q⟩
      | lea =>
        rw [wne Fw.lea.s "distinct" (by decide +kernel)]
        refine iteF ⟨_, rfl, rfl, _, rfl, ?_⟩
        rw [wne Fw.lea.s "sum" (by decide +kernel)]
        refine iteF ⟨_, rfl, rfl, _, rfl, ?_⟩
        rw [show decide (V.str (Str.ofString Fw.lea.s) = V.str (Str.ofString "least")) = true from decide_eq_true rfl]
        refine iteT ⟨_, rfl, ?_⟩
        refine ⟨D2, fk, sp_key K, ks.map Vl.v, fun y => (toVl y).d, fun y z => bf (toVl y) (toVl z), .non, rfl, rfl, sK, hdk, fun y hy Hx R sx k => ?_, fun y hy => ?_, fun y _ z _ => ok_d _ _, fun y z => (lt_d _ _).symm, bf_swo, fun H' s' => ⟨fun e => ?_, fun y hb => ?_⟩⟩
        · rw [List.mem_map] at hy
          obtain ⟨v, hv, rfl⟩ := hy
          refine ⟨v, rfl, fun H' p' s' dp' => k _ _ s' fun H3 kp3 => ?_⟩
          show Dp K H3 (.ref p') (toVl v.v).d
          rw [toVl_v]
          exact Dp.tsn kp3.2 _ _ (d_tup v) dp'
        · rw [List.mem_map] at hy
          obtain ⟨v, hv, rfl⟩ := hy
          show SeqAt.shaped (toVl v.v).d = true
          rw [toVl_v]
          exact key_shaped v (kok v hv)
        · have e : ks = [] := by cases ks with
            | nil => rfl
            | cons a b => cases e
          subst e
          exact q H' s'
        · obtain ⟨h1, h2⟩ := hb
          rw [List.mem_map] at h1
          obtain ⟨v, hv, rfl⟩ := h1
          have e : mn ks = v := mn_eq hv fun z hz => by
            have : bf (toVl z.v) (toVl v.v) = false := h2 z.v (List.mem_map.mpr ⟨z, hz, rfl⟩)
            rw [toVl_v, toVl_v] at this
            exact this
          have := q H' s'
          rw [show (Fw.lea).ev ks = v from e] at this
          exact this
      | gre =>
        rw [wne Fw.gre.s "distinct" (by decide +kernel)]
        refine iteF ⟨_, rfl, rfl, _, rfl, ?_⟩
        rw [wne Fw.gre.s "sum" (by decide +kernel)]
        refine iteF ⟨_, rfl, rfl, _, rfl, ?_⟩
        rw [wne Fw.gre.s "least" (by decide +kernel)]
        refine iteF ⟨_, rfl, ?_⟩
        refine ⟨D2, fk, sp_key K, ks.map Vl.v, fun y => (toVl y).d, fun y z => bf (toVl z) (toVl y), .non, rfl, rfl, sK, hdk, fun y hy Hx R sx k => ?_, fun y hy => ?_, fun y _ z _ => ok_d _ _, fun y z => (gt_d _ _).symm, fb_swo, fun H' s' => ⟨fun e => ?_, fun y hb => ?_⟩⟩
        · rw [List.mem_map] at hy
          obtain ⟨v, hv, rfl⟩ := hy
          refine ⟨v, rfl, fun H' p' s' dp' => k _ _ s' fun H3 kp3 => ?_⟩
          show Dp K H3 (.ref p') (toVl v.v).d
          rw [toVl_v]
          exact Dp.tsn kp3.2 _ _ (d_tup v) dp'
        · rw [List.mem_map] at hy
          obtain ⟨v, hv, rfl⟩ := hy
          show SeqAt.shaped (toVl v.v).d = true
          rw [toVl_v]
          exact key_shaped v (kok v hv)
        · have e : ks = [] := by cases ks with
            | nil => rfl
            | cons a b => cases e
          subst e
          exact q H' s'
        · obtain ⟨h1, h2⟩ := hb
          rw [List.mem_map] at h1
          obtain ⟨v, hv, rfl⟩ := h1
          have e : mx ks = v := mx_eq hv fun z hz => by
            have : bf (toVl v.v) (toVl z.v) = false := h2 z.v (List.mem_map.mpr ⟨z, hz, rfl⟩)
            rw [toVl_v, toVl_v] at this
            exact this
          have := q H' s'
          rw [show (Fw.gre).ev ks = v from e] at this
          exact this
end

/-! ### x in l of data -/
theorem hu65 {k : Nat} {A : Around} (hr : Room k A) : A.units + 65 < cLine := by have := hr.un; omega
theorem inDK {X : Cx} (K : PySem.W.Frag) (hu : X.A.units + 65 < cLine) (h : X.K = K := by rfl) : OpR X (compareOp .In) (rInD K) := by subst h; exact op_inD hu
theorem notInDK {X : Cx} (K : PySem.W.Frag) (hu : X.A.units + 65 < cLine) (h : X.K = K := by rfl) : OpR X (compareOp .NotIn) (rNotInD K) := by subst h; exact op_notInD hu

/-! ### the law's totals -/
theorem bf_irr : ∀ v : Vl, bf v v = false
  | .n => rfl
  | .i k => decide_eq_false (by omega)
  | .s l => decide_eq_false (List.lt_irrefl l)
theorem lk_swo : SrtO.Swo (fun y z : V => ltD (toVl y).lk (toVl z).lk) := by
  rw [show (fun y z : V => ltD (toVl y).lk (toVl z).lk) = fun y z => bf (toVl y) (toVl z) from funext fun y => funext fun z => lk_lt _ _]
  exact bf_swo
theorem lk_key (v : Vl) (h : v.ok) : KeyD true v.lk := by
  refine ⟨?_, ?_, ?_⟩
  · cases v with
    | n => exact ⟨_, _, rfl, by rw [if_pos rfl]; exact ⟨_, rfl⟩⟩
    | i k => exact ⟨_, _, rfl, by rw [if_pos rfl]; exact ⟨_, rfl⟩⟩
    | s l => exact ⟨_, _, rfl, by rw [if_pos rfl]; exact ⟨_, rfl⟩⟩
  · cases v with
    | n => decide +kernel
    | i k => show (true && (true && (_ && true))) = true; decide +kernel
    | s l => show (true && (true && (PyData.strOk ⟨l.toArray⟩ && true))) = true; rw [strOk_ab h]; rfl
  · cases v <;> simp [Vl.lk, PyData.depth, PyData.depthAll]
/-- each once, of values with what they are -/
def distP (l : List (V × PyData)) : List (V × PyData) := l.foldl (fun a x => if (a.any fun z => PyData.eqv z.2 x.2) = true then a else a ++ [x]) []
theorem distP_snoc (l : List (V × PyData)) (x : V × PyData) : distP (l ++ [x]) = if ((distP l).any fun z => PyData.eqv z.2 x.2) = true then distP l else distP l ++ [x] := by
  unfold distP
  rw [List.foldl_append]
  rfl
theorem distP_sub (l : List (V × PyData)) : ∀ x ∈ distP l, x ∈ l := by
  have go : ∀ (l a : List (V × PyData)), ∀ x ∈ l.foldl (fun a x => if (a.any fun z => PyData.eqv z.2 x.2) = true then a else a ++ [x]) a, x ∈ a ∨ x ∈ l := by
    intro l
    induction l with
    | nil => exact fun a x h => .inl h
    | cons y l ih =>
      intro a x h
      rw [List.foldl_cons] at h
      rcases ih _ x h with h | h
      · by_cases e : (a.any fun z => PyData.eqv z.2 y.2) = true
        · rw [if_pos e] at h
          exact .inl h
        · rw [if_neg e] at h
          rcases List.mem_append.mp h with h | h
          · exact .inl h
          · exact .inr (by rw [List.mem_singleton.mp h]; exact List.mem_cons_self)
      · exact .inr (List.mem_cons_of_mem _ h)
  intro x h
  exact (go l [] x h).elim (fun z => by cases z) id
theorem distP_len (l : List (V × PyData)) : (distP l).length ≤ l.length := by
  have go : ∀ (l a : List (V × PyData)), (l.foldl (fun a x => if (a.any fun z => PyData.eqv z.2 x.2) = true then a else a ++ [x]) a).length ≤ a.length + l.length := by
    intro l
    induction l with
    | nil => exact fun a => Nat.le_refl _
    | cons y l ih =>
      intro a
      rw [List.foldl_cons, List.length_cons]
      by_cases e : (a.any fun z => PyData.eqv z.2 y.2) = true
      · rw [if_pos e]
        have := ih a
        omega
      · rw [if_neg e]
        have := ih (a ++ [y])
        rw [List.length_append, List.length_singleton] at this
        omega
  have := go l []
  simpa [distP] using this
theorem lay_all : ∀ {ds : List PyData}, (∀ d ∈ ds, d.canLay0 = true ∧ d.depth ≤ 40) → PyData.canLayAll0 ds = true ∧ PyData.depthAll ds ≤ 40
  | [], _ => ⟨rfl, by show 0 ≤ 40; omega⟩
  | d :: ds, h => by
    obtain ⟨h1, h2⟩ := lay_all (ds := ds) fun x hx => h x (List.mem_cons_of_mem _ hx)
    obtain ⟨g1, g2⟩ := h d List.mem_cons_self
    exact ⟨by unfold PyData.canLayAll0; rw [g1, h1]; rfl, by unfold PyData.depthAll; omega⟩
theorem shaped_list {ds : List PyData} (h : ∀ d ∈ ds, d.canLay0 = true ∧ d.depth ≤ 40) : SeqAt.shaped (.list ds) = true := by
  obtain ⟨h1, h2⟩ := lay_all h
  unfold SeqAt.shaped
  rw [Bool.and_eq_true]
  refine ⟨by unfold PyData.canLay0; exact h1, decide_eq_true (by unfold PyData.depth; omega)⟩
theorem shaped_one {d : PyData} (h : d.canLay0 = true ∧ d.depth ≤ 40) : SeqAt.shaped d = true := by
  unfold SeqAt.shaped
  rw [Bool.and_eq_true]
  exact ⟨h.1, decide_eq_true (by omega)⟩
theorem p_lay : ∀ v : Vl, v.ok → v.p.canLay0 = true ∧ v.p.depth ≤ 40
  | .n, _ => ⟨rfl, by show 0 ≤ 40; omega⟩
  | .i _, _ => ⟨rfl, by show 0 ≤ 40; omega⟩
  | .s l, h => ⟨strOk_ab h, by show 0 ≤ 40; omega⟩
theorem dpa_of {K : PySem.W.Frag} {H : Hp} : ∀ {l : List (V × PyData)}, (∀ x ∈ l, Dp K H x.1 x.2) → DpAll K H (l.map Prod.fst) (l.map Prod.snd)
  | [], _ => .nil
  | x :: l, h => .cons (h x List.mem_cons_self) (dpa_of fun y hy => h y (List.mem_cons_of_mem _ hy))
theorem eqv_p (v u : Vl) : PyData.eqv v.p u.p = decide (v = u) := by
  cases v <;> cases u <;> simp [Vl.p, PyData.eqv, S_dec]
  rw [Bool.eq_iff_iff]
  simp
theorem distP_vl (l : List Vl) : distP (l.map fun v => (v.v, v.p)) = (dist l).map fun v => (v.v, v.p) := by
  have go : ∀ (l a : List Vl), (l.map fun v => (v.v, v.p)).foldl (fun a x => if (a.any fun z => PyData.eqv z.2 x.2) = true then a else a ++ [x]) (a.map fun v => (v.v, v.p)) = (l.foldl (fun a x => if x ∈ a then a else a ++ [x]) a).map fun v => (v.v, v.p) := by
    intro l
    induction l with
    | nil => exact fun a => rfl
    | cons y l ih =>
      intro a
      rw [List.map_cons, List.foldl_cons, List.foldl_cons]
      have e : ((a.map fun v => (v.v, v.p)).any fun z => PyData.eqv z.2 y.p) = decide (y ∈ a) := by
        rw [List.any_map, Bool.eq_iff_iff, decide_eq_true_iff, List.any_eq_true]
        constructor
        · rintro ⟨x, hx, e⟩
          have e : PyData.eqv x.p y.p = true := e
          rw [eqv_p] at e
          rw [← of_decide_eq_true e]
          exact hx
        · intro h
          exact ⟨y, h, by show PyData.eqv y.p y.p = true; rw [eqv_p]; exact decide_eq_true rfl⟩
      by_cases h : y ∈ a
      · rw [if_pos (by show _ = true; rw [e]; exact decide_eq_true h), if_pos h]
        exact ih a
      · rw [if_neg (by show ¬ _ = true; rw [e]; exact fun z => h (of_decide_eq_true z)), if_neg h]
        have := ih (a ++ [y])
        rw [List.map_append] at this
        exact this
  exact go l []
def sp_ldist (K : PySem.W.Frag) : Sp := fun vs H Q _ => ∃ (p : Addr) (l : List (V × PyData)), vs = [.ref p] ∧ SqL K H p (l.map Prod.fst) ∧ (∀ x ∈ l, Dp K H x.1 x.2) ∧ (∀ x ∈ l, x.2.canLay0 = true ∧ x.2.depth ≤ 40) ∧ l.length ≤ 1000 ∧ ∀ H' p', Same H H' → H p' = none → H' p' = some (.lst ((distP l).map Prod.fst)) → Q (.ref p') H'
section
variable {P : Program} {w : World} {K : PySem.W.Frag} {mg : Str → Option Value} {base : Heap}
theorem ok_ldist {f : Addr} {fd : FuncData} (F : Fun K "_law_distinct" "_law_distinct" s__law_distinct f fd) (M : Mg mg) : FnOk P w K mg base CX0 1 f fd ["rows"] (sp_ldist K) := by
  refine F.ok sc__law_distinct (fun vs H Q E h => ?_) (fun cdv A outer s H vs Q E hr h => ?_)
  · obtain ⟨p, l, rfl, _⟩ := h
    rfl
  · obtain ⟨p, l, rfl, hS, hD, hL, hl, q⟩ := h
    refine ⟨_, (pss_cons (ps_set (i := 1) sc__law_distinct.nd rfl (.inl rfl) (pe_lst pa_nil))
      (pss_cons (ps_for PassesOwn.never rfl (pi_list (pv 0)) (pg_name (i := 2) sc__law_distinct.nd rfl (.inl rfl)) (pss_one (ps_if (pt_cmpR (notInDK K (hu65 hr)) (pv 2) (pv 1) (by rfl)) (pss_one (ps_expr (pe_bmK K PySem.F.plainAttrs_list PySem.F.slot_list_append PySem.F.type_list_append mt_append (pv 1) (pa_cons (pv 2) pa_nil)))) pss_nil)))
      (pss_one (ps_ret (pv 1))))), ?_⟩
    refine ⟨by show 0 ≤ sizeLine; decide, fun D nD => ?_⟩
    refine ⟨_, rfl, p, rfl, ⟨_, SqL.same (same_upd nD) hS⟩, ?_⟩
    refine for_list (K := K) (a := p) (xs := l.map Prod.fst) (fun j σ Hj => Same H Hj ∧ Hj D = some (.lst ((distP (l.take j)).map Prod.fst)) ∧ ∃ z, σ = [some (.ref p), some (.ref D), z]) ⟨same_upd nD, upd_same, none, rfl⟩ (fun j σ Hj _ hp => SqL.same hp.1 hS) (fun j x σ Hj hx hp => ?_) (fun σ Hj hp => ?_)
    · obtain ⟨sj, eD, z, rfl⟩ := hp
      rw [List.getElem?_map] at hx
      obtain ⟨⟨v, d⟩, hv, rfl⟩ := Option.map_eq_some_iff.mp hx
      have hm := List.mem_of_getElem? hv
      have etk : distP (l.take (j + 1)) = if ((distP (l.take j)).any fun z => PyData.eqv z.2 d) = true then distP (l.take j) else distP (l.take j) ++ [(v, d)] := by
        rw [List.take_add_one, hv]
        exact distP_snoc _ _
      have sub : ∀ x ∈ distP (l.take j), x ∈ l := fun x hx => List.mem_of_mem_take (distP_sub _ x hx)
      have hd1 : (distP (l.take j)).length ≤ 1000 := by
        have h1 := distP_len (l.take j)
        rw [List.length_take] at h1
        omega
      refine ⟨_, rfl, _, rfl, d, (distP (l.take j)).map Prod.snd, Dp.ext sj _ _ (hD _ hm), .lst (.of eD) (dpa_of fun x hx => Dp.ext sj _ _ (hD x (sub x hx))), shaped_one (hL _ hm), shaped_list (fun y hy => by
        obtain ⟨x, hx, rfl⟩ := List.mem_map.mp hy
        exact hL x (sub x hx)), _, rfl, ?_⟩
      rw [List.any_map]
      refine ite2 (fun hc => ?_) (fun hc => ?_)
      · refine ⟨_, rfl, .inl ⟨rfl, _, .inl (.inl eD)⟩, _, rfl, D, _, _, rfl, rfl, eD, by rw [List.length_map]; exact small1 hd1, fun b o eb => ?_, ?_, _, rfl⟩
        · rw [upd_ne (ne_of_none eb nD)]
          exact sj _ _ eb
        · rw [upd_same, etk, if_neg (by
            intro z
            rw [show ((distP (l.take j)).any ((fun z => PyData.eqv z d) ∘ Prod.snd)) = true from z] at hc
            cases hc), List.map_append]
          rfl
      · refine ⟨sj, ?_, _, rfl⟩
        rw [etk, if_pos (by
          cases e : ((distP (l.take j)).any fun z => PyData.eqv z.2 d) with
          | true => rfl
          | false =>
            exact absurd (by rw [show ((distP (l.take j)).any ((fun z => PyData.eqv z d) ∘ Prod.snd)) = false from e]; rfl) hc)]
        exact eD
    · obtain ⟨sj, eD, z, rfl⟩ := hp
      rw [List.length_map, List.take_of_length_le (Nat.le_refl _)] at eD
      exact ⟨_, rfl, q Hj D sj nD eD⟩
theorem ok_ltotal {f : Addr} {fd : FuncData} (F : Fun K "_law_total" "_law_total" s__law_total f fd) (M : Mg mg) (c__law_due : Cl P w K mg base 8 "_law_due" (sp_eval K 5)) (c__law_distinct : Cl P w K mg base 1 "_law_distinct" (sp_ldist K)) (c__law_bounded : Cl P w K mg base 1 "_law_bounded" sp_bnd) (c__law_key : Cl P w K mg base 1 "_law_key" (sp_lkey K)) : FnOk P w K mg base CX0 9 f fd ["form", "rows"] (sp_total K) := by
  obtain ⟨fk, hm__law_key, hdk⟩ := c__law_key.hd
  refine F.ok sc__law_total (fun vs H Q E h => ?_) (fun cdv A outer s H vs Q E hr h => ?_)
  · obtain ⟨p, ra, as, fm, rs, n, rfl, _⟩ := h
    rfl
  · obtain ⟨p, ra, as, fm, rs, n, rfl, dp, hR, okf, okr, hl, q⟩ := h
    refine ⟨_, (pss_cons (ps_if (pt_cmpR op_eq (pe_ix (ix_tupK K) (pv 0) pe_int (fun _ _ => rfl)) pe_str (nomark _)) (pss_one (ps_ret (pe_callB (len_seqK K) (by rfl) M.len PySem.boot_len (pa_cons (pv 1) pa_nil)))) pss_nil)
      (pss_cons (ps_setLc (i := 2) (own := [("row", 5)]) (g := gName 5) (tt := tYes) rfl sc__law_total.nd rfl rfl (sw_true rfl rfl rfl (by decide +kernel)) (pi_list (pv 1)) (blkOk_by (N := N__law_total) (sc := defScope s__law_total) (by decide +kernel)) (fun _ _ _ _ _ => (pg_name (i := 5) sc__law_total.nd rfl (.inl rfl))) (fun _ _ _ _ _ => pts_nil) (fun _ _ _ _ _ => (pe_u c__law_due hr (by first | decide | omega) (by rfl) (pa_cons (pe_ix (ix_tupK K) (pv 0) pe_int (fun _ _ => rfl)) (pa_cons (pv 5) pa_nil)))))
      (pss_cons (ps_setLc (i := 2) (own := [("value", 6)]) (g := gName 6) rfl sc__law_total.nd rfl rfl (sw_true rfl rfl rfl (by decide +kernel)) (pi_list (pv 2)) (blkOk_by (N := N__law_total) (sc := defScope s__law_total) (by decide +kernel)) (fun _ _ _ _ _ => (pg_name (i := 6) sc__law_total.nd rfl (.inl rfl))) (fun _ _ _ _ _ => (pts_one (pt_cmpR op_notN (pv 6) pe_non (nomark _)))) (fun _ _ _ _ _ => (pv 6)))
      (pss_cons (ps_if (pt_cmpR op_eq (pe_ix (ix_tupK K) (pv 0) pe_int (fun _ _ => rfl)) pe_str (nomark _)) (pss_one (ps_ret (pe_callB (len_seqK K) (by rfl) M.len PySem.boot_len (pa_cons (pe_u c__law_distinct hr (by first | decide | omega) (by rfl) (pa_cons (pv 2) pa_nil)) pa_nil)))) pss_nil)
      (pss_cons (ps_if (pt_cmpR op_eq (pe_ix (ix_tupK K) (pv 0) pe_int (fun _ _ => rfl)) pe_str (nomark _)) (pss_cons (ps_setLc (i := 3) (own := [("value", 6)]) (g := gName 6) rfl sc__law_total.nd rfl rfl (sw_true rfl rfl rfl (by decide +kernel)) (pi_list (pv 2)) (blkOk_by (N := N__law_total) (sc := defScope s__law_total) (by decide +kernel)) (fun _ _ _ _ _ => (pg_name (i := 6) sc__law_total.nd rfl (.inl rfl))) (fun _ _ _ _ _ => (pts_one (pt_val (pe_callB (isiK K) (by rfl) M.isinstance (by decide +kernel) (pa_cons (pv 6) (pa_cons (pe_bltn (v := .ty "int") (by rfl) M.int (by decide +kernel) rfl) pa_nil)))))) (fun _ _ _ _ _ => (pv 6)))
      (pss_one (ps_ret (pe_ifExp (pt_truthK K (pv 3) (by intro _; rfl)) (pe_u c__law_bounded hr (by first | decide | omega) (by rfl) (pa_cons (pe_callB (cr_sum rfl) (by rfl) M.sum (by decide +kernel) (pa_cons (pv 3) pa_nil)) pa_nil)) pe_non)))) pss_nil)
      (pss_cons (ps_if (pt_not (pt_truthK K (pv 2) (by intro _; rfl))) (pss_one (ps_ret pe_non)) pss_nil)
      (pss_cons (ps_set (i := 4) sc__law_total.nd rfl (.inl rfl) (pe_callBK (cr_sortFK (P := P) (w := w) (K := K) (mg := mg) (base := base) (k := 1) hr (by first | decide | omega)) (by rfl) M.sorted (by decide +kernel) (pa_cons (pv 2) pa_nil) (pk_cons (C8.pe_gc (v := .ref _) (by rfl) ⟨_, hm__law_key, rfl⟩) pk_nil)))
      (pss_one (ps_ret (pe_ifExp (pt_cmpR op_eq (pe_ix (ix_tupK K) (pv 0) pe_int (fun _ _ => rfl)) pe_str (nomark _)) (pe_ix (ix_listK K) (pv 4) pe_int (fun _ _ => rfl)) (pe_ix (ix_listK K) (pv 4) (pe_un un_neg pe_int) (fun _ _ => rfl)))))))))))), ?_⟩
    cases fm with
    | cnt =>
      obtain ⟨b, xs, rfl, hb, hx⟩ := dp_tup dp
      obtain rfl : xs = [.str "count"] := by
        cases hx with
        | cons h1 h2 =>
          cases h1
          cases h2
          rfl
      refine ⟨_, rfl, b, _, _, _, rfl, rfl, hb, atI_nat (j := 0) rfl, rfl, _, rfl, ?_⟩
      rw [weq]
      refine iteT ⟨_, rfl, ra, _, rfl, .inl hR.1, ?_⟩
      rw [List.length_map, hR.2.1]
      exact q H (.refl H)
    | ex o e =>
      obtain ⟨b, xs, rfl, hb, hx⟩ := dp_tup dp
      obtain ⟨u, rfl, hu⟩ := dp_two hx
      refine ⟨_, rfl, b, _, _, _, rfl, rfl, hb, atI_nat (j := 0) rfl, rfl, _, rfl, ?_⟩
      rw [wne _ "count" (by cases o <;> decide +kernel)]
      refine iteF ?_
      refine ⟨_, rfl, ra, rfl, ⟨_, hR.1⟩, fun D nD => ?_⟩
      refine lc_list (K := K) (a := ra) (xs := as.map V.ref) (fun j Hj => Same H Hj ∧ Hj D = some (.lst (((rs.take j).map fun r => e.ev r).map Vl.v))) ⟨same_upd nD, upd_same⟩ (fun j Hj _ hp => SqL.same hp.1 hR.1) (fun j y Hj hy hp => ?_) (fun H1 hp => ?_)
      · obtain ⟨sj, eD⟩ := hp
        obtain ⟨a, r, rfl, hr1, hT, hm⟩ := rws_at hR hy
        refine ⟨rfl, ?_⟩
        refine ⟨_, rfl, b, _, _, _, rfl, rfl, SqT.ext sj hb, atI_nat (j := 1) rfl, ?_⟩
        refine ⟨_, rfl, u, a, e, r, rfl, Dp.ext sj _ _ hu, SqT.ext sj hT, by rw [(okr r hm).1]; exact okf.1, (okr r hm).2, okf.2, fun H' s' => ?_⟩
        refine ⟨_, s' _ _ eD, ?_, fun b o eb => ?_, ?_⟩
        · rw [List.length_map, List.length_map, List.length_take]
          exact small1 (by omega)
        · rw [upd_ne (ne_of_none eb nD)]
          exact s' _ _ (sj _ _ eb)
        · rw [upd_same, List.take_add_one, hr1, List.map_append, List.map_append]
          rfl
      obtain ⟨s1, eD⟩ := hp
      rw [List.length_map, hR.2.1, List.take_of_length_le (Nat.le_refl _)] at eD
      have lok : ∀ v ∈ rs.map fun r => e.ev r, v.ok := fun v hv => by
        obtain ⟨r, hr1, rfl⟩ := List.mem_map.mp hv
        exact Ep.ev_ok (okr r hr1).2 (by rw [(okr r hr1).1]; exact okf.1)
      have lv : (rs.map fun r => e.ev r).length ≤ 1000 := by rw [List.length_map]; exact hl
      have q : ∀ H', Same H H' → Q (o.ev (kn0 (rs.map fun r => e.ev r))).v H' := q
      have sD : SqL K H1 D ((rs.map fun r => e.ev r).map Vl.v) := .of eD
      generalize (rs.map fun r => e.ev r) = l at eD lv q sD lok
      refine ⟨_, rfl, D, rfl, ⟨_, sD⟩, fun D2 nD2 => ?_⟩
      refine lc_list (K := K) (a := D) (xs := l.map Vl.v) (fun j Hj => Same H1 Hj ∧ Hj D2 = some (.lst (((l.take j).filter fun v => !v.isN).map Vl.v))) ⟨same_upd nD2, upd_same⟩ (fun j Hj _ hp => SqL.same hp.1 sD) (fun j y Hj hy hp => ?_) (fun H2 hp => ?_)
      · obtain ⟨sj, eD⟩ := hp
        rw [List.getElem?_map] at hy
        obtain ⟨v, hv, rfl⟩ := Option.map_eq_some_iff.mp hy
        refine ⟨rfl, ?_⟩
        refine ⟨_, rfl, rfl, _, rfl, ?_⟩
        rw [v.eN]
        refine ite2 (fun hc => ?_) (fun hc => ?_)
        · refine ⟨_, rfl, _, eD, small1 (flt_len _ lv), fun b o e => ?_, ?_⟩
          · rw [upd_ne (ne_of_none e nD2)]
            exact sj _ _ e
          · rw [upd_same, flt_snoc _ hv, if_pos hc, List.map_append]
            rfl
        · refine ⟨sj, ?_⟩
          rw [flt_snoc _ hv, if_neg hc, List.append_nil]
          exact eD
      obtain ⟨s2, eD2⟩ := hp
      rw [List.length_map, List.take_of_length_le (Nat.le_refl _)] at eD2
      have lk : (kn0 l).length ≤ 1000 := Nat.le_trans (List.length_filter_le _ _) lv
      have kno : ∀ v ∈ kn0 l, v.isN = false := fun v hv => by
        have := (List.mem_filter.mp hv).2
        simpa using this
      have sK : SqL K H2 D2 ((kn0 l).map Vl.v) := .of eD2
      have q : ∀ H', Same H2 H' → Q (o.ev (kn0 l)).v H' := fun H' s' => q H' ((s1.trans s2).trans s')
      have kok : ∀ v ∈ kn0 l, v.ok := fun v hv => lok v (List.mem_filter.mp hv).1
      generalize kn0 l = ks at lk kno sK q kok
      clear eD2 sD eD
      have hb2 := SqT.ext (s1.trans s2) hb
      cases o with
      | dis =>
        refine ⟨_, rfl, b, _, _, _, rfl, rfl, hb2, atI_nat (j := 0) rfl, rfl, _, rfl, ?_⟩
        rw [show decide (V.str (Str.ofString Fw.dis.s) = V.str (Str.ofString "distinct")) = true from decide_eq_true rfl]
        refine iteT ⟨_, rfl, D2, ks.map fun v => (v.v, v.p), rfl, by rw [List.map_map]; exact sK, fun x hx => ?_, fun x hx => ?_, by rw [List.length_map]; exact lk, fun H' p' s' np e => ⟨p', _, rfl, .inl (.of e), ?_⟩⟩
        · obtain ⟨v, hv, rfl⟩ := List.mem_map.mp hx
          exact v.dp
        · obtain ⟨v, hv, rfl⟩ := List.mem_map.mp hx
          exact p_lay v (kok v hv)
        · rw [List.length_map, distP_vl, List.length_map]
          exact q H' s'
      | sum =>
        refine ⟨_, rfl, b, _, _, _, rfl, rfl, hb2, atI_nat (j := 0) rfl, rfl, _, rfl, ?_⟩
        rw [wne Fw.sum.s "distinct" (by decide +kernel)]
        refine iteF ⟨_, rfl, b, _, _, _, rfl, rfl, hb2, atI_nat (j := 0) rfl, rfl, _, rfl, ?_⟩
        rw [show decide (V.str (Str.ofString Fw.sum.s) = V.str (Str.ofString "sum")) = true from decide_eq_true rfl]
        refine iteT ⟨_, rfl, D2, rfl, ⟨_, sK⟩, fun D3 nD3 => ?_⟩
        refine lc_list (K := K) (a := D2) (xs := ks.map Vl.v) (fun j Hj => Same H2 Hj ∧ Hj D3 = some (.lst (((ks.take j).filter Vl.isI).map Vl.v))) ⟨same_upd nD3, upd_same⟩ (fun j Hj _ hp => SqL.same hp.1 sK) (fun j y Hj hy hp => ?_) (fun H3 hp => ?_)
        · obtain ⟨sj, eD⟩ := hp
          rw [List.getElem?_map] at hy
          obtain ⟨v, hv, rfl⟩ := Option.map_eq_some_iff.mp hy
          refine ⟨rfl, ?_⟩
          refine ⟨_, rfl, _, _, _, _, _, rfl, .ty _, v.ty, kit_ty v.kI, _, rfl, ?_⟩
          refine ite2 (fun hc => ?_) (fun hc => ?_)
          · refine ⟨_, rfl, _, eD, small1 (flt_len _ lk), fun b o e => ?_, ?_⟩
            · rw [upd_ne (ne_of_none e nD3)]
              exact sj _ _ e
            · rw [upd_same, flt_snoc _ hv, if_pos hc, List.map_append]
              rfl
          · refine ⟨sj, ?_⟩
            rw [flt_snoc _ hv, if_neg hc, List.append_nil]
            exact eD
        obtain ⟨s3, eD⟩ := hp
        rw [List.length_map, List.take_of_length_le (Nat.le_refl _), ints0_map] at eD
        have q : ∀ H', Same H2 H' → Q (if ints0 ks = [] then Vl.n else bnd (ints0 ks).sum).v H' := q
        refine ⟨_, rfl, _, .inl ⟨_, .of eD, rfl⟩, ?_⟩
        generalize ints0 ks = is at eD q
        cases is with
        | nil => exact iteF (q H3 s3)
        | cons k is =>
          refine iteT ⟨_, rfl, D3, k :: is, rfl, .of eD, ?_⟩
          have := q H3 s3
          rw [if_neg (fun z => by cases z)] at this
          exact ⟨_, rfl, this⟩
      | lea =>
        refine ⟨_, rfl, b, _, _, _, rfl, rfl, hb2, atI_nat (j := 0) rfl, rfl, _, rfl, ?_⟩
        rw [wne Fw.lea.s "distinct" (by decide +kernel)]
        refine iteF ⟨_, rfl, b, _, _, _, rfl, rfl, hb2, atI_nat (j := 0) rfl, rfl, _, rfl, ?_⟩
        rw [wne Fw.lea.s "sum" (by decide +kernel)]
        refine iteF ?_
        have ex : ∃ k r, ks = k :: r ∨ ks = [] := by cases ks with
          | nil => exact ⟨.n, [], .inr rfl⟩
          | cons k r => exact ⟨k, r, .inl rfl⟩
        obtain ⟨k0, r0, ex⟩ := ex
        rcases ex with ex | ex
        · have tr0 : (!(ks.map Vl.v).isEmpty) = true := by rw [ex]; rfl
          refine ⟨_, rfl, _, .inl ⟨_, sK, rfl⟩, ?_⟩
          rw [tr0]
          refine iteF ⟨_, rfl, ?_⟩
          refine ⟨D2, fk, sp_lkey K, ks.map Vl.v, fun y => (toVl y).lk, true, rfl, rfl, sK, hdk, fun y hy Hx R sx k => ?_, fun y hy => ?_, fun y _ z _ => lk_ok _ _, lk_swo, fun zs H' p' s' np so st ep => ?_⟩
          · rw [List.mem_map] at hy
            obtain ⟨v, hv, rfl⟩ := hy
            refine ⟨v, rfl, fun H' p' s' dp' => k _ _ s' fun H3 kp3 => ?_⟩
            show Dp K H3 (.ref p') (toVl v.v).lk
            rw [toVl_v]
            exact Dp.tsn kp3.2 _ _ (lk_tup v) dp'
          · rw [List.mem_map] at hy
            obtain ⟨v, hv, rfl⟩ := hy
            show KeyD true (toVl v.v).lk
            rw [toVl_v]
            exact lk_key v (kok v hv)
          · have lz : zs.length = ks.length := by rw [st.perm.length_eq, List.length_map]
            have hb3 := SqT.ext s' hb2
            refine ⟨_, rfl, b, _, _, _, rfl, rfl, hb3, atI_nat (j := 0) rfl, rfl, _, rfl, ?_⟩
            rw [show decide (V.str (Str.ofString Fw.lea.s) = V.str (Str.ofString "least")) = true from decide_eq_true rfl]
            cases zs with
            | nil =>
              rw [ex] at lz
              cases lz
            | cons z0 zr =>
              refine iteT ⟨_, rfl, p', _, _, _, rfl, rfl, .of ep, atI_nat (j := 0) rfl, ?_⟩
              obtain ⟨v, hv, rfl⟩ := List.mem_map.mp (st.perm.mem_iff.mp List.mem_cons_self)
              have e : mn ks = v := mn_eq hv fun z hz => by
                have hz2 : z.v ∈ v.v :: zr := st.perm.mem_iff.mpr (List.mem_map.mpr ⟨z, hz, rfl⟩)
                rcases List.mem_cons.mp hz2 with e | hz2
                · have := congrArg toVl e
                  rw [toVl_v, toVl_v] at this
                  rw [this]
                  exact bf_irr v
                · have : ltD (toVl z.v).lk (toVl v.v).lk = false := List.rel_of_pairwise_cons so hz2
                  rw [lk_lt, toVl_v, toVl_v] at this
                  exact this
              have := q H' s'
              rw [show Fw.lea.ev ks = v from e] at this
              exact this
        · have tr0 : (!(ks.map Vl.v).isEmpty) = false := by rw [ex]; rfl
          refine ⟨_, rfl, _, .inl ⟨_, sK, rfl⟩, ?_⟩
          rw [tr0]
          subst ex
          exact iteT (q H2 (.refl H2))
      | gre =>
        refine ⟨_, rfl, b, _, _, _, rfl, rfl, hb2, atI_nat (j := 0) rfl, rfl, _, rfl, ?_⟩
        rw [wne Fw.gre.s "distinct" (by decide +kernel)]
        refine iteF ⟨_, rfl, b, _, _, _, rfl, rfl, hb2, atI_nat (j := 0) rfl, rfl, _, rfl, ?_⟩
        rw [wne Fw.gre.s "sum" (by decide +kernel)]
        refine iteF ?_
        have ex : ∃ k r, ks = k :: r ∨ ks = [] := by cases ks with
          | nil => exact ⟨.n, [], .inr rfl⟩
          | cons k r => exact ⟨k, r, .inl rfl⟩
        obtain ⟨k0, r0, ex⟩ := ex
        rcases ex with ex | ex
        · have tr0 : (!(ks.map Vl.v).isEmpty) = true := by rw [ex]; rfl
          refine ⟨_, rfl, _, .inl ⟨_, sK, rfl⟩, ?_⟩
          rw [tr0]
          refine iteF ⟨_, rfl, ?_⟩
          refine ⟨D2, fk, sp_lkey K, ks.map Vl.v, fun y => (toVl y).lk, true, rfl, rfl, sK, hdk, fun y hy Hx R sx k => ?_, fun y hy => ?_, fun y _ z _ => lk_ok _ _, lk_swo, fun zs H' p' s' np so st ep => ?_⟩
          · rw [List.mem_map] at hy
            obtain ⟨v, hv, rfl⟩ := hy
            refine ⟨v, rfl, fun H' p' s' dp' => k _ _ s' fun H3 kp3 => ?_⟩
            show Dp K H3 (.ref p') (toVl v.v).lk
            rw [toVl_v]
            exact Dp.tsn kp3.2 _ _ (lk_tup v) dp'
          · rw [List.mem_map] at hy
            obtain ⟨v, hv, rfl⟩ := hy
            show KeyD true (toVl v.v).lk
            rw [toVl_v]
            exact lk_key v (kok v hv)
          · have lz : zs.length = ks.length := by rw [st.perm.length_eq, List.length_map]
            have hb3 := SqT.ext s' hb2
            refine ⟨_, rfl, b, _, _, _, rfl, rfl, hb3, atI_nat (j := 0) rfl, rfl, _, rfl, ?_⟩
            rw [wne Fw.gre.s "least" (by decide +kernel)]
            obtain ⟨ini, z0, rfl⟩ : ∃ ini z0, zs = ini ++ [z0] := by
              refine ⟨zs.dropLast, zs.getLast ?_, (List.dropLast_concat_getLast _).symm⟩
              rintro rfl
              rw [ex] at lz
              cases lz
            refine iteF ⟨_, rfl, _, rfl, p', _, _, _, rfl, rfl, .of ep, atI_last _ _, ?_⟩
            obtain ⟨v, hv, rfl⟩ := List.mem_map.mp (st.perm.mem_iff.mp (List.mem_append_right ini (List.mem_singleton.mpr rfl)))
            have e : mx ks = v := mx_eq hv fun z hz => by
              have hz2 : z.v ∈ ini ++ [v.v] := st.perm.mem_iff.mpr (List.mem_map.mpr ⟨z, hz, rfl⟩)
              rcases List.mem_append.mp hz2 with hz2 | e
              · have : ltD (toVl v.v).lk (toVl z.v).lk = false := (List.pairwise_append.mp so).2.2 _ hz2 _ (List.mem_singleton.mpr rfl)
                rw [lk_lt, toVl_v, toVl_v] at this
                exact this
              · have := congrArg toVl (List.mem_singleton.mp e)
                rw [toVl_v, toVl_v] at this
                rw [this]
                exact bf_irr v
            have := q H' s'
            rw [show Fw.gre.ev ks = v from e] at this
            exact this
        · have tr0 : (!(ks.map Vl.v).isEmpty) = false := by rw [ex]; rfl
          refine ⟨_, rfl, _, .inl ⟨_, sK, rfl⟩, ?_⟩
          rw [tr0]
          subst ex
          exact iteT (q H2 (.refl H2))
end

def sp_law (K : PySem.W.Frag) : Sp := fun vs H Q _ => ∃ (a : Addr) (ns : List Int), vs = [.ref a] ∧ SqL K H a (ns.map V.int) ∧ ns.length ≤ 63 ∧ ∀ H', Q (.bl true) H'
theorem SqT.fdl {K : PySem.W.Frag} {H H' : Hp} {d a : Addr} {xs : List V} (hd : ∃ zs, H d = some (.lst zs)) (e : Fd d H H') (h : SqT K H a xs) : SqT K H' a xs := by
  obtain ⟨zs, hd⟩ := hd
  have n : ∀ {o : HO}, (∀ zs, o ≠ .lst zs) → H a = some o → a ≠ d := fun no ha z => by
    rw [z, hd] at ha
    exact no zs (Option.some.inj ha).symm
  rcases h with (h | ⟨o, h⟩) | h
  · exact .inl (.inl (e _ _ (n (fun _ z => by cases z) h) h))
  · exact .inl (.inr ⟨o, e _ _ (n (fun _ z => by cases z) h) h⟩)
  · exact .inr h
/-- rows in a list that is there, written to now and then -/
def RwL (K : PySem.W.Frag) (H : Hp) (p : Addr) (as : List Addr) (rs : List (List Vl)) : Prop := H p = some (.lst (as.map V.ref)) ∧ as.length = rs.length ∧ ∀ (i : Nat) (a : Addr) (r : List Vl), as[i]? = some a → rs[i]? = some r → SqT K H a (r.map Vl.v)
theorem RwL.fd {K : PySem.W.Frag} {H H' : Hp} {d p : Addr} {as : List Addr} {rs : List (List Vl)} (hd : ∃ zs, H d = some (.lst zs)) (n : p ≠ d) (e : Fd d H H') (h : RwL K H p as rs) : RwL K H' p as rs := ⟨e _ _ n h.1, h.2.1, fun i a r h1 h2 => SqT.fdl hd e (h.2.2 i a r h1 h2)⟩
theorem RwL.rws {K : PySem.W.Frag} {H : Hp} {p : Addr} {as : List Addr} {rs : List (List Vl)} (h : RwL K H p as rs) : Rws K H p as rs := ⟨.of h.1, h.2⟩
theorem lay_n : ∀ {n : Nat} {ds : List PyData}, (∀ d ∈ ds, d.canLay0 = true ∧ d.depth ≤ n) → PyData.canLayAll0 ds = true ∧ PyData.depthAll ds ≤ n
  | n, [], _ => ⟨rfl, by show 0 ≤ n; omega⟩
  | n, d :: ds, h => by
    obtain ⟨h1, h2⟩ := lay_n (ds := ds) fun x hx => h x (List.mem_cons_of_mem _ hx)
    obtain ⟨g1, g2⟩ := h d List.mem_cons_self
    exact ⟨by unfold PyData.canLayAll0; rw [g1, h1]; rfl, by unfold PyData.depthAll; omega⟩
theorem p_lay1 : ∀ v : Vl, v.ok → v.p.canLay0 = true ∧ v.p.depth ≤ 1
  | .n, _ => ⟨rfl, by show 0 ≤ 1; omega⟩
  | .i _, _ => ⟨rfl, by show 0 ≤ 1; omega⟩
  | .s l, h => ⟨strOk_ab h, by show 0 ≤ 1; omega⟩
theorem row_lay {r : List Vl} (h : ∀ v ∈ r, v.ok) : (PyData.tuple (r.map Vl.p)).canLay0 = true ∧ (PyData.tuple (r.map Vl.p)).depth ≤ 2 := by
  obtain ⟨h1, h2⟩ := lay_n (n := 1) (ds := r.map Vl.p) fun d hd => by
    obtain ⟨v, hv, rfl⟩ := List.mem_map.mp hd
    exact p_lay1 v (h v hv)
  exact ⟨by unfold PyData.canLay0; exact h1, by unfold PyData.depth; omega⟩
theorem rows_shaped {rs : List (List Vl)} (h : ∀ r ∈ rs, ∀ v ∈ r, v.ok) : SeqAt.shaped (.list (rs.map fun r => .tuple (r.map Vl.p))) = true := by
  refine shaped_list fun d hd => ?_
  obtain ⟨r, hr, rfl⟩ := List.mem_map.mp hd
  have := row_lay (h r hr)
  exact ⟨this.1, by omega⟩
theorem dp_rowV {K : PySem.W.Frag} {H : Hp} {a : Addr} {r : List Vl} (h : SqT K H a (r.map Vl.v)) : Dp K H (.ref a) (.tuple (r.map Vl.p)) := by
  refine .tup h ?_
  clear h
  induction r with
  | nil => exact .nil
  | cons v r ih => exact .cons v.dp ih
theorem dpa_rows {K : PySem.W.Frag} {H : Hp} : ∀ {as : List Addr} {rs : List (List Vl)}, as.length = rs.length → (∀ (i : Nat) (a : Addr) (r : List Vl), as[i]? = some a → rs[i]? = some r → SqT K H a (r.map Vl.v)) → DpAll K H (as.map V.ref) (rs.map fun r => .tuple (r.map Vl.p))
  | [], [], _, _ => .nil
  | [], _ :: _, h, _ => by cases h
  | _ :: _, [], h, _ => by cases h
  | a :: as, r :: rs, hl, h => .cons (dp_rowV (h 0 a r rfl rfl)) (dpa_rows (Nat.succ.inj hl) fun i a' r' h1 h2 => h (i + 1) a' r' h1 h2)
theorem rws_dp {K : PySem.W.Frag} {H : Hp} {p : Addr} {as : List Addr} {rs : List (List Vl)} (h : Rws K H p as rs) : Dp K H (.ref p) (.list (rs.map fun r => .tuple (r.map Vl.p))) := .lst h.1 (dpa_rows h.2.1 h.2.2)
theorem SqT.away {K : PySem.W.Frag} {H : Hp} {p a : Addr} {o : HO} {zs xs : List V} (hp : H p = some (.lst zs)) (h : SqT K H a xs) : SqT K (upd H p o) a xs := SqT.fdl ⟨zs, hp⟩ (fun b u nb e => by rw [upd_ne nb]; exact e) h
theorem RwL.push {K : PySem.W.Frag} {H : Hp} {p a : Addr} {as : List Addr} {r : List Vl} {rs : List (List Vl)} (h : RwL K H p as rs) (ha : SqT K H a (r.map Vl.v)) : RwL K (upd H p (.lst (as.map V.ref ++ [.ref a]))) p (as ++ [a]) (rs ++ [r]) := by
  refine ⟨by rw [upd_same, List.map_append]; rfl, by rw [List.length_append, List.length_append, h.2.1]; rfl, fun i b x h1 h2 => SqT.away h.1 ?_⟩
  by_cases hi : i < as.length
  · rw [List.getElem?_append_left hi] at h1
    rw [List.getElem?_append_left (by rw [← h.2.1]; exact hi)] at h2
    exact h.2.2 i b x h1 h2
  · have hl := (List.getElem?_eq_some_iff.mp h1).1
    rw [List.length_append] at hl
    have e : i = as.length := by have : ([a] : List Addr).length = 1 := rfl; omega
    subst e
    rw [List.getElem?_append_right (Nat.le_refl _), Nat.sub_self] at h1
    rw [h.2.1, List.getElem?_append_right (Nat.le_refl _), Nat.sub_self] at h2
    cases h1
    cases h2
    exact ha
section
variable {P : Program} {w : World} {K : PySem.W.Frag} {mg : Str → Option Value} {base : Heap}
theorem ok_law {f : Addr} {fd : FuncData} (F : Fun K "law" "law" s_law f fd) (M : Mg mg) (c__law_draw : Cl P w K mg base 1 "_law_draw" (sp_draw K)) (c__law_next : Cl P w K mg base 1 "_law_next" sp_next) (c__law_cell : Cl P w K mg base 2 "_law_cell" sp_cell) (c__law_expression : Cl P w K mg base 7 "_law_expression" (sp_lexp K 5)) (c_total : Cl P w K mg base 8 "total" (sp_total K)) (c__law_total : Cl P w K mg base 9 "_law_total" (sp_total K)) (c__law_same : Cl P w K mg base 2 "_law_same" (sp_same K 1)) : FnOk P w K mg base CX0 10 f fd ["script"] (sp_law K) := by
  refine F.ok sc_law (fun vs H Q E h => ?_) (fun cdv A outer s H vs Q E hr h => ?_)
  · obtain ⟨a, ns, rfl, _⟩ := h
    rfl
  · obtain ⟨a, ns, rfl, hS, _, q⟩ := h
    refine ⟨_, (pss_cons (ps_set (i := 1) sc_law.nd rfl (.inr rfl) (pe_u c__law_draw hr (by first | decide | omega) (by rfl) (pa_cons (pv 0) pa_nil)))
      (pss_cons (ps_set (i := 2) sc_law.nd rfl (.inl rfl) (pe_op op_add pe_int (pe_u c__law_next hr (by first | decide | omega) (by rfl) (pa_cons (pv 1) (pa_cons pe_int pa_nil)))))
      (pss_cons (ps_set (i := 3) sc_law.nd rfl (.inl rfl) (pe_cmpR op_eq (pe_u c__law_next hr (by first | decide | omega) (by rfl) (pa_cons (pv 1) (pa_cons pe_int pa_nil))) pe_int (nomark _)))
      (pss_cons (ps_set (i := 4) sc_law.nd rfl (.inl rfl) (pe_lst pa_nil))
      (pss_cons (ps_for PassesOwn.never rfl (pi_range1 (by rfl) M.range (pa_cons (pe_u c__law_next hr (by first | decide | omega) (by rfl) (pa_cons (pv 1) (pa_cons pe_int pa_nil))) pa_nil)) (pg_name (i := 5) sc_law.nd rfl (.inl rfl)) (pss_cons (ps_set (i := 6) sc_law.nd rfl (.inl rfl) (pe_callTy (tupleK K) (by rfl) M.tuple (by decide +kernel) (pa_cons (pe_lc (own := [("j", 10)]) (g := gName 10) (tt := tYes) rfl sc_law.nd (pi_range1 (by rfl) M.range (pa_cons (pv 2) pa_nil)) (blkOk_by (N := N_law) (sc := defScope s_law) (by decide +kernel)) (fun _ _ _ _ _ => (pg_name (i := 10) sc_law.nd rfl (.inl rfl))) (fun _ _ _ _ _ => pts_nil) (fun _ _ _ _ _ => (pe_u c__law_cell hr (by first | decide | omega) (by rfl) (pa_cons (pv 1) pa_nil)))) pa_nil)))
      (pss_cons (ps_if (PW.pt (pw_and (pt_val (pv 3)) (pw_and (pt_truthK K (pe_u c__law_next hr (by first | decide | omega) (by rfl) (pa_cons (pv 1) (pa_cons pe_int pa_nil))) (by intro _; rfl)) (pw_and1 (pt_val (pe_callB (isiK K) (by rfl) M.isinstance (by decide +kernel) (pa_cons (pe_ix (ix_tupK K) (pv 6) pe_int (fun _ _ => rfl)) (pa_cons (pe_bltn (v := .ty "int") (by rfl) M.int (by decide +kernel) rfl) pa_nil)))))))) (pss_one (ps_set (i := 6) sc_law.nd rfl (.inl rfl) (pe_op op_catT (pe_tup (pa_cons (pe_op op_mul (pe_op op_sub (pe_op op_pow pe_int pe_int) (pe_ix (ix_tupK K) (pv 6) pe_int (fun _ _ => rfl))) (pe_op op_sub pe_int (pe_op op_mul pe_int (pe_u c__law_next hr (by first | decide | omega) (by rfl) (pa_cons (pv 1) (pa_cons pe_int pa_nil)))))) pa_nil)) (pe_slice sl_tup (pv 6) (po_some pe_int) po_none)))) pss_nil)
      (pss_one (ps_expr (pe_bmK K PySem.F.plainAttrs_list PySem.F.slot_list_append PySem.F.type_list_append mt_append (pv 4) (pa_cons (pe_ifExp (PW.pt (pw_and (pt_truthK K (pv 4) (by intro _; rfl)) (pw_and1 (pt_cmpR op_eq (pe_u c__law_next hr (by first | decide | omega) (by rfl) (pa_cons (pv 1) (pa_cons pe_int pa_nil))) pe_int (nomark _))))) (pe_ix (ix_listK K) (pv 4) pe_int (fun _ _ => rfl)) (pv 6)) pa_nil)))))))
      (pss_cons (ps_for PassesOwn.never rfl (pi_tup (pe_tup (pa_cons pe_str (pa_cons pe_str (pa_cons pe_str (pa_cons pe_str (pa_cons pe_str pa_nil))))))) (pg_name (i := 7) sc_law.nd rfl (.inl rfl)) (pss_cons (ps_set (i := 8) sc_law.nd rfl (.inl rfl) (pe_ifExp (pt_cmpR op_eq (pv 7) pe_str (nomark _)) (pe_tup (pa_cons pe_str pa_nil)) (pe_tup (pa_cons (pv 7) (pa_cons (pe_u c__law_expression hr (by first | decide | omega) (by rfl) (pa_cons (pv 1) (pa_cons (pv 2) (pa_cons pe_int pa_nil)))) pa_nil)))))
      (pss_cons (ps_set (i := 9) sc_law.nd rfl (.inl rfl) (pe_callTy (listK K) (by rfl) M.list (by decide +kernel) (pa_cons (pv 4) pa_nil)))
      (pss_one (ps_if (PW.pt (pw_or (pt_not (pt_val (pe_u c__law_same hr (by first | decide | omega) (by rfl) (pa_cons (pe_u c_total hr (by first | decide | omega) (by rfl) (pa_cons (pv 8) (pa_cons (pv 9) pa_nil))) (pa_cons (pe_u c__law_total hr (by first | decide | omega) (by rfl) (pa_cons (pv 8) (pa_cons (pv 4) pa_nil))) pa_nil))))) (pw_or1 (pt_cmpR (neDK K hr.units) (pv 9) (pv 4) (nomark _))))) (pss_one (ps_ret pe_bl)) pss_nil)))))
      (pss_one (ps_ret pe_bl)))))))), ?_⟩
    refine ⟨_, rfl, a, ns, rfl, hS, fun H1 d c s1 nd dr => ?_⟩
    refine ⟨_, rfl, d, c, 3, rfl, dr, by decide, by decide, fun H2 w0 f2 _ dr2 w00 w01 => ?_⟩
    obtain ⟨wd0, rfl⟩ := Int.eq_ofNat_of_zero_le w00
    refine ⟨_, _, rfl, rfl, _, rfl, d, c, 3, rfl, dr2, by decide, by decide, fun H3 g3 f3 _ dr3 _ _ => ?_⟩
    refine ⟨rfl, ?_⟩
    generalize decide (V.int g3 = V.int 0) = g
    refine ⟨by show 0 ≤ sizeLine; decide, fun R nR => ?_⟩
    have nRd := dr3.nd nR
    have nRc := dr3.nc nR
    have dr4 := dr3.ext (same_upd nR (o := .lst []))
    have eR : (upd H3 R (.lst [])) R = some (.lst []) := upd_same
    generalize upd H3 R (.lst []) = H4 at dr4 eR
    refine ⟨_, rfl, d, c, 8, rfl, dr4, by decide, by decide, fun H5 n5 f5 _ dr5 n50 n51 => ?_⟩
    have eR5 := f5 _ _ nRd eR
    obtain ⟨m5, rfl⟩ := Int.eq_ofNat_of_zero_le n50
    refine ⟨_, rfl, by omega, by omega, ?_⟩
    refine for_range (lo := 0) (n := ((m5 : Nat) : Int).toNat) (fun j σ Hj => Dr Hj d c ∧ ∃ as rs z5 z6, RwL K Hj R as rs ∧ rs.length = j ∧ (∀ r ∈ rs, r.length = 1 + wd0 ∧ ∀ v ∈ r, v.ok) ∧ σ = [some (.ref a), some (.ref d), some (.int (1 + (wd0 : Nat))), some (.bl g), some (.ref R), z5, z6, none, none, none, none]) ⟨dr5, [], [], none, none, ⟨eR5, rfl, fun i a r h1 _ => by cases h1⟩, rfl, (fun _ h => by cases h), rfl⟩ (fun j σ Hj hj hp => ?_) (fun σ Hj hp => ?_)
    · obtain ⟨drj, as, rs, z5, z6, rw_, lj, okr, rfl⟩ := hp
      have lR := drj.lst
      refine ⟨_, rfl, _, rfl, by omega, by omega, fun D nD => ?_⟩
      refine lc_range (lo := 0) (n := (1 + ((wd0 : Nat) : Int)).toNat) (fun i Hi => Fd d Hj Hi ∧ D ≠ d ∧ D ≠ c ∧ Dr Hi d c ∧ ∃ us : List Vl, us.length = i ∧ (∀ u ∈ us, u.sm) ∧ Hi D = some (.lst (us.map Vl.v))) ⟨Fd.new nD, drj.nd nD, drj.nc nD, drj.ext (same_upd nD), [], rfl, (fun _ h => by cases h), upd_same⟩ (fun i Hi hi hp => ?_) (fun H6 hp => ?_)
      · obtain ⟨fi, n1, n2, dri, us, hl, ho, ev⟩ := hp
        refine ⟨rfl, ?_⟩
        refine ⟨_, rfl, d, c, rfl, dri, fun H' v f' dr' hv => ?_⟩
        refine ⟨_, f' _ _ n1 ev, ?_, fun b o nb eb => ?_, n1, n2, dr'.upd n1 n2, us ++ [v], ?_, ?_, ?_⟩
        · rw [List.length_map, hl]
          exact Nat.lt_of_lt_of_le (m := 10) (by omega) (by decide)
        · rw [upd_ne (ne_of_none eb nD)]
          exact f' _ _ nb (fi _ _ nb eb)
        · rw [List.length_append, hl]
          rfl
        · intro y hy
          rcases List.mem_append.mp hy with hy | hy
          · exact ho y hy
          · rw [List.mem_singleton.mp hy]
            exact hv
        · rw [upd_same, List.map_append]
          rfl
      obtain ⟨f6, n1, n2, dr6, us, hl, ho, ev⟩ := hp
      have lus : us.length = 1 + wd0 := by omega
      refine ⟨D, _, rfl, .inl ⟨.of ev, fun T nT => ?_⟩⟩
      have f7 : Fd d Hj (upd H6 T (.tup (us.map Vl.v))) := f6.trans (Fd.new nT)
      have dr7 := dr6.ext (same_upd nT (o := .tup (us.map Vl.v)))
      have sT : SqT K (upd H6 T (.tup (us.map Vl.v))) T (us.map Vl.v) := .of upd_same
      generalize upd H6 T (.tup (us.map Vl.v)) = H7 at f7 dr7 sT
      have oku : ∀ v ∈ us, v.ok := fun v hv => Vl.sm_ok (ho v hv)
      refine ⟨_, rfl, g, rfl, ?_⟩
      obtain ⟨v0, ur, rfl⟩ : ∃ v0 ur, us = v0 :: ur := by cases us with
        | nil => rw [List.length_nil] at lus; omega
        | cons v0 ur => exact ⟨v0, ur, rfl⟩
      refine ite2 (fun hg => ⟨_, rfl, d, c, 2, rfl, dr7, by decide, by decide, fun H8 r8 f8 _ dr8 r80 r81 => ⟨_, rfl, ite2 (fun hr8 => ?h0) (fun hr8 => iteF ?h2)⟩⟩) (fun hg => iteF ?h1)
      case' h1 =>
        have f9 := f7
        have dr9 := dr7
        have sT9 := sT
        have lr9 := lus
        have ok9 := oku
        clear ev f6 dr6 nD nT n1 n2 hl ho
        generalize H7 = H9 at f9 dr9 sT9 ⊢
        generalize T = T' at sT9 ⊢
        generalize v0 :: ur = r' at sT9 lr9 ok9
      case' h2 =>
        have f9 := f7.trans f8
        have dr9 := dr8
        have sT9 := SqT.fdl dr7.lst f8 sT
        have lr9 := lus
        have ok9 := oku
        generalize H8 = H9 at f9 dr9 sT9 ⊢
        generalize T = T' at sT9 ⊢
        generalize v0 :: ur = r' at sT9 lr9 ok9
      case' h0 =>
        have sT8 := SqT.fdl dr7.lst f8 sT
        have f78 := f7.trans f8
        refine ⟨_, rfl, T, _, _, _, rfl, rfl, sT8, atI_nat (j := 0) rfl, _, _, _, _, _, rfl, .ty _, v0.ty, kit_ty v0.kI, _, rfl, ?_⟩
        refine ite2 (fun hi => ?h4) (fun hi => ?h3)
      case' h3 =>
        have f9 := f78
        have dr9 := dr8
        have sT9 := sT8
        have lr9 := lus
        have ok9 := oku
        generalize H8 = H9 at f9 dr9 sT9 ⊢
        generalize T = T' at sT9 ⊢
        generalize v0 :: ur = r' at sT9 lr9 ok9
      case' h4 =>
        obtain ⟨k0, rfl⟩ := Vl.of_isI hi
        have smk : 0 ≤ k0 ∧ k0 ≤ 3 := ho _ List.mem_cons_self
        refine ⟨_, _, rfl, rfl, ⟨by decide, by decide, by decide⟩, _, rfl, T, _, _, _, rfl, rfl, sT8, atI_nat (j := 0) rfl, _, _, rfl, rfl, _, rfl, d, c, 2, rfl, dr8, by decide, by decide, fun Hb rb fb _ drb rb0 rb1 => ?_⟩
        rw [pow15]
        have h2 : rb = 0 ∨ rb = 1 := by omega
        have bk : -BND ≤ (BND - k0) * (1 - 2 * rb) ∧ (BND - k0) * (1 - 2 * rb) ≤ BND := by
          unfold BND
          rcases h2 with rfl | rfl <;> omega
        have bb : (BND : Int) = 1000000000000000 := rfl
        refine ⟨_, _, rfl, rfl, .inl ⟨by decide, by decide⟩, _, _, rfl, rfl, _, _, rfl, rfl, .inl ⟨by omega, by omega⟩, ?_⟩
        refine ⟨by show 1 ≤ sizeLine; decide, fun p1 np1 => ?_⟩
        have sTb := SqT.fdl dr8.lst fb sT8
        have fb2 := f78.trans fb
        have fb3 := fb2.trans (Fd.new np1 (o := .tup [V.int ((BND - k0) * (1 - 2 * rb))]))
        have drb3 := drb.ext (same_upd np1 (o := .tup [V.int ((BND - k0) * (1 - 2 * rb))]))
        have sTb3 := SqT.ext (same_upd np1 (o := .tup [V.int ((BND - k0) * (1 - 2 * rb))])) sTb
        have e1 : (upd Hb p1 (.tup [V.int ((BND - k0) * (1 - 2 * rb))])) p1 = some (.tup [V.int ((BND - k0) * (1 - 2 * rb))]) := upd_same
        generalize upd Hb p1 (.tup [V.int ((BND - k0) * (1 - 2 * rb))]) = Hc at fb3 drb3 sTb3 e1 ⊢
        refine ⟨_, rfl, _, rfl, T, (Vl.i k0 :: ur).map Vl.v, rfl, sTb3, by show ¬ (1 = 0 ∧ _); exact fun z => absurd z.1 (by decide), fun p2 np2 => ?_⟩
        have hcut : cutV ((Vl.i k0 :: ur).map Vl.v) (some 1) none = ur.map Vl.v := by
          show (((Vl.i k0 :: ur).map Vl.v).drop 1).take (((Vl.i k0 :: ur).map Vl.v).length - 1) = _
          rw [List.map_cons, List.drop_one, List.tail_cons, List.length_cons]
          exact List.take_of_length_le (Nat.le_refl _)
        rw [hcut]
        have s2c := same_upd np2 (o := .tup (ur.map Vl.v))
        have fb4 := fb3.trans (Fd.of s2c)
        have drb4 := drb3.ext s2c
        have e1b := s2c _ _ e1
        have e2b : (upd Hc p2 (.tup (ur.map Vl.v))) p2 = some (.tup (ur.map Vl.v)) := upd_same
        generalize upd Hc p2 (.tup (ur.map Vl.v)) = Hd' at fb4 drb4 e1b e2b
        have oki : ∀ v ∈ Vl.i ((BND - k0) * (1 - 2 * rb)) :: ur, v.ok := fun v hv => by
          rcases List.mem_cons.mp hv with rfl | hv
          · exact bk
          · exact oku v (List.mem_cons_of_mem _ hv)
        rw [List.length_cons] at lus
        refine ⟨p1, p2, [V.int ((BND - k0) * (1 - 2 * rb))], ur.map Vl.v, rfl, rfl, .of e1b, .of e2b, (fun z => by cases z), ?_, fun hn => ?h5, fun hn p3 np3 => ?h6⟩
        · rw [List.length_map]
          exact Nat.le_of_lt (Nat.lt_of_lt_of_le (m := 10) (by show 1 + ur.length < 10; omega) (by decide))
      case' h5 =>
        have e0 : ur = [] := List.map_eq_nil_iff.mp hn
        subst e0
        have f9 := fb4
        have dr9 := drb4
        have sT9 : SqT K Hd' p1 ([Vl.i ((BND - k0) * (1 - 2 * rb))].map Vl.v) := .of e1b
        have lr9 : [Vl.i ((BND - k0) * (1 - 2 * rb))].length = 1 + wd0 := by
          rw [List.length_cons]
          exact lus
        have ok9 := oki
        generalize Hd' = H9 at f9 dr9 sT9 ⊢
        generalize p1 = T' at sT9 ⊢
        generalize [Vl.i ((BND - k0) * (1 - 2 * rb))] = r' at sT9 lr9 ok9
      case' h6 =>
        have s3c := same_upd np3 (o := .tup ([V.int ((BND - k0) * (1 - 2 * rb))] ++ ur.map Vl.v))
        have f9 := fb4.trans (Fd.of s3c)
        have dr9 := drb4.ext s3c
        have sT9 : SqT K (upd Hd' p3 (.tup ([V.int ((BND - k0) * (1 - 2 * rb))] ++ ur.map Vl.v))) p3 ((Vl.i ((BND - k0) * (1 - 2 * rb)) :: ur).map Vl.v) := .of upd_same
        have lr9 : (Vl.i ((BND - k0) * (1 - 2 * rb)) :: ur).length = 1 + wd0 := by
          rw [List.length_cons]
          exact lus
        have ok9 := oki
        generalize upd Hd' p3 (.tup ([V.int ((BND - k0) * (1 - 2 * rb))] ++ ur.map Vl.v)) = H9 at f9 dr9 sT9 ⊢
        generalize p3 = T' at sT9 ⊢
        generalize (Vl.i ((BND - k0) * (1 - 2 * rb)) :: ur) = r' at sT9 lr9 ok9
      all_goals
        have rw9 := rw_.fd lR nRd f9
        refine ⟨_, rfl, .inl ⟨rfl, _, .inl (.inl rw9.1)⟩, ?_⟩
        refine ⟨_, rfl, _, .inl ⟨_, .of rw9.1, rfl⟩, ?_⟩
        have ex : (as = [] ∧ rs = []) ∨ ∃ a0 as0 r0 rs0, as = a0 :: as0 ∧ rs = r0 :: rs0 := by
          cases as with
          | nil => exact .inl ⟨rfl, List.eq_nil_of_length_eq_zero rw_.2.1.symm⟩
          | cons a0 as0 =>
            cases rs with
            | nil => cases rw_.2.1
            | cons r0 rs0 => exact .inr ⟨_, _, _, _, rfl, rfl⟩
        have fin : ∀ (H' : Hp) (b : Addr) (r : List Vl), RwL K H' R as rs → Dr H' d c → SqT K H' b (r.map Vl.v) → r.length = 1 + wd0 → (∀ v ∈ r, v.ok) → H' R = some (.lst (as.map V.ref)) ∧ (as.map V.ref).length < sizeLine ∧ Dr (upd H' R (.lst (as.map V.ref ++ [.ref b]))) d c ∧ ∃ as' rs', RwL K (upd H' R (.lst (as.map V.ref ++ [.ref b]))) R as' rs' ∧ rs'.length = j + 1 ∧ ∀ r ∈ rs', r.length = 1 + wd0 ∧ ∀ v ∈ r, v.ok := fun H' b r h1 h2 h3 h4 h5 => by
          refine ⟨h1.1, ?_, h2.upd nRd nRc, as ++ [b], rs ++ [r], h1.push h3, ?_, fun x hx => ?_⟩
          · rw [List.length_map, rw_.2.1, lj]
            exact Nat.lt_of_lt_of_le (m := 10) (by omega) (by decide)
          · rw [List.length_append, lj]
            rfl
          · rcases List.mem_append.mp hx with hx | hx
            · exact okr x hx
            · rw [List.mem_singleton.mp hx]
              exact ⟨h4, h5⟩
        rcases ex with ⟨ea, er⟩ | ⟨a0, as0, r0, rs0, ea, er⟩
        · rw [show (!(as.map V.ref).isEmpty) = false by rw [ea]; rfl]
          obtain ⟨g1, g2, g3, as', rs', g4, g5, g6⟩ := fin H9 T' r' rw9 dr9 sT9 lr9 ok9
          exact iteF (iteF ⟨_, rfl, R, _, _, rfl, rfl, g1, g2, g3, as', rs', _, _, g4, g5, g6, rfl⟩)
        · rw [show (!(as.map V.ref).isEmpty) = true by rw [ea]; rfl]
          refine iteT ⟨_, rfl, d, c, 5, rfl, dr9, by decide, by decide, fun Ha ra fa _ dra _ _ => ⟨rfl, _, rfl, ite2 (fun _ => ?_) (fun _ => ?_)⟩⟩
          · have rwa := rw9.fd dr9.lst nRd fa
            have h0 : SqT K Ha a0 (r0.map Vl.v) := rwa.2.2 0 a0 r0 (by rw [ea]; rfl) (by rw [er]; rfl)
            have hr0 := okr r0 (by rw [er]; exact List.mem_cons_self)
            obtain ⟨g1, g2, g3, as', rs', g4, g5, g6⟩ := fin Ha a0 r0 rwa dra h0 hr0.1 hr0.2
            exact ⟨_, rfl, R, _, _, V.ref a0, rfl, rfl, .of rwa.1, atI_nat (j := 0) (by rw [ea]; rfl), R, _, _, rfl, rfl, g1, g2, g3, as', rs', _, _, g4, g5, g6, rfl⟩
          · have rwa := rw9.fd dr9.lst nRd fa
            have sTa := SqT.fdl dr9.lst fa sT9
            obtain ⟨g1, g2, g3, as', rs', g4, g5, g6⟩ := fin Ha T' r' rwa dra sTa lr9 ok9
            exact ⟨_, rfl, R, _, _, rfl, rfl, g1, g2, g3, as', rs', _, _, g4, g5, g6, rfl⟩
    · obtain ⟨drj, as, rs, z5, z6, rw_, lj, okr, rfl⟩ := hp
      have lrs : rs.length ≤ 8 := by omega
      refine ⟨by show 5 ≤ sizeLine; decide, fun W nW => ?_⟩
      have hsW := same_upd nW (o := .tup [.str "count", .str "distinct", .str "sum", .str "least", .str "greatest"])
      have drw := drj.ext hsW
      have rww : RwL K (upd Hj W (.tup [.str "count", .str "distinct", .str "sum", .str "least", .str "greatest"])) R as rs := rw_.fd drj.lst nRd (Fd.of hsW)
      have eW : SqT K (upd Hj W (.tup [.str "count", .str "distinct", .str "sum", .str "least", .str "greatest"])) W [.str "count", .str "distinct", .str "sum", .str "least", .str "greatest"] := .of upd_same
      generalize upd Hj W (.tup [.str "count", .str "distinct", .str "sum", .str "least", .str "greatest"]) = Hw at drw rww eW ⊢
      refine ⟨W, rfl, ⟨_, eW⟩, ?_⟩
      refine for_tup (K := K) (a := W) (xs := [.str "count", .str "distinct", .str "sum", .str "least", .str "greatest"]) (fun j σ Hj => Dr Hj d c ∧ RwL K Hj R as rs ∧ SqT K Hj W [.str "count", .str "distinct", .str "sum", .str "least", .str "greatest"] ∧ ∃ z5 z6 z7 z8 z9, σ = [some (.ref a), some (.ref d), some (.int (1 + (wd0 : Nat))), some (.bl g), some (.ref R), z5, z6, z7, z8, z9, none]) ⟨drw, rww, eW, _, _, _, _, _, rfl⟩ (fun j σ Hj _ hp => hp.2.2.1) (fun j x σ Hj hx hp => ?_) (fun σ Hj hp => ?_)
      · obtain ⟨drj, rwj, eW, z5, z6, z7, z8, z9, rfl⟩ := hp
        have hxm := List.mem_of_getElem? hx
        have xs : x = .str (Str.ofString "count") ∨ ∃ o : Fw, x = .str (Str.ofString o.s) := by
          simp only [List.mem_cons, List.not_mem_nil, or_false] at hxm
          rcases hxm with rfl | rfl | rfl | rfl | rfl
          · exact .inl rfl
          · exact .inr ⟨.dis, rfl⟩
          · exact .inr ⟨.sum, rfl⟩
          · exact .inr ⟨.lea, rfl⟩
          · exact .inr ⟨.gre, rfl⟩
        clear hx hxm
        rcases xs with rfl | ⟨o, rfl⟩
        case' inl =>
          refine ⟨_, rfl, rfl, _, rfl, ?_⟩
          rw [weq]
          refine iteT ⟨by show 1 ≤ sizeLine; decide, fun p np => ?k1⟩
          have s6 := same_upd np (o := .tup [.str "count"])
          have dr6 := drj.ext s6
          have rw6 := rwj.fd drj.lst nRd (Fd.of s6)
          have sW6 := SqT.ext s6 eW
          have dp6 : Dp K (upd Hj p (.tup [.str "count"])) (.ref p) Fm.cnt.d := .tup (.of upd_same) (.cons (.str _) .nil)
          have okf : Fm.cnt.ok (1 + wd0) := trivial
          generalize upd Hj p (.tup [.str "count"]) = H6 at dr6 rw6 sW6 dp6 ⊢
          generalize Fm.cnt = fm at dp6 okf
        case' inr =>
          refine ⟨_, rfl, rfl, _, rfl, ?_⟩
          rw [wne o.s "count" (by cases o <;> decide +kernel)]
          refine iteF ⟨_, rfl, _, rfl, _, rfl, d, c, 1 + wd0, 1, rfl, by decide, by omega, drj, fun H' p' e f' dr' oke hte dpe => ⟨by show 2 ≤ sizeLine; decide, fun p np => ?k2⟩⟩
          have s6 := same_upd np (o := .tup [.str (Str.ofString o.s), p'])
          have dr6 := dr'.ext s6
          have rw6 := (rwj.fd drj.lst nRd f').fd dr'.lst nRd (Fd.of s6)
          have sW6 := SqT.ext s6 (SqT.fdl drj.lst f' eW)
          have dp6 : Dp K (upd H' p (.tup [.str (Str.ofString o.s), p'])) (.ref p) (Fm.ex o e).d := .tup (.of upd_same) (.cons (.str _) (.cons (Dp.ext s6 _ _ dpe) .nil))
          have okf : (Fm.ex o e).ok (1 + wd0) := ⟨oke, by omega⟩
          generalize upd H' p (.tup [.str (Str.ofString o.s), p']) = H6 at dr6 rw6 sW6 dp6 ⊢
          generalize Fm.ex o e = fm at dp6 okf
        all_goals
          refine ⟨_, rfl, R, _, rfl, .inl (.of rw6.1), fun L nL => ?_⟩
          have s7 := same_upd nL (o := .lst (as.map V.ref))
          have dr7 := dr6.ext s7
          have rw7 := rw6.fd dr6.lst nRd (Fd.of s7)
          have rwL7 : RwL K (upd H6 L (.lst (as.map V.ref))) L as rs := ⟨upd_same, rw7.2⟩
          have sW7 := SqT.ext s7 sW6
          have dp7 := Dp.ext s7 _ _ dp6
          generalize upd H6 L (.lst (as.map V.ref)) = H7 at dr7 rw7 rwL7 sW7 dp7 ⊢
          refine ⟨_, rfl, _, rfl, .ref p, L, as, fm, rs, 1 + wd0, rfl, dp7, rwL7.rws, okf, okr, by omega, fun H8 s8 => ?_⟩
          refine ⟨_, rfl, _, rfl, .ref p, R, as, fm, rs, 1 + wd0, rfl, Dp.ext s8 _ _ dp7, rw7.rws.ext s8, okf, okr, by omega, fun H9 s9 => ?_⟩
          have sh0 : ∀ v : Vl, Sh 0 v.p := fun v => by cases v <;> constructor
          refine ⟨_, _, (fm.ev rs).p, 0, rfl, rfl, sh0 _, (fm.ev rs).dp, (fm.ev rs).dp, fun H10 s10 => ?_⟩
          refine ⟨_, rfl, ?_⟩
          have s710 := (s8.trans s9).trans s10
          refine iteF ?_
          have dL := rws_dp (rwL7.rws.ext s710)
          have dR := rws_dp (rw7.rws.ext s710)
          have sh := rows_shaped fun r hr => (okr r hr).2
          refine ⟨_, rfl, _, rfl, _, _, dL, dR, sh, sh, _, rfl, ?_⟩
          rw [SeqAt.eqv_refl _ (SeqAt.canLay_of_shaped sh)]
          refine iteF ⟨dr7.ext s710, rw7.fd dr7.lst nRd (Fd.of s710), SqT.ext s710 sW7, _, _, _, _, _, rfl⟩
      · exact q _
end

set_option maxHeartbeats 0 in
theorem all_mk {l : PySem.W.OpenLaw} {w : World} {K : PySem.W.Frag} {h : Heap} {mg : Str → Option Value} {fa : Addr} (X : K.In h) (G : h.Ns mainGlobals mg) (hfa : mg "law" = some (.ref fa))
    {od0 an0 : Option Addr} {sl0 : Array (Option Value)} {oc0 kV0 dc0 pm0 cd0 ct0 : Value} {f0 : Addr}
    {od1 an1 : Option Addr} {sl1 : Array (Option Value)} {oc1 kV1 dc1 pm1 cd1 ct1 : Value} {f1 : Addr}
    {od2 an2 : Option Addr} {sl2 : Array (Option Value)} {oc2 kV2 dc2 pm2 cd2 ct2 : Value} {f2 : Addr}
    {od3 an3 : Option Addr} {sl3 : Array (Option Value)} {oc3 kV3 dc3 pm3 cd3 ct3 : Value} {f3 : Addr}
    {od4 an4 : Option Addr} {sl4 : Array (Option Value)} {oc4 kV4 dc4 pm4 cd4 ct4 : Value} {f4 : Addr}
    {od5 an5 : Option Addr} {sl5 : Array (Option Value)} {oc5 kV5 dc5 pm5 cd5 ct5 : Value} {f5 : Addr}
    {od6 an6 : Option Addr} {sl6 : Array (Option Value)} {oc6 kV6 dc6 pm6 cd6 ct6 : Value} {f6 : Addr}
    {od7 an7 : Option Addr} {sl7 : Array (Option Value)} {oc7 kV7 dc7 pm7 cd7 ct7 : Value} {f7 : Addr}
    {od8 an8 : Option Addr} {sl8 : Array (Option Value)} {oc8 kV8 dc8 pm8 cd8 ct8 : Value} {f8 : Addr}
    {od9 an9 : Option Addr} {sl9 : Array (Option Value)} {oc9 kV9 dc9 pm9 cd9 ct9 : Value} {f9 : Addr}
    {od10 an10 : Option Addr} {sl10 : Array (Option Value)} {oc10 kV10 dc10 pm10 cd10 ct10 : Value} {f10 : Addr}
    {od11 an11 : Option Addr} {sl11 : Array (Option Value)} {oc11 kV11 dc11 pm11 cd11 ct11 : Value} {f11 : Addr}
    {od12 an12 : Option Addr} {sl12 : Array (Option Value)} {oc12 kV12 dc12 pm12 cd12 ct12 : Value} {f12 : Addr}
    {od13 an13 : Option Addr} {sl13 : Array (Option Value)} {oc13 kV13 dc13 pm13 cd13 ct13 : Value} {f13 : Addr}
    {od14 an14 : Option Addr} {sl14 : Array (Option Value)} {oc14 kV14 dc14 pm14 cd14 ct14 : Value} {f14 : Addr}
    {od15 an15 : Option Addr} {sl15 : Array (Option Value)} {oc15 kV15 dc15 pm15 cd15 ct15 : Value} {f15 : Addr}
    {od16 an16 : Option Addr} {sl16 : Array (Option Value)} {oc16 kV16 dc16 pm16 cd16 ct16 : Value} {f16 : Addr}
    {od17 an17 : Option Addr} {sl17 : Array (Option Value)} {oc17 kV17 dc17 pm17 cd17 ct17 : Value} {f17 : Addr}
    {od18 an18 : Option Addr} {sl18 : Array (Option Value)} {oc18 kV18 dc18 pm18 cd18 ct18 : Value} {f18 : Addr}
    {od19 an19 : Option Addr} {sl19 : Array (Option Value)} {oc19 kV19 dc19 pm19 cd19 ct19 : Value} {f19 : Addr}
    {od20 an20 : Option Addr} {sl20 : Array (Option Value)} {oc20 kV20 dc20 pm20 cd20 ct20 : Value} {f20 : Addr}
    {od21 an21 : Option Addr} {sl21 : Array (Option Value)} {oc21 kV21 dc21 pm21 cd21 ct21 : Value} {f21 : Addr}
    {od22 an22 : Option Addr} {sl22 : Array (Option Value)} {oc22 kV22 dc22 pm22 cd22 ct22 : Value} {f22 : Addr}
    {od23 an23 : Option Addr} {sl23 : Array (Option Value)} {oc23 kV23 dc23 pm23 cd23 ct23 : Value} {f23 : Addr}
    {od24 an24 : Option Addr} {sl24 : Array (Option Value)} {oc24 kV24 dc24 pm24 cd24 ct24 : Value} {f24 : Addr}
    {od25 an25 : Option Addr} {sl25 : Array (Option Value)} {oc25 kV25 dc25 pm25 cd25 ct25 : Value} {f25 : Addr}
    {od26 an26 : Option Addr} {sl26 : Array (Option Value)} {oc26 kV26 dc26 pm26 cd26 ct26 : Value} {f26 : Addr}
    {od27 an27 : Option Addr} {sl27 : Array (Option Value)} {oc27 kV27 dc27 pm27 cd27 ct27 : Value} {f27 : Addr}
    {od28 an28 : Option Addr} {sl28 : Array (Option Value)} {oc28 kV28 dc28 pm28 cd28 ct28 : Value} {f28 : Addr}
    {od29 an29 : Option Addr} {sl29 : Array (Option Value)} {oc29 kV29 dc29 pm29 cd29 ct29 : Value} {f29 : Addr}
    {od30 an30 : Option Addr} {sl30 : Array (Option Value)} {oc30 kV30 dc30 pm30 cd30 ct30 : Value} {f30 : Addr}
    {od31 an31 : Option Addr} {sl31 : Array (Option Value)} {oc31 kV31 dc31 pm31 cd31 ct31 : Value} {f31 : Addr}
    {od32 an32 : Option Addr} {sl32 : Array (Option Value)} {oc32 kV32 dc32 pm32 cd32 ct32 : Value} {f32 : Addr}
    {od33 an33 : Option Addr} {sl33 : Array (Option Value)} {oc33 kV33 dc33 pm33 cd33 ct33 : Value} {f33 : Addr}
    {od34 an34 : Option Addr} {sl34 : Array (Option Value)} {oc34 kV34 dc34 pm34 cd34 ct34 : Value} {f34 : Addr}
    {od35 an35 : Option Addr} {sl35 : Array (Option Value)} {oc35 kV35 dc35 pm35 cd35 ct35 : Value} {f35 : Addr}
    {od36 an36 : Option Addr} {sl36 : Array (Option Value)} {oc36 kV36 dc36 pm36 cd36 ct36 : Value} {f36 : Addr}
    {od37 an37 : Option Addr} {sl37 : Array (Option Value)} {oc37 kV37 dc37 pm37 cd37 ct37 : Value} {f37 : Addr}
    (a0 : PySem.W.nsIn K mainGlobals "value_key" = some (some (.ref f0))) (l0 : K.lookup f0 = some ⟨oc0, od0, .func (PySem.W.fnOf "value_key" "value_key" (defArgs s_value_key) (defBody s_value_key) (defScope s_value_key) .none kV0 dc0 pm0 an0 cd0 ct0), sl0⟩) (c0 : PySem.W.codeIn K cd0 "value_key" = true) (k0 : PySem.W.keepIn K (.ref f0) = true)
    (a1 : PySem.W.nsIn K mainGlobals "is_true" = some (some (.ref f1))) (l1 : K.lookup f1 = some ⟨oc1, od1, .func (PySem.W.fnOf "is_true" "is_true" (defArgs s_is_true) (defBody s_is_true) (defScope s_is_true) .none kV1 dc1 pm1 an1 cd1 ct1), sl1⟩) (c1 : PySem.W.codeIn K cd1 "is_true" = true) (k1 : PySem.W.keepIn K (.ref f1) = true)
    (a2 : PySem.W.nsIn K mainGlobals "is_false" = some (some (.ref f2))) (l2 : K.lookup f2 = some ⟨oc2, od2, .func (PySem.W.fnOf "is_false" "is_false" (defArgs s_is_false) (defBody s_is_false) (defScope s_is_false) .none kV2 dc2 pm2 an2 cd2 ct2), sl2⟩) (c2 : PySem.W.codeIn K cd2 "is_false" = true) (k2 : PySem.W.keepIn K (.ref f2) = true)
    (a3 : PySem.W.nsIn K mainGlobals "bounded" = some (some (.ref f3))) (l3 : K.lookup f3 = some ⟨oc3, od3, .func (PySem.W.fnOf "bounded" "bounded" (defArgs s_bounded) (defBody s_bounded) (defScope s_bounded) .none kV3 dc3 pm3 an3 cd3 ct3), sl3⟩) (c3 : PySem.W.codeIn K cd3 "bounded" = true) (k3 : PySem.W.keepIn K (.ref f3) = true)
    (a4 : PySem.W.nsIn K mainGlobals "are_integers" = some (some (.ref f4))) (l4 : K.lookup f4 = some ⟨oc4, od4, .func (PySem.W.fnOf "are_integers" "are_integers" (defArgs s_are_integers) (defBody s_are_integers) (defScope s_are_integers) .none kV4 dc4 pm4 an4 cd4 ct4), sl4⟩) (c4 : PySem.W.codeIn K cd4 "are_integers" = true) (k4 : PySem.W.keepIn K (.ref f4) = true)
    (a5 : PySem.W.nsIn K mainGlobals "negate" = some (some (.ref f5))) (l5 : K.lookup f5 = some ⟨oc5, od5, .func (PySem.W.fnOf "negate" "negate" (defArgs s_negate) (defBody s_negate) (defScope s_negate) .none kV5 dc5 pm5 an5 cd5 ct5), sl5⟩) (c5 : PySem.W.codeIn K cd5 "negate" = true) (k5 : PySem.W.keepIn K (.ref f5) = true)
    (a6 : PySem.W.nsIn K mainGlobals "add" = some (some (.ref f6))) (l6 : K.lookup f6 = some ⟨oc6, od6, .func (PySem.W.fnOf "add" "add" (defArgs s_add) (defBody s_add) (defScope s_add) .none kV6 dc6 pm6 an6 cd6 ct6), sl6⟩) (c6 : PySem.W.codeIn K cd6 "add" = true) (k6 : PySem.W.keepIn K (.ref f6) = true)
    (a7 : PySem.W.nsIn K mainGlobals "subtract" = some (some (.ref f7))) (l7 : K.lookup f7 = some ⟨oc7, od7, .func (PySem.W.fnOf "subtract" "subtract" (defArgs s_subtract) (defBody s_subtract) (defScope s_subtract) .none kV7 dc7 pm7 an7 cd7 ct7), sl7⟩) (c7 : PySem.W.codeIn K cd7 "subtract" = true) (k7 : PySem.W.keepIn K (.ref f7) = true)
    (a8 : PySem.W.nsIn K mainGlobals "multiply" = some (some (.ref f8))) (l8 : K.lookup f8 = some ⟨oc8, od8, .func (PySem.W.fnOf "multiply" "multiply" (defArgs s_multiply) (defBody s_multiply) (defScope s_multiply) .none kV8 dc8 pm8 an8 cd8 ct8), sl8⟩) (c8 : PySem.W.codeIn K cd8 "multiply" = true) (k8 : PySem.W.keepIn K (.ref f8) = true)
    (a9 : PySem.W.nsIn K mainGlobals "divide" = some (some (.ref f9))) (l9 : K.lookup f9 = some ⟨oc9, od9, .func (PySem.W.fnOf "divide" "divide" (defArgs s_divide) (defBody s_divide) (defScope s_divide) .none kV9 dc9 pm9 an9 cd9 ct9), sl9⟩) (c9 : PySem.W.codeIn K cd9 "divide" = true) (k9 : PySem.W.keepIn K (.ref f9) = true)
    (a10 : PySem.W.nsIn K mainGlobals "remainder" = some (some (.ref f10))) (l10 : K.lookup f10 = some ⟨oc10, od10, .func (PySem.W.fnOf "remainder" "remainder" (defArgs s_remainder) (defBody s_remainder) (defScope s_remainder) .none kV10 dc10 pm10 an10 cd10 ct10), sl10⟩) (c10 : PySem.W.codeIn K cd10 "remainder" = true) (k10 : PySem.W.keepIn K (.ref f10) = true)
    (a11 : PySem.W.nsIn K mainGlobals "less" = some (some (.ref f11))) (l11 : K.lookup f11 = some ⟨oc11, od11, .func (PySem.W.fnOf "less" "less" (defArgs s_less) (defBody s_less) (defScope s_less) .none kV11 dc11 pm11 an11 cd11 ct11), sl11⟩) (c11 : PySem.W.codeIn K cd11 "less" = true) (k11 : PySem.W.keepIn K (.ref f11) = true)
    (a12 : PySem.W.nsIn K mainGlobals "equal" = some (some (.ref f12))) (l12 : K.lookup f12 = some ⟨oc12, od12, .func (PySem.W.fnOf "equal" "equal" (defArgs s_equal) (defBody s_equal) (defScope s_equal) .none kV12 dc12 pm12 an12 cd12 ct12), sl12⟩) (c12 : PySem.W.codeIn K cd12 "equal" = true) (k12 : PySem.W.keepIn K (.ref f12) = true)
    (a13 : PySem.W.nsIn K mainGlobals "conjunction" = some (some (.ref f13))) (l13 : K.lookup f13 = some ⟨oc13, od13, .func (PySem.W.fnOf "conjunction" "conjunction" (defArgs s_conjunction) (defBody s_conjunction) (defScope s_conjunction) .none kV13 dc13 pm13 an13 cd13 ct13), sl13⟩) (c13 : PySem.W.codeIn K cd13 "conjunction" = true) (k13 : PySem.W.keepIn K (.ref f13) = true)
    (a14 : PySem.W.nsIn K mainGlobals "disjunction" = some (some (.ref f14))) (l14 : K.lookup f14 = some ⟨oc14, od14, .func (PySem.W.fnOf "disjunction" "disjunction" (defArgs s_disjunction) (defBody s_disjunction) (defScope s_disjunction) .none kV14 dc14 pm14 an14 cd14 ct14), sl14⟩) (c14 : PySem.W.codeIn K cd14 "disjunction" = true) (k14 : PySem.W.keepIn K (.ref f14) = true)
    (a15 : PySem.W.nsIn K mainGlobals "negation" = some (some (.ref f15))) (l15 : K.lookup f15 = some ⟨oc15, od15, .func (PySem.W.fnOf "negation" "negation" (defArgs s_negation) (defBody s_negation) (defScope s_negation) .none kV15 dc15 pm15 an15 cd15 ct15), sl15⟩) (c15 : PySem.W.codeIn K cd15 "negation" = true) (k15 : PySem.W.keepIn K (.ref f15) = true)
    (a16 : PySem.W.nsIn K mainGlobals "missing" = some (some (.ref f16))) (l16 : K.lookup f16 = some ⟨oc16, od16, .func (PySem.W.fnOf "missing" "missing" (defArgs s_missing) (defBody s_missing) (defScope s_missing) .none kV16 dc16 pm16 an16 cd16 ct16), sl16⟩) (c16 : PySem.W.codeIn K cd16 "missing" = true) (k16 : PySem.W.keepIn K (.ref f16) = true)
    (a17 : PySem.W.nsIn K mainGlobals "choose" = some (some (.ref f17))) (l17 : K.lookup f17 = some ⟨oc17, od17, .func (PySem.W.fnOf "choose" "choose" (defArgs s_choose) (defBody s_choose) (defScope s_choose) .none kV17 dc17 pm17 an17 cd17 ct17), sl17⟩) (c17 : PySem.W.codeIn K cd17 "choose" = true) (k17 : PySem.W.keepIn K (.ref f17) = true)
    (a18 : PySem.W.nsIn K mainGlobals "length" = some (some (.ref f18))) (l18 : K.lookup f18 = some ⟨oc18, od18, .func (PySem.W.fnOf "length" "length" (defArgs s_length) (defBody s_length) (defScope s_length) .none kV18 dc18 pm18 an18 cd18 ct18), sl18⟩) (c18 : PySem.W.codeIn K cd18 "length" = true) (k18 : PySem.W.keepIn K (.ref f18) = true)
    (a19 : PySem.W.nsIn K mainGlobals "starts" = some (some (.ref f19))) (l19 : K.lookup f19 = some ⟨oc19, od19, .func (PySem.W.fnOf "starts" "starts" (defArgs s_starts) (defBody s_starts) (defScope s_starts) .none kV19 dc19 pm19 an19 cd19 ct19), sl19⟩) (c19 : PySem.W.codeIn K cd19 "starts" = true) (k19 : PySem.W.keepIn K (.ref f19) = true)
    (a20 : PySem.W.nsIn K mainGlobals "evaluate" = some (some (.ref f20))) (l20 : K.lookup f20 = some ⟨oc20, od20, .func (PySem.W.fnOf "evaluate" "evaluate" (defArgs s_evaluate) (defBody s_evaluate) (defScope s_evaluate) .none kV20 dc20 pm20 an20 cd20 ct20), sl20⟩) (c20 : PySem.W.codeIn K cd20 "evaluate" = true) (k20 : PySem.W.keepIn K (.ref f20) = true)
    (a21 : PySem.W.nsIn K mainGlobals "total" = some (some (.ref f21))) (l21 : K.lookup f21 = some ⟨oc21, od21, .func (PySem.W.fnOf "total" "total" (defArgs s_total) (defBody s_total) (defScope s_total) .none kV21 dc21 pm21 an21 cd21 ct21), sl21⟩) (c21 : PySem.W.codeIn K cd21 "total" = true) (k21 : PySem.W.keepIn K (.ref f21) = true)
    (a22 : PySem.W.nsIn K mainGlobals "exact_sum" = some (some (.ref f22))) (l22 : K.lookup f22 = some ⟨oc22, od22, .func (PySem.W.fnOf "exact_sum" "exact_sum" (defArgs s_exact_sum) (defBody s_exact_sum) (defScope s_exact_sum) .none kV22 dc22 pm22 an22 cd22 ct22), sl22⟩) (c22 : PySem.W.codeIn K cd22 "exact_sum" = true) (k22 : PySem.W.keepIn K (.ref f22) = true)
    (a23 : PySem.W.nsIn K mainGlobals "_law_draw" = some (some (.ref f23))) (l23 : K.lookup f23 = some ⟨oc23, od23, .func (PySem.W.fnOf "_law_draw" "_law_draw" (defArgs s__law_draw) (defBody s__law_draw) (defScope s__law_draw) .none kV23 dc23 pm23 an23 cd23 ct23), sl23⟩) (c23 : PySem.W.codeIn K cd23 "_law_draw" = true) (k23 : PySem.W.keepIn K (.ref f23) = true)
    (a24 : PySem.W.nsIn K mainGlobals "_law_next" = some (some (.ref f24))) (l24 : K.lookup f24 = some ⟨oc24, od24, .func (PySem.W.fnOf "_law_next" "_law_next" (defArgs s__law_next) (defBody s__law_next) (defScope s__law_next) .none kV24 dc24 pm24 an24 cd24 ct24), sl24⟩) (c24 : PySem.W.codeIn K cd24 "_law_next" = true) (k24 : PySem.W.keepIn K (.ref f24) = true)
    (a25 : PySem.W.nsIn K mainGlobals "_law_same" = some (some (.ref f25))) (l25 : K.lookup f25 = some ⟨oc25, od25, .func (PySem.W.fnOf "_law_same" "_law_same" (defArgs s__law_same) (defBody s__law_same) (defScope s__law_same) .none kV25 dc25 pm25 an25 cd25 ct25), sl25⟩) (c25 : PySem.W.codeIn K cd25 "_law_same" = true) (k25 : PySem.W.keepIn K (.ref f25) = true)
    (a26 : PySem.W.nsIn K mainGlobals "_law_cell" = some (some (.ref f26))) (l26 : K.lookup f26 = some ⟨oc26, od26, .func (PySem.W.fnOf "_law_cell" "_law_cell" (defArgs s__law_cell) (defBody s__law_cell) (defScope s__law_cell) .none kV26 dc26 pm26 an26 cd26 ct26), sl26⟩) (c26 : PySem.W.codeIn K cd26 "_law_cell" = true) (k26 : PySem.W.keepIn K (.ref f26) = true)
    (a27 : PySem.W.nsIn K mainGlobals "_law_key" = some (some (.ref f27))) (l27 : K.lookup f27 = some ⟨oc27, od27, .func (PySem.W.fnOf "_law_key" "_law_key" (defArgs s__law_key) (defBody s__law_key) (defScope s__law_key) .none kV27 dc27 pm27 an27 cd27 ct27), sl27⟩) (c27 : PySem.W.codeIn K cd27 "_law_key" = true) (k27 : PySem.W.keepIn K (.ref f27) = true)
    (a28 : PySem.W.nsIn K mainGlobals "_law_distinct" = some (some (.ref f28))) (l28 : K.lookup f28 = some ⟨oc28, od28, .func (PySem.W.fnOf "_law_distinct" "_law_distinct" (defArgs s__law_distinct) (defBody s__law_distinct) (defScope s__law_distinct) .none kV28 dc28 pm28 an28 cd28 ct28), sl28⟩) (c28 : PySem.W.codeIn K cd28 "_law_distinct" = true) (k28 : PySem.W.keepIn K (.ref f28) = true)
    (a29 : PySem.W.nsIn K mainGlobals "_law_expression" = some (some (.ref f29))) (l29 : K.lookup f29 = some ⟨oc29, od29, .func (PySem.W.fnOf "_law_expression" "_law_expression" (defArgs s__law_expression) (defBody s__law_expression) (defScope s__law_expression) .none kV29 dc29 pm29 an29 cd29 ct29), sl29⟩) (c29 : PySem.W.codeIn K cd29 "_law_expression" = true) (k29 : PySem.W.keepIn K (.ref f29) = true)
    (a30 : PySem.W.nsIn K mainGlobals "_law_known" = some (some (.ref f30))) (l30 : K.lookup f30 = some ⟨oc30, od30, .func (PySem.W.fnOf "_law_known" "_law_known" (defArgs s__law_known) (defBody s__law_known) (defScope s__law_known) .none kV30 dc30 pm30 an30 cd30 ct30), sl30⟩) (c30 : PySem.W.codeIn K cd30 "_law_known" = true) (k30 : PySem.W.keepIn K (.ref f30) = true)
    (a31 : PySem.W.nsIn K mainGlobals "_law_bounded" = some (some (.ref f31))) (l31 : K.lookup f31 = some ⟨oc31, od31, .func (PySem.W.fnOf "_law_bounded" "_law_bounded" (defArgs s__law_bounded) (defBody s__law_bounded) (defScope s__law_bounded) .none kV31 dc31 pm31 an31 cd31 ct31), sl31⟩) (c31 : PySem.W.codeIn K cd31 "_law_bounded" = true) (k31 : PySem.W.keepIn K (.ref f31) = true)
    (a32 : PySem.W.nsIn K mainGlobals "_law_arithmetic" = some (some (.ref f32))) (l32 : K.lookup f32 = some ⟨oc32, od32, .func (PySem.W.fnOf "_law_arithmetic" "_law_arithmetic" (defArgs s__law_arithmetic) (defBody s__law_arithmetic) (defScope s__law_arithmetic) .none kV32 dc32 pm32 an32 cd32 ct32), sl32⟩) (c32 : PySem.W.codeIn K cd32 "_law_arithmetic" = true) (k32 : PySem.W.keepIn K (.ref f32) = true)
    (a33 : PySem.W.nsIn K mainGlobals "_law_logic" = some (some (.ref f33))) (l33 : K.lookup f33 = some ⟨oc33, od33, .func (PySem.W.fnOf "_law_logic" "_law_logic" (defArgs s__law_logic) (defBody s__law_logic) (defScope s__law_logic) .none kV33 dc33 pm33 an33 cd33 ct33), sl33⟩) (c33 : PySem.W.codeIn K cd33 "_law_logic" = true) (k33 : PySem.W.keepIn K (.ref f33) = true)
    (a34 : PySem.W.nsIn K mainGlobals "_law_single" = some (some (.ref f34))) (l34 : K.lookup f34 = some ⟨oc34, od34, .func (PySem.W.fnOf "_law_single" "_law_single" (defArgs s__law_single) (defBody s__law_single) (defScope s__law_single) .none kV34 dc34 pm34 an34 cd34 ct34), sl34⟩) (c34 : PySem.W.codeIn K cd34 "_law_single" = true) (k34 : PySem.W.keepIn K (.ref f34) = true)
    (a35 : PySem.W.nsIn K mainGlobals "_law_due" = some (some (.ref f35))) (l35 : K.lookup f35 = some ⟨oc35, od35, .func (PySem.W.fnOf "_law_due" "_law_due" (defArgs s__law_due) (defBody s__law_due) (defScope s__law_due) .none kV35 dc35 pm35 an35 cd35 ct35), sl35⟩) (c35 : PySem.W.codeIn K cd35 "_law_due" = true) (k35 : PySem.W.keepIn K (.ref f35) = true)
    (a36 : PySem.W.nsIn K mainGlobals "_law_total" = some (some (.ref f36))) (l36 : K.lookup f36 = some ⟨oc36, od36, .func (PySem.W.fnOf "_law_total" "_law_total" (defArgs s__law_total) (defBody s__law_total) (defScope s__law_total) .none kV36 dc36 pm36 an36 cd36 ct36), sl36⟩) (c36 : PySem.W.codeIn K cd36 "_law_total" = true) (k36 : PySem.W.keepIn K (.ref f36) = true)
    (a37 : PySem.W.nsIn K mainGlobals "law" = some (some (.ref f37))) (l37 : K.lookup f37 = some ⟨oc37, od37, .func (PySem.W.fnOf "law" "law" (defArgs s_law) (defBody s_law) (defScope s_law) .none kV37 dc37 pm37 an37 cd37 ct37), sl37⟩) (c37 : PySem.W.codeIn K cd37 "law" = true) (k37 : PySem.W.keepIn K (.ref f37) = true)
    {tk_BOUND : Tok} (w_BOUND : PySem.W.nsIn K mainGlobals "BOUND" = some (some (.int 1000000000000000 tk_BOUND))) {a_OPERATIONS : Addr} {es_OPERATIONS : Array DictEntry} {n_OPERATIONS : Nat} (w_OPERATIONS : PySem.W.nsIn K mainGlobals "OPERATIONS" = some (some (.ref a_OPERATIONS))) (v_OPERATIONS : K.lookup a_OPERATIONS = some ⟨.type "dict", none, .dict es_OPERATIONS n_OPERATIONS, #[]⟩) (k_OPERATIONS : PySem.W.KeysLit w.params es_OPERATIONS.toList) (lo_OPERATIONS : (a_OPERATIONS == sysModules) = false) (w_OPERATIONS_0 : PySem.W.nsIn K a_OPERATIONS (PySem.Str.ofString "negate") = some (some (.ref f5))) (w_OPERATIONS_1 : PySem.W.nsIn K a_OPERATIONS (PySem.Str.ofString "add") = some (some (.ref f6))) (w_OPERATIONS_2 : PySem.W.nsIn K a_OPERATIONS (PySem.Str.ofString "subtract") = some (some (.ref f7))) (w_OPERATIONS_3 : PySem.W.nsIn K a_OPERATIONS (PySem.Str.ofString "multiply") = some (some (.ref f8))) (w_OPERATIONS_4 : PySem.W.nsIn K a_OPERATIONS (PySem.Str.ofString "divide") = some (some (.ref f9))) (w_OPERATIONS_5 : PySem.W.nsIn K a_OPERATIONS (PySem.Str.ofString "remainder") = some (some (.ref f10))) (w_OPERATIONS_6 : PySem.W.nsIn K a_OPERATIONS (PySem.Str.ofString "less") = some (some (.ref f11))) (w_OPERATIONS_7 : PySem.W.nsIn K a_OPERATIONS (PySem.Str.ofString "equal") = some (some (.ref f12))) (w_OPERATIONS_8 : PySem.W.nsIn K a_OPERATIONS (PySem.Str.ofString "and") = some (some (.ref f13))) (w_OPERATIONS_9 : PySem.W.nsIn K a_OPERATIONS (PySem.Str.ofString "or") = some (some (.ref f14))) (w_OPERATIONS_10 : PySem.W.nsIn K a_OPERATIONS (PySem.Str.ofString "not") = some (some (.ref f15))) (w_OPERATIONS_11 : PySem.W.nsIn K a_OPERATIONS (PySem.Str.ofString "missing") = some (some (.ref f16))) (w_OPERATIONS_12 : PySem.W.nsIn K a_OPERATIONS (PySem.Str.ofString "choose") = some (some (.ref f17))) (w_OPERATIONS_13 : PySem.W.nsIn K a_OPERATIONS (PySem.Str.ofString "length") = some (some (.ref f18))) (w_OPERATIONS_14 : PySem.W.nsIn K a_OPERATIONS (PySem.Str.ofString "starts") = some (some (.ref f19))) (z_abs : PySem.W.nsIn K mainGlobals "abs" = some none) (z_all : PySem.W.nsIn K mainGlobals "all" = some none) (z_bool : PySem.W.nsIn K mainGlobals "bool" = some none) (z_int : PySem.W.nsIn K mainGlobals "int" = some none) (z_isinstance : PySem.W.nsIn K mainGlobals "isinstance" = some none) (z_len : PySem.W.nsIn K mainGlobals "len" = some none) (z_list : PySem.W.nsIn K mainGlobals "list" = some none) (z_max : PySem.W.nsIn K mainGlobals "max" = some none) (z_min : PySem.W.nsIn K mainGlobals "min" = some none) (z_range : PySem.W.nsIn K mainGlobals "range" = some none) (z_sorted : PySem.W.nsIn K mainGlobals "sorted" = some none) (z_str : PySem.W.nsIn K mainGlobals "str" = some none) (z_sum : PySem.W.nsIn K mainGlobals "sum" = some none) (z_tuple : PySem.W.nsIn K mainGlobals "tuple" = some none) :
    ∃ fd : FuncData, (∀ (s : Shared) (v : Value), BindsTo s fd ⟨[v], []⟩ [("script", v)]) ∧ ∀ base : Heap, K.In base → base.Ns mainGlobals mg → FnOk l.prog w K mg base CX0 10 fa fd ["script"] (sp_law K) := by
  have e := hfa.symm.trans (PySem.W.mg_of X G a37)
  cases e
  have F_value_key := fun_mk (st := s_value_key) l0 c0 k0
  have b_value_key := F_value_key.binds (ps := ["value"]) fun _ _ _ _ _ _ us hl => match us, hl with | [_], _ => rfl
  have g_value_key := PySem.W.mg_of X G a0
  have F_is_true := fun_mk (st := s_is_true) l1 c1 k1
  have b_is_true := F_is_true.binds (ps := ["value"]) fun _ _ _ _ _ _ us hl => match us, hl with | [_], _ => rfl
  have g_is_true := PySem.W.mg_of X G a1
  have F_is_false := fun_mk (st := s_is_false) l2 c2 k2
  have b_is_false := F_is_false.binds (ps := ["value"]) fun _ _ _ _ _ _ us hl => match us, hl with | [_], _ => rfl
  have g_is_false := PySem.W.mg_of X G a2
  have F_bounded := fun_mk (st := s_bounded) l3 c3 k3
  have b_bounded := F_bounded.binds (ps := ["number"]) fun _ _ _ _ _ _ us hl => match us, hl with | [_], _ => rfl
  have g_bounded := PySem.W.mg_of X G a3
  have F_are_integers := fun_mk (st := s_are_integers) l4 c4 k4
  have b_are_integers := F_are_integers.binds (ps := ["first", "second"]) fun _ _ _ _ _ _ us hl => match us, hl with | [_, _], _ => rfl
  have g_are_integers := PySem.W.mg_of X G a4
  have F_negate := fun_mk (st := s_negate) l5 c5 k5
  have b_negate := F_negate.binds (ps := ["value"]) fun _ _ _ _ _ _ us hl => match us, hl with | [_], _ => rfl
  have g_negate := PySem.W.mg_of X G a5
  have F_add := fun_mk (st := s_add) l6 c6 k6
  have b_add := F_add.binds (ps := ["first", "second"]) fun _ _ _ _ _ _ us hl => match us, hl with | [_, _], _ => rfl
  have g_add := PySem.W.mg_of X G a6
  have F_subtract := fun_mk (st := s_subtract) l7 c7 k7
  have b_subtract := F_subtract.binds (ps := ["first", "second"]) fun _ _ _ _ _ _ us hl => match us, hl with | [_, _], _ => rfl
  have g_subtract := PySem.W.mg_of X G a7
  have F_multiply := fun_mk (st := s_multiply) l8 c8 k8
  have b_multiply := F_multiply.binds (ps := ["first", "second"]) fun _ _ _ _ _ _ us hl => match us, hl with | [_, _], _ => rfl
  have g_multiply := PySem.W.mg_of X G a8
  have F_divide := fun_mk (st := s_divide) l9 c9 k9
  have b_divide := F_divide.binds (ps := ["first", "second"]) fun _ _ _ _ _ _ us hl => match us, hl with | [_, _], _ => rfl
  have g_divide := PySem.W.mg_of X G a9
  have F_remainder := fun_mk (st := s_remainder) l10 c10 k10
  have b_remainder := F_remainder.binds (ps := ["first", "second"]) fun _ _ _ _ _ _ us hl => match us, hl with | [_, _], _ => rfl
  have g_remainder := PySem.W.mg_of X G a10
  have F_less := fun_mk (st := s_less) l11 c11 k11
  have b_less := F_less.binds (ps := ["first", "second"]) fun _ _ _ _ _ _ us hl => match us, hl with | [_, _], _ => rfl
  have g_less := PySem.W.mg_of X G a11
  have F_equal := fun_mk (st := s_equal) l12 c12 k12
  have b_equal := F_equal.binds (ps := ["first", "second"]) fun _ _ _ _ _ _ us hl => match us, hl with | [_, _], _ => rfl
  have g_equal := PySem.W.mg_of X G a12
  have F_conjunction := fun_mk (st := s_conjunction) l13 c13 k13
  have b_conjunction := F_conjunction.binds (ps := ["first", "second"]) fun _ _ _ _ _ _ us hl => match us, hl with | [_, _], _ => rfl
  have g_conjunction := PySem.W.mg_of X G a13
  have F_disjunction := fun_mk (st := s_disjunction) l14 c14 k14
  have b_disjunction := F_disjunction.binds (ps := ["first", "second"]) fun _ _ _ _ _ _ us hl => match us, hl with | [_, _], _ => rfl
  have g_disjunction := PySem.W.mg_of X G a14
  have F_negation := fun_mk (st := s_negation) l15 c15 k15
  have b_negation := F_negation.binds (ps := ["value"]) fun _ _ _ _ _ _ us hl => match us, hl with | [_], _ => rfl
  have g_negation := PySem.W.mg_of X G a15
  have F_missing := fun_mk (st := s_missing) l16 c16 k16
  have b_missing := F_missing.binds (ps := ["value"]) fun _ _ _ _ _ _ us hl => match us, hl with | [_], _ => rfl
  have g_missing := PySem.W.mg_of X G a16
  have F_choose := fun_mk (st := s_choose) l17 c17 k17
  have b_choose := F_choose.binds (ps := ["condition", "first", "second"]) fun _ _ _ _ _ _ us hl => match us, hl with | [_, _, _], _ => rfl
  have g_choose := PySem.W.mg_of X G a17
  have F_length := fun_mk (st := s_length) l18 c18 k18
  have b_length := F_length.binds (ps := ["value"]) fun _ _ _ _ _ _ us hl => match us, hl with | [_], _ => rfl
  have g_length := PySem.W.mg_of X G a18
  have F_starts := fun_mk (st := s_starts) l19 c19 k19
  have b_starts := F_starts.binds (ps := ["first", "second"]) fun _ _ _ _ _ _ us hl => match us, hl with | [_, _], _ => rfl
  have g_starts := PySem.W.mg_of X G a19
  have F_evaluate := fun_mk (st := s_evaluate) l20 c20 k20
  have b_evaluate := F_evaluate.binds (ps := ["expression", "row"]) fun _ _ _ _ _ _ us hl => match us, hl with | [_, _], _ => rfl
  have g_evaluate := PySem.W.mg_of X G a20
  have F_total := fun_mk (st := s_total) l21 c21 k21
  have b_total := F_total.binds (ps := ["form", "rows"]) fun _ _ _ _ _ _ us hl => match us, hl with | [_, _], _ => rfl
  have g_total := PySem.W.mg_of X G a21
  have F_exact_sum := fun_mk (st := s_exact_sum) l22 c22 k22
  have b_exact_sum := F_exact_sum.binds (ps := ["values"]) fun _ _ _ _ _ _ us hl => match us, hl with | [_], _ => rfl
  have g_exact_sum := PySem.W.mg_of X G a22
  have F__law_draw := fun_mk (st := s__law_draw) l23 c23 k23
  have b__law_draw := F__law_draw.binds (ps := ["script"]) fun _ _ _ _ _ _ us hl => match us, hl with | [_], _ => rfl
  have g__law_draw := PySem.W.mg_of X G a23
  have F__law_next := fun_mk (st := s__law_next) l24 c24 k24
  have b__law_next := F__law_next.binds (ps := ["draw", "many"]) fun _ _ _ _ _ _ us hl => match us, hl with | [_, _], _ => rfl
  have g__law_next := PySem.W.mg_of X G a24
  have F__law_same := fun_mk (st := s__law_same) l25 c25 k25
  have b__law_same := F__law_same.binds (ps := ["actual", "due"]) fun _ _ _ _ _ _ us hl => match us, hl with | [_, _], _ => rfl
  have g__law_same := PySem.W.mg_of X G a25
  have F__law_cell := fun_mk (st := s__law_cell) l26 c26 k26
  have b__law_cell := F__law_cell.binds (ps := ["draw"]) fun _ _ _ _ _ _ us hl => match us, hl with | [_], _ => rfl
  have g__law_cell := PySem.W.mg_of X G a26
  have F__law_key := fun_mk (st := s__law_key) l27 c27 k27
  have b__law_key := F__law_key.binds (ps := ["value"]) fun _ _ _ _ _ _ us hl => match us, hl with | [_], _ => rfl
  have g__law_key := PySem.W.mg_of X G a27
  have F__law_distinct := fun_mk (st := s__law_distinct) l28 c28 k28
  have b__law_distinct := F__law_distinct.binds (ps := ["rows"]) fun _ _ _ _ _ _ us hl => match us, hl with | [_], _ => rfl
  have g__law_distinct := PySem.W.mg_of X G a28
  have F__law_expression := fun_mk (st := s__law_expression) l29 c29 k29
  have b__law_expression := F__law_expression.binds (ps := ["draw", "width", "depth"]) fun _ _ _ _ _ _ us hl => match us, hl with | [_, _, _], _ => rfl
  have g__law_expression := PySem.W.mg_of X G a29
  have F__law_known := fun_mk (st := s__law_known) l30 c30 k30
  have b__law_known := F__law_known.binds (ps := ["value"]) fun _ _ _ _ _ _ us hl => match us, hl with | [_], _ => rfl
  have g__law_known := PySem.W.mg_of X G a30
  have F__law_bounded := fun_mk (st := s__law_bounded) l31 c31 k31
  have b__law_bounded := F__law_bounded.binds (ps := ["number"]) fun _ _ _ _ _ _ us hl => match us, hl with | [_], _ => rfl
  have g__law_bounded := PySem.W.mg_of X G a31
  have F__law_arithmetic := fun_mk (st := s__law_arithmetic) l32 c32 k32
  have b__law_arithmetic := F__law_arithmetic.binds (ps := ["word", "first", "second"]) fun _ _ _ _ _ _ us hl => match us, hl with | [_, _, _], _ => rfl
  have g__law_arithmetic := PySem.W.mg_of X G a32
  have F__law_logic := fun_mk (st := s__law_logic) l33 c33 k33
  have b__law_logic := F__law_logic.binds (ps := ["word", "first", "second"]) fun _ _ _ _ _ _ us hl => match us, hl with | [_, _, _], _ => rfl
  have g__law_logic := PySem.W.mg_of X G a33
  have F__law_single := fun_mk (st := s__law_single) l34 c34 k34
  have b__law_single := F__law_single.binds (ps := ["word", "value"]) fun _ _ _ _ _ _ us hl => match us, hl with | [_, _], _ => rfl
  have g__law_single := PySem.W.mg_of X G a34
  have F__law_due := fun_mk (st := s__law_due) l35 c35 k35
  have b__law_due := F__law_due.binds (ps := ["tree", "row"]) fun _ _ _ _ _ _ us hl => match us, hl with | [_, _], _ => rfl
  have g__law_due := PySem.W.mg_of X G a35
  have F__law_total := fun_mk (st := s__law_total) l36 c36 k36
  have b__law_total := F__law_total.binds (ps := ["form", "rows"]) fun _ _ _ _ _ _ us hl => match us, hl with | [_, _], _ => rfl
  have g__law_total := PySem.W.mg_of X G a36
  have F_law := fun_mk (st := s_law) l37 c37 k37
  have M : Mg mg := ⟨PySem.W.mg_none_of X G z_abs, PySem.W.mg_none_of X G z_all, PySem.W.mg_none_of X G z_bool, PySem.W.mg_none_of X G z_int, PySem.W.mg_none_of X G z_isinstance, PySem.W.mg_none_of X G z_len, PySem.W.mg_none_of X G z_list, PySem.W.mg_none_of X G z_max, PySem.W.mg_none_of X G z_min, PySem.W.mg_none_of X G z_range, PySem.W.mg_none_of X G z_sorted, PySem.W.mg_none_of X G z_str, PySem.W.mg_none_of X G z_sum, PySem.W.mg_none_of X G z_tuple⟩
  exact ⟨PySem.W.fnOf "law" "law" (defArgs s_law) (defBody s_law) (defScope s_law) .none kV37 dc37 pm37 an37 cd37 ct37, fun s v => .of_eq rfl, fun base _ _ => by
  have GB : Bd15 K mg := ⟨⟨_, PySem.W.mg_of X G w_BOUND, _, rfl⟩⟩
  have KEY := FnOk.cl (P := l.prog) (w := w) (base := base) (ok_key F_value_key M) F_value_key g_value_key b_value_key
  have IST := FnOk.cl (P := l.prog) (w := w) (base := base) (ok_istrue F_is_true M) F_is_true g_is_true b_is_true
  have ISF := FnOk.cl (P := l.prog) (w := w) (base := base) (ok_isfalse F_is_false M) F_is_false g_is_false b_is_false
  have ARE := FnOk.cl (P := l.prog) (w := w) (base := base) (ok_areints F_are_integers M) F_are_integers g_are_integers b_are_integers
  have BD := FnOk.cl (P := l.prog) (w := w) (base := base) (ok_bnd F_bounded M GB) F_bounded g_bounded b_bounded
  have OP : OpG l.prog w K mg base 2 a_OPERATIONS es_OPERATIONS n_OPERATIONS := by
    refine ⟨⟨_, PySem.W.mg_of X G w_OPERATIONS, rfl⟩, ⟨v_OPERATIONS, k_OPERATIONS, lo_OPERATIONS⟩, fun e he => ?_⟩
    cases e with
    | col i => cases he
    | con v => cases he
    | un o a =>
      cases o with
      | neg => exact ⟨_, w_OPERATIONS_0, _, _, FnOk.imp (P := l.prog) (w := w) (base := base) (ok_neg F_negate M BD) imp_un, F_negate.kp, b_negate⟩
      | not => exact ⟨_, w_OPERATIONS_10, _, _, FnOk.imp (P := l.prog) (w := w) (base := base) (ok_not F_negation M IST ISF) imp_un, F_negation.kp, b_negation⟩
      | mis => exact ⟨_, w_OPERATIONS_11, _, _, FnOk.imp (P := l.prog) (w := w) (base := base) (ok_mis F_missing M) imp_un, F_missing.kp, b_missing⟩
      | len => exact ⟨_, w_OPERATIONS_13, _, _, FnOk.imp (P := l.prog) (w := w) (base := base) (ok_length F_length M) imp_un, F_length.kp, b_length⟩
    | bi o a b =>
      cases o with
      | add => exact ⟨_, w_OPERATIONS_1, _, _, FnOk.imp (P := l.prog) (w := w) (base := base) (ok_add F_add M BD ARE) imp_bi, F_add.kp, b_add⟩
      | sub => exact ⟨_, w_OPERATIONS_2, _, _, FnOk.imp (P := l.prog) (w := w) (base := base) (ok_sub F_subtract M BD ARE) imp_bi, F_subtract.kp, b_subtract⟩
      | mul => exact ⟨_, w_OPERATIONS_3, _, _, FnOk.imp (P := l.prog) (w := w) (base := base) (ok_mul F_multiply M BD ARE) imp_bi, F_multiply.kp, b_multiply⟩
      | div => exact ⟨_, w_OPERATIONS_4, _, _, FnOk.imp (P := l.prog) (w := w) (base := base) (ok_div F_divide M BD ARE) imp_bi, F_divide.kp, b_divide⟩
      | rem => exact ⟨_, w_OPERATIONS_5, _, _, FnOk.imp (P := l.prog) (w := w) (base := base) (ok_rem F_remainder M BD ARE) imp_bi, F_remainder.kp, b_remainder⟩
      | les => exact ⟨_, w_OPERATIONS_6, _, _, FnOk.imp (P := l.prog) (w := w) (base := base) (ok_less F_less M KEY) imp_bi, F_less.kp, b_less⟩
      | equ => exact ⟨_, w_OPERATIONS_7, _, _, FnOk.imp (P := l.prog) (w := w) (base := base) (ok_equal F_equal M KEY) imp_bi, F_equal.kp, b_equal⟩
      | and => exact ⟨_, w_OPERATIONS_8, _, _, FnOk.imp (P := l.prog) (w := w) (base := base) (ok_conj F_conjunction M IST ISF) imp_bi, F_conjunction.kp, b_conjunction⟩
      | or => exact ⟨_, w_OPERATIONS_9, _, _, FnOk.imp (P := l.prog) (w := w) (base := base) (ok_disj F_disjunction M IST ISF) imp_bi, F_disjunction.kp, b_disjunction⟩
      | sta => exact ⟨_, w_OPERATIONS_14, _, _, FnOk.imp (P := l.prog) (w := w) (base := base) (ok_starts F_starts M) imp_bi, F_starts.kp, b_starts⟩
    | ch c a b => exact ⟨_, w_OPERATIONS_12, _, _, FnOk.imp (P := l.prog) (w := w) (base := base) (ok_choose F_choose M IST) imp_ch, F_choose.kp, b_choose⟩
  have EV := cl_eval F_evaluate M OP (Nat.le_refl _) g_evaluate b_evaluate
  have N := FnOk.cl (P := l.prog) (w := w) (base := base) (ok_next F__law_next M) F__law_next g__law_next b__law_next
  have DR := FnOk.cl (P := l.prog) (w := w) (base := base) (ok_draw F__law_draw M) F__law_draw g__law_draw b__law_draw
  have SM := cl_same (P := l.prog) (w := w) (base := base) F__law_same M g__law_same b__law_same
  have CEL := FnOk.cl (ok_cell F__law_cell M N) F__law_cell g__law_cell b__law_cell
  have LKE := FnOk.cl (P := l.prog) (w := w) (base := base) (ok_lkey F__law_key M) F__law_key g__law_key b__law_key
  have KNO := FnOk.cl (P := l.prog) (w := w) (base := base) (ok_known F__law_known M) F__law_known g__law_known b__law_known
  have LBD := FnOk.cl (P := l.prog) (w := w) (base := base) (ok_lbnd F__law_bounded M) F__law_bounded g__law_bounded b__law_bounded
  have ARI := FnOk.cl (ok_arith F__law_arithmetic M LBD) F__law_arithmetic g__law_arithmetic b__law_arithmetic
  have LOG := FnOk.cl (ok_logic F__law_logic M KNO) F__law_logic g__law_logic b__law_logic
  have SIN := FnOk.cl (ok_single F__law_single M KNO ARI) F__law_single g__law_single b__law_single
  have DUE := cl_due F__law_due M g__law_due b__law_due KNO LKE ARI LOG SIN
  have LEX := cl_lexp F__law_expression M g__law_expression b__law_expression N CEL

  have XSU := FnOk.cl (ok_xsum F_exact_sum M BD) F_exact_sum g_exact_sum b_exact_sum
  have TOT := FnOk.cl (ok_total F_total M (EV 5) XSU KEY) F_total g_total b_total
  have LDI := FnOk.cl (P := l.prog) (w := w) (base := base) (ok_ldist F__law_distinct M) F__law_distinct g__law_distinct b__law_distinct
  have LTO := FnOk.cl (ok_ltotal F__law_total M (DUE 5) LDI LBD LKE) F__law_total g__law_total b__law_total
  exact ok_law F_law M DR N CEL (LEX 5) TOT LTO (SM 1)⟩
end Lw
open PySem PySem.W PyProof.Rows
set_option maxHeartbeats 0 in
theorem PySem.Challenge.cw_lineworks_k52_totals_of_rows_holds : PySem.Challenge.rw_lineworks_k52_totals_of_rows.Holds := by
  w_on; o_law; k_head; (case hw => w_witness2)
  k_fill
  refine L2.walk_of (l := PySem.Challenge.rw_lineworks_k52_totals_of_rows) (n := 63) (k := 10) (x := "script") (CX := fun _ => L2.CX0) (sp := fun w => Lw.sp_law _) rfl (by decide) rfl ⟨rfl, by decide, by decide⟩ (fun w h Y => PySem.W.kIn_of Y) ?F (fun _ _ a ns hl _ hS => ⟨a, ns, rfl, hS, hl, fun _ => rfl⟩) (fun _ _ _ _ _ h => h)
  case F =>
    intro w mg fa h KX G hmg
    refine' Lw.all_mk KX G hmg ?a0 ?l0 ?c0 ?k0 ?a1 ?l1 ?c1 ?k1 ?a2 ?l2 ?c2 ?k2 ?a3 ?l3 ?c3 ?k3 ?a4 ?l4 ?c4 ?k4 ?a5 ?l5 ?c5 ?k5 ?a6 ?l6 ?c6 ?k6 ?a7 ?l7 ?c7 ?k7 ?a8 ?l8 ?c8 ?k8 ?a9 ?l9 ?c9 ?k9 ?a10 ?l10 ?c10 ?k10 ?a11 ?l11 ?c11 ?k11 ?a12 ?l12 ?c12 ?k12 ?a13 ?l13 ?c13 ?k13 ?a14 ?l14 ?c14 ?k14 ?a15 ?l15 ?c15 ?k15 ?a16 ?l16 ?c16 ?k16 ?a17 ?l17 ?c17 ?k17 ?a18 ?l18 ?c18 ?k18 ?a19 ?l19 ?c19 ?k19 ?a20 ?l20 ?c20 ?k20 ?a21 ?l21 ?c21 ?k21 ?a22 ?l22 ?c22 ?k22 ?a23 ?l23 ?c23 ?k23 ?a24 ?l24 ?c24 ?k24 ?a25 ?l25 ?c25 ?k25 ?a26 ?l26 ?c26 ?k26 ?a27 ?l27 ?c27 ?k27 ?a28 ?l28 ?c28 ?k28 ?a29 ?l29 ?c29 ?k29 ?a30 ?l30 ?c30 ?k30 ?a31 ?l31 ?c31 ?k31 ?a32 ?l32 ?c32 ?k32 ?a33 ?l33 ?c33 ?k33 ?a34 ?l34 ?c34 ?k34 ?a35 ?l35 ?c35 ?k35 ?a36 ?l36 ?c36 ?k36 ?a37 ?l37 ?c37 ?k37 ?w_BOUND ?w_OPERATIONS ?v_OPERATIONS ?k_OPERATIONS ?lo_OPERATIONS ?w_OPERATIONS_0 ?w_OPERATIONS_1 ?w_OPERATIONS_2 ?w_OPERATIONS_3 ?w_OPERATIONS_4 ?w_OPERATIONS_5 ?w_OPERATIONS_6 ?w_OPERATIONS_7 ?w_OPERATIONS_8 ?w_OPERATIONS_9 ?w_OPERATIONS_10 ?w_OPERATIONS_11 ?w_OPERATIONS_12 ?w_OPERATIONS_13 ?w_OPERATIONS_14 ?z_abs ?z_all ?z_bool ?z_int ?z_isinstance ?z_len ?z_list ?z_max ?z_min ?z_range ?z_sorted ?z_str ?z_sum ?z_tuple
    (case a0 => k_is); (case l0 => k_is); (case c0 => k_is); (case k0 => k_is)
    (case a1 => k_is); (case l1 => k_is); (case c1 => k_is); (case k1 => k_is)
    (case a2 => k_is); (case l2 => k_is); (case c2 => k_is); (case k2 => k_is)
    (case a3 => k_is); (case l3 => k_is); (case c3 => k_is); (case k3 => k_is)
    (case a4 => k_is); (case l4 => k_is); (case c4 => k_is); (case k4 => k_is)
    (case a5 => k_is); (case l5 => k_is); (case c5 => k_is); (case k5 => k_is)
    (case a6 => k_is); (case l6 => k_is); (case c6 => k_is); (case k6 => k_is)
    (case a7 => k_is); (case l7 => k_is); (case c7 => k_is); (case k7 => k_is)
    (case a8 => k_is); (case l8 => k_is); (case c8 => k_is); (case k8 => k_is)
    (case a9 => k_is); (case l9 => k_is); (case c9 => k_is); (case k9 => k_is)
    (case a10 => k_is); (case l10 => k_is); (case c10 => k_is); (case k10 => k_is)
    (case a11 => k_is); (case l11 => k_is); (case c11 => k_is); (case k11 => k_is)
    (case a12 => k_is); (case l12 => k_is); (case c12 => k_is); (case k12 => k_is)
    (case a13 => k_is); (case l13 => k_is); (case c13 => k_is); (case k13 => k_is)
    (case a14 => k_is); (case l14 => k_is); (case c14 => k_is); (case k14 => k_is)
    (case a15 => k_is); (case l15 => k_is); (case c15 => k_is); (case k15 => k_is)
    (case a16 => k_is); (case l16 => k_is); (case c16 => k_is); (case k16 => k_is)
    (case a17 => k_is); (case l17 => k_is); (case c17 => k_is); (case k17 => k_is)
    (case a18 => k_is); (case l18 => k_is); (case c18 => k_is); (case k18 => k_is)
    (case a19 => k_is); (case l19 => k_is); (case c19 => k_is); (case k19 => k_is)
    (case a20 => k_is); (case l20 => k_is); (case c20 => k_is); (case k20 => k_is)
    (case a21 => k_is); (case l21 => k_is); (case c21 => k_is); (case k21 => k_is)
    (case a22 => k_is); (case l22 => k_is); (case c22 => k_is); (case k22 => k_is)
    (case a23 => k_is); (case l23 => k_is); (case c23 => k_is); (case k23 => k_is)
    (case a24 => k_is); (case l24 => k_is); (case c24 => k_is); (case k24 => k_is)
    (case a25 => k_is); (case l25 => k_is); (case c25 => k_is); (case k25 => k_is)
    (case a26 => k_is); (case l26 => k_is); (case c26 => k_is); (case k26 => k_is)
    (case a27 => k_is); (case l27 => k_is); (case c27 => k_is); (case k27 => k_is)
    (case a28 => k_is); (case l28 => k_is); (case c28 => k_is); (case k28 => k_is)
    (case a29 => k_is); (case l29 => k_is); (case c29 => k_is); (case k29 => k_is)
    (case a30 => k_is); (case l30 => k_is); (case c30 => k_is); (case k30 => k_is)
    (case a31 => k_is); (case l31 => k_is); (case c31 => k_is); (case k31 => k_is)
    (case a32 => k_is); (case l32 => k_is); (case c32 => k_is); (case k32 => k_is)
    (case a33 => k_is); (case l33 => k_is); (case c33 => k_is); (case k33 => k_is)
    (case a34 => k_is); (case l34 => k_is); (case c34 => k_is); (case k34 => k_is)
    (case a35 => k_is); (case l35 => k_is); (case c35 => k_is); (case k35 => k_is)
    (case a36 => k_is); (case l36 => k_is); (case c36 => k_is); (case k36 => k_is)
    (case a37 => k_is); (case l37 => k_is); (case c37 => k_is); (case k37 => k_is)
    (case w_BOUND => k_is)
    (case w_OPERATIONS => k_is)
    (case v_OPERATIONS => k_is)
    (case k_OPERATIONS => k_keys)
    (case lo_OPERATIONS => first | rfl | decide | decide +kernel)
    (case w_OPERATIONS_0 => k_is)
    (case w_OPERATIONS_1 => k_is)
    (case w_OPERATIONS_2 => k_is)
    (case w_OPERATIONS_3 => k_is)
    (case w_OPERATIONS_4 => k_is)
    (case w_OPERATIONS_5 => k_is)
    (case w_OPERATIONS_6 => k_is)
    (case w_OPERATIONS_7 => k_is)
    (case w_OPERATIONS_8 => k_is)
    (case w_OPERATIONS_9 => k_is)
    (case w_OPERATIONS_10 => k_is)
    (case w_OPERATIONS_11 => k_is)
    (case w_OPERATIONS_12 => k_is)
    (case w_OPERATIONS_13 => k_is)
    (case w_OPERATIONS_14 => k_is)
    (case z_abs => k_is); (case z_all => k_is); (case z_bool => k_is); (case z_int => k_is); (case z_isinstance => k_is); (case z_len => k_is); (case z_list => k_is); (case z_max => k_is); (case z_min => k_is); (case z_range => k_is); (case z_sorted => k_is); (case z_str => k_is); (case z_sum => k_is); (case z_tuple => k_is)

