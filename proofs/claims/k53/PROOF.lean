import PyProof.Rows.All
import Wide.All
import OpenK.AllK
import Wide.FinOn
import HandS.ForMost
import HandS.Wide
import HandS.IsInst
import HandS.Codes
import HandS.Flow
import HandS.More
import HandS.DictComp
import HandS.Star
import HandS.CallLocal
import HandS.SortKw
import HandS.Set
import HandS.SetBool
import HandS.SetKeys
import HandS.Deep
import HandS.Iter
import HandS.SortInts
import HandS.Sort
import HandS.TupAny
import HandS.Strs
import KE.LtSeq
import KE.LtData
import KE.KSortTup
import KE.DataCmp
import KE.KMinKey
import KE.DataMinKey
import KE.DataMinMax
import KE.KDictKeyed
import KE.KDictDisplayH
import KE.KPairComp
import KE.KTupTabMore
import HandS.DictTup
import HandS.TupLen
import HandS.TupMul
import PyProof.ReprRoads
import PyProof.ReprBulk
import PySem.Challenge.RW_lineworks_k53_rows_of_queries
set_option Elab.async false
set_option linter.all false
set_option maxRecDepth 100000
namespace Lw
open PySem PySem.Spec PyProof.Rows L2
def topS (i : Nat) : Stmt := PySem.Challenge.pw_lineworks_k53_rows_of_queries.main.body.getD i (.Pass ⟨0, 0, 0, 0⟩)
abbrev s_value_key : Stmt := topS 2
abbrev N_value_key : List Str := ["value"]
theorem sc_value_key : FnScope N_value_key ["value"] (defScope s_value_key) := ⟨rfl, rfl, rfl, by decide +kernel, rfl, by decide +kernel, by decide +kernel⟩
abbrev s_row_key : Stmt := topS 3
abbrev N_row_key : List Str := ["row", "value"]
theorem sc_row_key : FnScope N_row_key ["row"] (defScope s_row_key) := ⟨rfl, rfl, rfl, by decide +kernel, rfl, by decide +kernel, by decide +kernel⟩
abbrev s_is_true : Stmt := topS 4
abbrev N_is_true : List Str := ["value"]
theorem sc_is_true : FnScope N_is_true ["value"] (defScope s_is_true) := ⟨rfl, rfl, rfl, by decide +kernel, rfl, by decide +kernel, by decide +kernel⟩
abbrev s_is_false : Stmt := topS 5
abbrev N_is_false : List Str := ["value"]
theorem sc_is_false : FnScope N_is_false ["value"] (defScope s_is_false) := ⟨rfl, rfl, rfl, by decide +kernel, rfl, by decide +kernel, by decide +kernel⟩
abbrev s_bounded : Stmt := topS 6
abbrev N_bounded : List Str := ["number"]
theorem sc_bounded : FnScope N_bounded ["number"] (defScope s_bounded) := ⟨rfl, rfl, rfl, by decide +kernel, rfl, by decide +kernel, by decide +kernel⟩
abbrev s_are_integers : Stmt := topS 7
abbrev N_are_integers : List Str := ["first", "second"]
theorem sc_are_integers : FnScope N_are_integers ["first", "second"] (defScope s_are_integers) := ⟨rfl, rfl, rfl, by decide +kernel, rfl, by decide +kernel, by decide +kernel⟩
abbrev s_negate : Stmt := topS 8
abbrev N_negate : List Str := ["value"]
theorem sc_negate : FnScope N_negate ["value"] (defScope s_negate) := ⟨rfl, rfl, rfl, by decide +kernel, rfl, by decide +kernel, by decide +kernel⟩
abbrev s_add : Stmt := topS 9
abbrev N_add : List Str := ["first", "second"]
theorem sc_add : FnScope N_add ["first", "second"] (defScope s_add) := ⟨rfl, rfl, rfl, by decide +kernel, rfl, by decide +kernel, by decide +kernel⟩
abbrev s_subtract : Stmt := topS 10
abbrev N_subtract : List Str := ["first", "second"]
theorem sc_subtract : FnScope N_subtract ["first", "second"] (defScope s_subtract) := ⟨rfl, rfl, rfl, by decide +kernel, rfl, by decide +kernel, by decide +kernel⟩
abbrev s_multiply : Stmt := topS 11
abbrev N_multiply : List Str := ["first", "second"]
theorem sc_multiply : FnScope N_multiply ["first", "second"] (defScope s_multiply) := ⟨rfl, rfl, rfl, by decide +kernel, rfl, by decide +kernel, by decide +kernel⟩
abbrev s_divide : Stmt := topS 12
abbrev N_divide : List Str := ["first", "second"]
theorem sc_divide : FnScope N_divide ["first", "second"] (defScope s_divide) := ⟨rfl, rfl, rfl, by decide +kernel, rfl, by decide +kernel, by decide +kernel⟩
abbrev s_remainder : Stmt := topS 13
abbrev N_remainder : List Str := ["first", "second"]
theorem sc_remainder : FnScope N_remainder ["first", "second"] (defScope s_remainder) := ⟨rfl, rfl, rfl, by decide +kernel, rfl, by decide +kernel, by decide +kernel⟩
abbrev s_less : Stmt := topS 14
abbrev N_less : List Str := ["first", "second"]
theorem sc_less : FnScope N_less ["first", "second"] (defScope s_less) := ⟨rfl, rfl, rfl, by decide +kernel, rfl, by decide +kernel, by decide +kernel⟩
abbrev s_equal : Stmt := topS 15
abbrev N_equal : List Str := ["first", "second"]
theorem sc_equal : FnScope N_equal ["first", "second"] (defScope s_equal) := ⟨rfl, rfl, rfl, by decide +kernel, rfl, by decide +kernel, by decide +kernel⟩
abbrev s_conjunction : Stmt := topS 16
abbrev N_conjunction : List Str := ["first", "second"]
theorem sc_conjunction : FnScope N_conjunction ["first", "second"] (defScope s_conjunction) := ⟨rfl, rfl, rfl, by decide +kernel, rfl, by decide +kernel, by decide +kernel⟩
abbrev s_disjunction : Stmt := topS 17
abbrev N_disjunction : List Str := ["first", "second"]
theorem sc_disjunction : FnScope N_disjunction ["first", "second"] (defScope s_disjunction) := ⟨rfl, rfl, rfl, by decide +kernel, rfl, by decide +kernel, by decide +kernel⟩
abbrev s_negation : Stmt := topS 18
abbrev N_negation : List Str := ["value"]
theorem sc_negation : FnScope N_negation ["value"] (defScope s_negation) := ⟨rfl, rfl, rfl, by decide +kernel, rfl, by decide +kernel, by decide +kernel⟩
abbrev s_missing : Stmt := topS 19
abbrev N_missing : List Str := ["value"]
theorem sc_missing : FnScope N_missing ["value"] (defScope s_missing) := ⟨rfl, rfl, rfl, by decide +kernel, rfl, by decide +kernel, by decide +kernel⟩
abbrev s_choose : Stmt := topS 20
abbrev N_choose : List Str := ["condition", "first", "second"]
theorem sc_choose : FnScope N_choose ["condition", "first", "second"] (defScope s_choose) := ⟨rfl, rfl, rfl, by decide +kernel, rfl, by decide +kernel, by decide +kernel⟩
abbrev s_length : Stmt := topS 21
abbrev N_length : List Str := ["value"]
theorem sc_length : FnScope N_length ["value"] (defScope s_length) := ⟨rfl, rfl, rfl, by decide +kernel, rfl, by decide +kernel, by decide +kernel⟩
abbrev s_starts : Stmt := topS 22
abbrev N_starts : List Str := ["first", "second"]
theorem sc_starts : FnScope N_starts ["first", "second"] (defScope s_starts) := ⟨rfl, rfl, rfl, by decide +kernel, rfl, by decide +kernel, by decide +kernel⟩
abbrev s_evaluate : Stmt := topS 24
abbrev N_evaluate : List Str := ["expression", "row", "word", "operation", "operands", "part"]
theorem sc_evaluate : FnScope N_evaluate ["expression", "row"] (defScope s_evaluate) := ⟨rfl, rfl, rfl, by decide +kernel, rfl, by decide +kernel, by decide +kernel⟩
abbrev s_total : Stmt := topS 26
abbrev N_total : List Str := ["form", "rows", "word", "values", "known", "row", "value"]
theorem sc_total : FnScope N_total ["form", "rows"] (defScope s_total) := ⟨rfl, rfl, rfl, by decide +kernel, rfl, by decide +kernel, by decide +kernel⟩
abbrev s_exact_sum : Stmt := topS 27
abbrev N_exact_sum : List Str := ["values", "integers", "value"]
theorem sc_exact_sum : FnScope N_exact_sum ["values"] (defScope s_exact_sum) := ⟨rfl, rfl, rfl, by decide +kernel, rfl, by decide +kernel, by decide +kernel⟩
abbrev s_query_rows : Stmt := topS 29
abbrev N_query_rows : List Str := ["plan", "tables", "steps", "found", "operation"]
theorem sc_query_rows : FnScope N_query_rows ["plan", "tables", "steps"] (defScope s_query_rows) := ⟨rfl, rfl, rfl, by decide +kernel, rfl, by decide +kernel, by decide +kernel⟩
abbrev s_in_order : Stmt := topS 30
abbrev N_in_order : List Str := ["rows", "once", "row"]
theorem sc_in_order : FnScope N_in_order ["rows"] (defScope s_in_order) := ⟨rfl, rfl, rfl, by decide +kernel, rfl, by decide +kernel, by decide +kernel⟩
abbrev s_values_of : Stmt := topS 31
abbrev N_values_of : List Str := ["expressions", "row", "expression"]
theorem sc_values_of : FnScope N_values_of ["expressions", "row"] (defScope s_values_of) := ⟨rfl, rfl, rfl, by decide +kernel, rfl, by decide +kernel, by decide +kernel⟩
abbrev s_matches : Stmt := topS 32
abbrev N_matches : List Str := ["condition", "first", "second"]
theorem sc_matches : FnScope N_matches ["condition", "first", "second"] (defScope s_matches) := ⟨rfl, rfl, rfl, by decide +kernel, rfl, by decide +kernel, by decide +kernel⟩
abbrev s_matches_any : Stmt := topS 33
abbrev N_matches_any : List Str := ["condition", "first", "rows", "row"]
theorem sc_matches_any : FnScope N_matches_any ["condition", "first", "rows"] (defScope s_matches_any) := ⟨rfl, rfl, rfl, by decide +kernel, rfl, by decide +kernel, by decide +kernel⟩
abbrev s_filter_rows : Stmt := topS 34
abbrev N_filter_rows : List Str := ["operation", "found", "_", "condition", "operand", "row"]
theorem sc_filter_rows : FnScope N_filter_rows ["operation", "found"] (defScope s_filter_rows) := ⟨rfl, rfl, rfl, by decide +kernel, rfl, by decide +kernel, by decide +kernel⟩
abbrev s_map_rows : Stmt := topS 35
abbrev N_map_rows : List Str := ["operation", "found", "_", "expressions", "operand", "row"]
theorem sc_map_rows : FnScope N_map_rows ["operation", "found"] (defScope s_map_rows) := ⟨rfl, rfl, rfl, by decide +kernel, rfl, by decide +kernel, by decide +kernel⟩
abbrev s_join_rows : Stmt := topS 36
abbrev N_join_rows : List Str := ["operation", "found", "_", "condition", "first", "second", "one", "other"]
theorem sc_join_rows : FnScope N_join_rows ["operation", "found"] (defScope s_join_rows) := ⟨rfl, rfl, rfl, by decide +kernel, rfl, by decide +kernel, by decide +kernel⟩
abbrev s_union_rows : Stmt := topS 37
abbrev N_union_rows : List Str := ["operation", "found", "_", "first", "second"]
theorem sc_union_rows : FnScope N_union_rows ["operation", "found"] (defScope s_union_rows) := ⟨rfl, rfl, rfl, by decide +kernel, rfl, by decide +kernel, by decide +kernel⟩
abbrev s_minus_rows : Stmt := topS 38
abbrev N_minus_rows : List Str := ["operation", "found", "_", "first", "second", "others", "row"]
theorem sc_minus_rows : FnScope N_minus_rows ["operation", "found"] (defScope s_minus_rows) := ⟨rfl, rfl, rfl, by decide +kernel, rfl, by decide +kernel, by decide +kernel⟩
abbrev s_anti_rows : Stmt := topS 39
abbrev N_anti_rows : List Str := ["operation", "found", "_", "condition", "first", "second", "row"]
theorem sc_anti_rows : FnScope N_anti_rows ["operation", "found"] (defScope s_anti_rows) := ⟨rfl, rfl, rfl, by decide +kernel, rfl, by decide +kernel, by decide +kernel⟩
abbrev s_group_rows : Stmt := topS 40
abbrev N_group_rows : List Str := ["operation", "found", "_", "keys", "totals", "operand", "groups", "row", "key", "rows"]
theorem sc_group_rows : FnScope N_group_rows ["operation", "found"] (defScope s_group_rows) := ⟨rfl, rfl, rfl, by decide +kernel, rfl, by decide +kernel, by decide +kernel⟩
abbrev s_totals_of : Stmt := topS 41
abbrev N_totals_of : List Str := ["totals", "rows", "form"]
theorem sc_totals_of : FnScope N_totals_of ["totals", "rows"] (defScope s_totals_of) := ⟨rfl, rfl, rfl, by decide +kernel, rfl, by decide +kernel, by decide +kernel⟩
abbrev s_operation_rows : Stmt := topS 43
abbrev N_operation_rows : List Str := ["operation", "tables", "steps", "found", "word", "rows_of"]
theorem sc_operation_rows : FnScope N_operation_rows ["operation", "tables", "steps", "found"] (defScope s_operation_rows) := ⟨rfl, rfl, rfl, by decide +kernel, rfl, by decide +kernel, by decide +kernel⟩
abbrev s__law_draw : Stmt := topS 45
abbrev N__law_draw : List Str := ["script"]
theorem sc__law_draw : FnScope N__law_draw ["script"] (defScope s__law_draw) := ⟨rfl, rfl, rfl, by decide +kernel, rfl, by decide +kernel, by decide +kernel⟩
abbrev s__law_next : Stmt := topS 46
abbrev N__law_next : List Str := ["draw", "many", "found", "cell"]
theorem sc__law_next : FnScope N__law_next ["draw", "many"] (defScope s__law_next) := ⟨rfl, rfl, rfl, by decide +kernel, rfl, by decide +kernel, by decide +kernel⟩
abbrev s__law_same : Stmt := topS 47
abbrev N__law_same : List Str := ["actual", "due", "k"]
theorem sc__law_same : FnScope N__law_same ["actual", "due"] (defScope s__law_same) := ⟨rfl, rfl, rfl, by decide +kernel, rfl, by decide +kernel, by decide +kernel⟩
abbrev s__law_cell : Stmt := topS 48
abbrev N__law_cell : List Str := ["draw", "form"]
theorem sc__law_cell : FnScope N__law_cell ["draw"] (defScope s__law_cell) := ⟨rfl, rfl, rfl, by decide +kernel, rfl, by decide +kernel, by decide +kernel⟩
abbrev s__law_key : Stmt := topS 49
abbrev N__law_key : List Str := ["value"]
theorem sc__law_key : FnScope N__law_key ["value"] (defScope s__law_key) := ⟨rfl, rfl, rfl, by decide +kernel, rfl, by decide +kernel, by decide +kernel⟩
abbrev s__law_row_key : Stmt := topS 50
abbrev N__law_row_key : List Str := ["row", "value"]
theorem sc__law_row_key : FnScope N__law_row_key ["row"] (defScope s__law_row_key) := ⟨rfl, rfl, rfl, by decide +kernel, rfl, by decide +kernel, by decide +kernel⟩
abbrev s__law_distinct : Stmt := topS 51
abbrev N__law_distinct : List Str := ["rows", "found", "row"]
theorem sc__law_distinct : FnScope N__law_distinct ["rows"] (defScope s__law_distinct) := ⟨rfl, rfl, rfl, by decide +kernel, rfl, by decide +kernel, by decide +kernel⟩
abbrev s__law_ordered : Stmt := topS 52
abbrev N__law_ordered : List Str := ["rows"]
theorem sc__law_ordered : FnScope N__law_ordered ["rows"] (defScope s__law_ordered) := ⟨rfl, rfl, rfl, by decide +kernel, rfl, by decide +kernel, by decide +kernel⟩
abbrev s__law_expression : Stmt := topS 53
abbrev N__law_expression : List Str := ["draw", "width", "depth", "form", "word", "first", "second", "words"]
theorem sc__law_expression : FnScope N__law_expression ["draw", "width", "depth"] (defScope s__law_expression) := ⟨rfl, rfl, rfl, by decide +kernel, rfl, by decide +kernel, by decide +kernel⟩
abbrev s__law_known : Stmt := topS 54
abbrev N__law_known : List Str := ["value"]
theorem sc__law_known : FnScope N__law_known ["value"] (defScope s__law_known) := ⟨rfl, rfl, rfl, by decide +kernel, rfl, by decide +kernel, by decide +kernel⟩
abbrev s__law_bounded : Stmt := topS 55
abbrev N__law_bounded : List Str := ["number"]
theorem sc__law_bounded : FnScope N__law_bounded ["number"] (defScope s__law_bounded) := ⟨rfl, rfl, rfl, by decide +kernel, rfl, by decide +kernel, by decide +kernel⟩
abbrev s__law_arithmetic : Stmt := topS 56
abbrev N__law_arithmetic : List Str := ["word", "first", "second", "quotient"]
theorem sc__law_arithmetic : FnScope N__law_arithmetic ["word", "first", "second"] (defScope s__law_arithmetic) := ⟨rfl, rfl, rfl, by decide +kernel, rfl, by decide +kernel, by decide +kernel⟩
abbrev s__law_logic : Stmt := topS 57
abbrev N__law_logic : List Str := ["word", "first", "second", "deciding", "one", "two"]
theorem sc__law_logic : FnScope N__law_logic ["word", "first", "second"] (defScope s__law_logic) := ⟨rfl, rfl, rfl, by decide +kernel, rfl, by decide +kernel, by decide +kernel⟩
abbrev s__law_single : Stmt := topS 58
abbrev N__law_single : List Str := ["word", "value"]
theorem sc__law_single : FnScope N__law_single ["word", "value"] (defScope s__law_single) := ⟨rfl, rfl, rfl, by decide +kernel, rfl, by decide +kernel, by decide +kernel⟩
abbrev s__law_due : Stmt := topS 59
abbrev N__law_due : List Str := ["tree", "row", "word", "first", "second"]
theorem sc__law_due : FnScope N__law_due ["tree", "row"] (defScope s__law_due) := ⟨rfl, rfl, rfl, by decide +kernel, rfl, by decide +kernel, by decide +kernel⟩
abbrev s__law_holds : Stmt := topS 60
abbrev N__law_holds : List Str := ["tree", "row"]
theorem sc__law_holds : FnScope N__law_holds ["tree", "row"] (defScope s__law_holds) := ⟨rfl, rfl, rfl, by decide +kernel, rfl, by decide +kernel, by decide +kernel⟩
abbrev s__law_total : Stmt := topS 61
abbrev N__law_total : List Str := ["form", "rows", "values", "numbers", "ordered", "row", "value"]
theorem sc__law_total : FnScope N__law_total ["form", "rows"] (defScope s__law_total) := ⟨rfl, rfl, rfl, by decide +kernel, rfl, by decide +kernel, by decide +kernel⟩
abbrev s__law_form : Stmt := topS 62
abbrev N__law_form : List Str := ["draw", "width", "word"]
theorem sc__law_form : FnScope N__law_form ["draw", "width"] (defScope s__law_form) := ⟨rfl, rfl, rfl, by decide +kernel, rfl, by decide +kernel, by decide +kernel⟩
abbrev s__law_operation : Stmt := topS 63
abbrev N__law_operation : List Str := ["draw", "sizes", "widths", "steps", "form", "many", "index", "q", "r", "parts", "keys", "totals", "like", "word", "k"]
theorem sc__law_operation : FnScope N__law_operation ["draw", "sizes", "widths", "steps"] (defScope s__law_operation) := ⟨rfl, rfl, rfl, by decide +kernel, rfl, by decide +kernel, by decide +kernel⟩
abbrev s__law_room : Stmt := topS 64
abbrev N__law_room : List Str := ["operation", "rooms", "word", "many", "found", "form"]
theorem sc__law_room : FnScope N__law_room ["operation", "rooms"] (defScope s__law_room) := ⟨rfl, rfl, rfl, by decide +kernel, rfl, by decide +kernel, by decide +kernel⟩
abbrev s__law_plan : Stmt := topS 65
abbrev N__law_plan : List Str := ["draw", "widths", "steps", "most", "plan", "sizes", "rooms", "many", "k", "operation", "size"]
theorem sc__law_plan : FnScope N__law_plan ["draw", "widths", "steps", "most"] (defScope s__law_plan) := ⟨rfl, rfl, rfl, by decide +kernel, rfl, by decide +kernel, by decide +kernel⟩
abbrev s__law_grouped : Stmt := topS 66
abbrev N__law_grouped : List Str := ["operation", "rows", "told", "keys", "shown", "key", "members", "row", "k", "tree", "form"]
theorem sc__law_grouped : FnScope N__law_grouped ["operation", "rows"] (defScope s__law_grouped) := ⟨rfl, rfl, rfl, by decide +kernel, rfl, by decide +kernel, by decide +kernel⟩
abbrev s__law_joined : Stmt := topS 67
abbrev N__law_joined : List Str := ["operation", "rows", "others", "shown", "row", "partners", "other"]
theorem sc__law_joined : FnScope N__law_joined ["operation", "rows", "others"] (defScope s__law_joined) := ⟨rfl, rfl, rfl, by decide +kernel, rfl, by decide +kernel, by decide +kernel⟩
abbrev s__law_operation_rows : Stmt := topS 68
abbrev N__law_operation_rows : List Str := ["operation", "done", "tables", "steps", "word", "rows", "row", "tree"]
theorem sc__law_operation_rows : FnScope N__law_operation_rows ["operation", "done", "tables", "steps"] (defScope s__law_operation_rows) := ⟨rfl, rfl, rfl, by decide +kernel, rfl, by decide +kernel, by decide +kernel⟩
abbrev s__law_plan_rows : Stmt := topS 69
abbrev N__law_plan_rows : List Str := ["plan", "tables", "steps", "done", "operation"]
theorem sc__law_plan_rows : FnScope N__law_plan_rows ["plan", "tables", "steps"] (defScope s__law_plan_rows) := ⟨rfl, rfl, rfl, by decide +kernel, rfl, by decide +kernel, by decide +kernel⟩
abbrev s__law_rows : Stmt := topS 70
abbrev N__law_rows : List Str := ["draw", "width", "most", "k", "j"]
theorem sc__law_rows : FnScope N__law_rows ["draw", "width", "most"] (defScope s__law_rows) := ⟨rfl, rfl, rfl, by decide +kernel, rfl, by decide +kernel, by decide +kernel⟩
abbrev s_law : Stmt := topS 71
abbrev N_law : List Str := ["script", "draw", "widths", "steps", "tables", "given", "plan", "kept", "found", "due", "k", "width", "rows"]
theorem sc_law : FnScope N_law ["script"] (defScope s_law) := ⟨rfl, rfl, rfl, by decide +kernel, rfl, by decide +kernel, by decide +kernel⟩
/-! ### heaps and calls -/
theorem same_upd {H : Hp} {p : Addr} {o : HO} (h : H p = none) : Same H (upd H p o) := fun b x e => by
  rw [upd_ne (ne_of_none e h)]
  exact e
/-- what stood stands, but for the object at d -/
def Fd (d : Addr) (H H' : Hp) : Prop := ∀ b o, b ≠ d → H b = some o → H' b = some o
theorem Fd.refl (d : Addr) (H : Hp) : Fd d H H := fun _ _ _ e => e
theorem Fd.trans {d : Addr} {H H1 H2 : Hp} (a : Fd d H H1) (b : Fd d H1 H2) : Fd d H H2 := fun c o n e => b c o n (a c o n e)
theorem Fd.of {d : Addr} {H H' : Hp} (a : Same H H') : Fd d H H' := fun b o _ e => a b o e
theorem Fd.new {d : Addr} {H : Hp} {p : Addr} {o : HO} (h : H p = none) : Fd d H (upd H p o) := Fd.of (same_upd h)
theorem Fd.at {d : Addr} {H : Hp} {o : HO} : Fd d H (upd H d o) := fun b x n e => by
  rw [upd_ne n]
  exact e
/-- a def that may be called by its name -/
structure Cl (P : Program) (w : World) (K : PySem.W.Frag) (mg : Str → Option Value) (base : Heap) (k : Nat) (x : Str) (sp : Sp) : Prop where
  ex : ∃ (f : Addr) (fd : FuncData) (ps : List Str), FnOk P w K mg base CX0 k f fd ps sp ∧ mg x = some (.ref f) ∧ PySem.W.keepIn K (.ref f) = true ∧ Binds K fd ps []
section
variable {X : Cx} {k j : Nat} {x : Str} {sp : Sp} {p pos : Pos} {e : Expr} {es : List Expr} {t : TA}
theorem pe_u (c : Cl X.prog X.w X.K X.mg X.base k x sp) (hr : Room j X.A) (hk : k ≤ j) (hg : Gl X x) (ha : PA X (e :: es) t)
    (hdb : (x == ("__debug__" : Str)) = false := by decide) (he : starEach (e :: es) X.env = (false, eval e X.env) :: starEach es X.env := by rfl) (hpl : (backTo pos (starEach es X.env)).any (·.1) = false := by rfl) :
    PE X (.Call (.Name x p) (e :: es) [] pos) (tCall sp [] E0 t) := by
  obtain ⟨f, fd, ps, F, hm, kp, b⟩ := c.ex
  exact pe_call F (hr.mono hk) hg hm kp b .nil pass0 ha hdb he hpl
theorem pe_u0 (c : Cl X.prog X.w X.K X.mg X.base k x sp) (hr : Room j X.A) (hk : k ≤ j) (hg : Gl X x) (hdb : (x == ("__debug__" : Str)) = false := by decide) : PE X (.Call (.Name x p) [] [] pos) (tCall sp [] E0 tNil) := by
  obtain ⟨f, fd, ps, F, hm, kp, b⟩ := c.ex
  exact pe_call0 F (hr.mono hk) hg hm kp b .nil pass0 hdb
end
theorem FnOk.cl {P : Program} {w : World} {K : PySem.W.Frag} {mg : Str → Option Value} {base : Heap} {k : Nat} {x q : Str} {st : Stmt} {f : Addr} {fd : FuncData} {ps : List Str} {sp : Sp} (h : FnOk P w K mg base CX0 k f fd ps sp) (F : Fun K x q st f fd) (g : mg x = some (.ref f)) (b : Binds K fd ps []) : Cl P w K mg base k x sp := ⟨f, fd, ps, h, g, F.kp, b⟩
/-! ### rules with the written part named (within a comprehension) -/
section
variable {X : Cx} (K : PySem.W.Frag)
theorem ix_listK (h : X.K = K := by rfl) : IxR X (rIxL K) := by subst h; exact ix_list
theorem ix_tupK (h : X.K = K := by rfl) : IxR X (rIxT K) := by subst h; exact ix_tup
theorem ix_seqK (h : X.K = K := by rfl) : IxR X (rIx K) := by subst h; exact ix_seq
theorem len_seqK (h : X.K = K := by rfl) : CallR X (.builtin "len") (fun xs H Q => ∃ p ys, xs = [.ref p] ∧ (SqL K H p ys ∨ SqT K H p ys) ∧ Q (.int ys.length) H) := by subst h; exact call_len_seq
theorem isiK (h : X.K = K := by rfl) : CallR X (.builtin "isinstance") (rIsi K) := by subst h; exact call_isi
theorem isiTK (h : X.K = K := by rfl) : CallR X (.builtin "isinstance") (rIsiT K) := by subst h; exact call_isiT
theorem allK (hc : X.calm = true) (h : X.K = K := by rfl) : CallR X (.builtin "all") (rAll K) := by subst h; exact cr_all hc
theorem listK (h : X.K = K := by rfl) : CallR X (.type "list") (fun xs H Q => ∃ p ys, xs = [.ref p] ∧ (SqL K H p ys ∨ SqT K H p ys) ∧ ∀ l, H l = none → Q (.ref l) (upd H l (.lst ys))) := by subst h; exact call_list_of
theorem tupleK (h : X.K = K := by rfl) : CallR X (.type "tuple") (fun xs H Q => ∃ p ys, xs = [.ref p] ∧ ((SqL K H p ys ∧ ∀ l, H l = none → Q (.ref l) (upd H l (.tup ys))) ∨ (SqT K H p ys ∧ Q (.ref p) H))) := by subst h; exact call_tuple_of
theorem inK (h : X.K = K := by rfl) : OpR X (compareOp .In) (rIn K false) := by subst h; exact op_in_seq
theorem notInK (h : X.K = K := by rfl) : OpR X (compareOp .NotIn) (rIn K true) := by subst h; exact op_notIn_seq
theorem pe_bmK {T : String} {name : Str} {id : String} {r : V → List V → Hp → VK → Prop} {o e : Expr} {es : List Expr} {to : TE} {t : TA} {apos cpos : Pos} (pa : PlainAttrs T) (slot : Slot T name id) (hty : typeOf (.builtin id) = pure (.type "method_descriptor")) (hm : MtR X id r) (ho : PE X o to) (ha : PA X (e :: es) t) (hK : X.K = K := by rfl)
    (hbase : attributeBase o name X.env (eval o X.env) = eval o X.env := by rfl)
    (hfew : ((backTo cpos (starEach (e :: es) X.env)).all (fun x => !x.1) && (backToKw cpos (keywordEach [] X.env)).all (fun x => x.1.isSome)
      && decide ((e :: es).length + ([] : List Keyword).length + (if ([] : List Keyword).isEmpty then 0 else 1) < 30)) = true := by rfl)
    (hline : (apos.endLine == cpos.line) = true := by rfl) (hs : starEach (e :: es) X.env = (false, eval e X.env) :: starEach es X.env := by rfl) (hplain : (backTo cpos (starEach es X.env)).any (·.1) = false := by rfl) :
    PE X (.Call (.Attribute o name apos) (e :: es) [] cpos) (tBM K T r to t) := by subst hK; exact pe_bm pa slot hty hm ho ha hbase hfew hline hs hplain
theorem pt_truthK {a : Expr} {ta : TE} (ha : PE X a ta) (he : ∀ whole, isTrue a X.env whole = (do let v ← whole; standAt a.pos; holding [v] (truthy v))) (h : X.K = K := by rfl) : PT X a (fun σ H Q => ta σ H fun x H' => ∃ k, TruV K x H' k ∧ Q k H') := by subst h; exact pt_truth ha he
theorem eqDK (hu : X.A.units + 64 < cLine) (h : X.K = K := by rfl) : OpR X (compareOp .Eq) (rEqD K) := by subst h; exact op_eqD hu
theorem neDK (hu : X.A.units + 64 < cLine) (h : X.K = K := by rfl) : OpR X (compareOp .NotEq) (rNeD K) := by subst h; exact op_neD hu
end
/-- over the signs of a text -/
theorem for_strs {x : Str} {g : TG} {tb : TS} {D : Ends} {σ : L2.St} {H : Hp} (Pv : Nat → L2.St → Hp → Prop) (h0 : Pv 0 σ H)
    (hs : ∀ i c σ H, x.cps.toList[i]? = some c → Pv i σ H → g (.str ⟨#[c]⟩) σ H fun σ2 H2 => tb { D with nx := Pv (i + 1), ct := Pv (i + 1), bk := D.nx } σ2 H2) (hd : ∀ σ H, Pv x.cps.toList.length σ H → D.nx σ H) :
    ∃ W : Nat → Nat → L2.St → Hp → Prop, (∃ m, W 0 m σ H) ∧ ∀ i m σ H, W i m σ H →
      ((Its x).stop i H ∧ D.nx σ H) ∨ ((Its x).go i H ∧ ∃ N : L2.St → Hp → Prop, (∀ σ' H', N σ' H' → ∃ m', m' < m ∧ W (i + 1) m' σ' H') ∧ ∀ v H', (Its x).yld i H v H' → g v σ H' fun σ2 H2 => tb { D with nx := N, ct := N, bk := D.nx } σ2 H2) := by
  have es : x.cps.toList.length = x.cps.size := by simp
  refine ⟨fun i m σ H => m = x.cps.size - i ∧ i ≤ x.cps.size ∧ Pv i σ H, ⟨x.cps.size, by simp, Nat.zero_le _, h0⟩, ?_⟩
  rintro i m σ H ⟨rfl, hi, p⟩
  by_cases hlt : i < x.cps.size
  · refine .inr ⟨hlt, Pv (i + 1), fun σ' H' p' => ⟨x.cps.size - (i + 1), by omega, rfl, hlt, p'⟩, fun v H' y => ?_⟩
    obtain ⟨e, c, hc, rfl⟩ := y
    subst e
    exact hs i c σ _ (by rw [Array.getElem?_toList]; exact hc) p
  · have e : i = x.cps.size := by omega
    subst e
    exact .inl ⟨Nat.le_refl _, hd σ H (by rw [es]; exact p)⟩
theorem joinL0 : ∀ ps : List (List Nat), TL.joinL [] ps = ps.flatten
  | [] => rfl
  | [p] => by
    show p = p ++ []
    rw [List.append_nil]
  | p :: q :: r => by
    show p ++ ([] ++ TL.joinL [] (q :: r)) = p ++ (q :: r).flatten
    rw [joinL0 (q :: r), List.nil_append]
theorem join0 (ys : List Str) : Txt.join ⟨#[]⟩ ys = ⟨((ys.map TL.tl).flatten).toArray⟩ := by
  refine TL.ext_tl ?_
  rw [TL.join_eq, TL.tl_join]
  show TL.joinL [] _ = _
  rw [joinL0]
theorem flat_len : ∀ ys : List Str, ((ys.map TL.tl).flatten).length = (ys.map (·.length)).sum
  | [] => rfl
  | y :: ys => by
    rw [List.map_cons, List.flatten_cons, List.length_append, flat_len ys, List.map_cons, List.sum_cons]
    show y.cps.toList.length + _ = _
    rw [Array.length_toList]
    rfl
theorem S_len' (l : List Nat) : (⟨l.toArray⟩ : Str).length = l.length := by simp [Str.length]
theorem cut_to (l : List Nat) {o : Nat} (h : o ≤ l.length) : cutS ⟨l.toArray⟩ none (some (o : Int)) = ⟨(l.take o).toArray⟩ := by
  unfold cutS
  rw [HT.sIx_none, HT.sIx_nat, S_len', Nat.sub_zero, Nat.min_eq_left h]
  show (⟨((l.drop 0).take o).toArray⟩ : Str) = _
  rw [List.drop_zero]
theorem str1 (c : Nat) (d : Nat) : decide (V.str ⟨#[c]⟩ = V.str ⟨#[d]⟩) = decide (c = d) := by
  by_cases h : c = d
  · subst h
    rw [decide_eq_true rfl, decide_eq_true rfl]
  · rw [decide_eq_false h, decide_eq_false]
    intro e
    have e1 := V.str.inj e
    have e2 := Array.toList_inj.mpr (Str.mk.inj e1)
    exact h (by simpa using e2)
def tx (l : List Nat) : V := .str ⟨l.toArray⟩
/-- a comprehension's scope within another scope -/
def relS (scope sc : Scope) : Scope := { scope with names := scope.names.map fun (n, k) => if (k == .free && sc.kind == .function && sc.names.lookup n == some .cell) then (n, .cell) else (n, k) }
theorem anyK {X : Cx} (K : PySem.W.Frag) (hc : X.calm = true) (h : X.K = K := by rfl) : CallR X (.builtin "any") (rAny K) := by subst h; exact cr_any hc
theorem pi_listK {X : Cx} (K : PySem.W.Frag) {l tg : Expr} {tl : TE} (hl : PE X l tl) (h : X.K = K := by rfl) : PI X tg l (iList K tl) := by subst h; exact pi_list hl
theorem pi_tupK {X : Cx} (K : PySem.W.Frag) {l tg : Expr} {tl : TE} (hl : PE X l tl) (h : X.K = K := by rfl) : PI X tg l (iTup K tl) := by subst h; exact pi_tup hl

/-! ### the law called by its caller, around which nothing is being shown: for repr -/
def CallerOk (P : Program) (w : World) (K : PySem.W.Frag) (mg : Str → Option Value) (base : Heap) (f : Addr) (fd : FuncData) (p : Str) (sp : Sp) : Prop :=
  ∀ (s : Shared) (H : Hp) (u : Value) (v : V) (Q : VK), Env0 P w K mg base callerA [] s H → BindsTo s fd ⟨[u], []⟩ [(p, u)] → RelV v u → sp [v] H Q E0 → codeAny (model P w) callerA (.call (.ref f) ⟨[u], []⟩) (CR CX0 [] P w H s Q E0) s
theorem callG {P : Program} {w : World} {K : PySem.W.Frag} {mg mb : Str → Option Value} {f a : Addr} {fd : FuncData} {p : Str} {sp : Sp} {s : Shared} {us : List Value} {ns : List Int} (kin : K.In s.heap) (ng : s.heap.Ns mainGlobals mg) (nb : s.heap.Ns builtinsNs mb) (eb : ∀ y : Str, y ≠ "__name__" → mb y = bootBuiltins y)
    (nl : s.heap.NoLimit) (gn : s.gens = #[]) (oa : s.heap.get? a = some { cls := .type "list", data := .seq us.toArray }) (ui : IntsAre us ns) (ln : ns.length ≤ sizeLine) (F : ∀ base : Heap, K.In base → base.Ns mainGlobals mg → CallerOk P w K mg base f fd p sp) (bd : ∀ (s : Shared) (u : Value), BindsTo s fd ⟨[u], []⟩ [(p, u)])
    (go : ∀ H : Hp, SqL K H a (ns.map V.int) → sp [.ref a] H (fun v _ => v = .bl true) E0) : codeAny (model P w) callerA (.call (.ref f) ⟨[.ref a], []⟩) (fun r z => r = .ok (.ret (.bool true)) ∧ OldK s.heap z.heap ∧ z.os = s.os ∧ AllBare z.gens) s := by
  have vu := vals_ints ui
  have lu := ui.length
  -- the script is told unless it is one of the module's own objects
  let fz : HO := .frz { cls := .type "list", data := .seq us.toArray } (.lst (ns.map V.int))
  let G : Hp := fun b => if b = a ∧ K.lookup a = none then some fz else none
  have gi : ∀ {b : Addr} {u : HO}, G b = some u → b = a ∧ K.lookup a = none ∧ u = fz := fun {b u} h => by
    by_cases c : b = a ∧ K.lookup a = none
    · have h' := (if_pos c).symm.trans h
      exact ⟨c.1, c.2, (Option.some.inj h').symm⟩
    · have h' := (if_neg c).symm.trans h
      cases h'
  have gn0 : ∀ {b : Addr}, (b = a → K.lookup a ≠ none) → G b = none := fun {b} h => if_neg fun c => h c.1 c.2
  have seq : SqL K G a (ns.map V.int) := by
    by_cases c : K.lookup a = none
    · exact .inl (.inr ⟨_, if_pos ⟨rfl, c⟩⟩)
    · obtain ⟨o, ho⟩ := Option.ne_none_iff_exists'.mp c
      have e := (kin a o ho).symm.trans oa
      cases e
      exact .inr ⟨_, us.toArray, _, ho, rfl, rfl, rfl, by rw [List.size_toArray, lu]; exact ln, by simpa using vu⟩
  have hok : HOk P w G s.heap := fun b u h => by
    obtain ⟨rfl, _, rfl⟩ := gi h
    exact ⟨oa, by rw [List.length_map]; exact ln, us, _, vu, oa⟩
  -- no dict is the script
  have dn : ∀ {b : Addr} {o : Obj} {es : Array DictEntry} {k : Nat}, s.heap.get? b = some o → o.data = .dict es k → G b = none := fun {b o es k} e d => gn0 fun z => by
    subst z
    have e' := e.symm.trans oa
    cases e'
    cases d
  have ns' : ∀ {b : Addr} {m : Str → Option Value}, s.heap.Ns b m → (hidT s.heap G).Ns b m := fun ⟨o, es, k, e, d, r⟩ => ⟨o, es, k, hidT_get e (dn e d), d, r⟩
  have kin' : K.In (hidT s.heap G) := fun b o e => hidT_get (kin b o e) (gn0 fun z => by subst z; rw [e]; exact fun q => nomatch q)
  have md : Mod K mg (hidT s.heap G) := ⟨kin', ns' ng, ⟨mb, ns' nb, eb⟩, nl.elim fun mc h => ⟨mc, ns' h.1, h.2⟩⟩
  have e0 : Env0 P w K mg (hidT s.heap G) callerA [] s G := ⟨rfl, md, fun b o e => of_hidT e, Nat.le_of_eq (hidT_size _ _), trivial, fun b hb => (List.not_mem_nil hb).elim, hok, .of_eq gn⟩
  refine codeAny_mono (F _ kin' (ns' ng) s G (.ref a) (.ref a) _ e0 (bd s (.ref a)) rfl (go G seq)) fun r z h => ?_
  match r, h with
  | .error _, h => exact False.elim h
  | .ok .next, h => exact False.elim h
  | .ok .brk, h => exact False.elim h
  | .ok .cont, h => exact False.elim h
  | .ok (.ret u), h =>
    obtain ⟨v, H', os, br, un, ok', rv, q⟩ := h
    cases (show v = .bl true from q)
    cases (show u = Value.bool true from rv)
    refine ⟨rfl, OldK.of_keep fun b o e => ?_, os, br⟩
    cases gb : G b with
    | none => exact un.keep b o e gb (fun z => (List.not_mem_nil z).elim) (by simp)
    | some y =>
      obtain ⟨_, _, rfl⟩ := gi gb
      have k1 := (hok b _ gb).1
      have k2 := (ok' b _ (un.frzs b _ _ gb)).1
      cases e.symm.trans k1
      exact k2
theorem walk_ofG {l : PySem.W.OpenLaw} {n : Nat} {q : Program} {loose : List Str} {XP : (Str → Option Value) → Heap → Prop} {YP : World → Heap → Prop} {d : DefRec} {K : Params → PySem.W.Frag} {sp : World → Sp} {p : Str} (hn : l.most = some n) (hn2 : n ≤ sizeLine) (hdf : d.params.defaults = [])
    (hY : ∀ (w : World) (h : Heap), YP w h → (K w.params).In h) (F : ∀ (w : World) (mg : Str → Option Value) (f : Addr) (h : Heap), (K w.params).In h → h.Ns mainGlobals mg → mg d.name = some (.ref f) → ∃ fd : FuncData, (∀ (s : Shared) (u : Value), BindsTo s fd ⟨[u], []⟩ [(p, u)]) ∧
      ∀ base : Heap, (K w.params).In base → base.Ns mainGlobals mg → CallerOk l.prog w (K w.params) mg base f fd p (sp w))
    (go : ∀ (w : World) (H : Hp) (a : Addr) (ns : List Int), ns.length ≤ n → SqL (K w.params) H a (ns.map V.int) → sp w [.ref a] H (fun v _ => v = .bl true) E0) : PySem.W.WalkO q loose XP YP l.row.toRowW d [] (fun f vs => PySem.call f vs) := by
  refine Att.attach_call hn hdf fun w s₀ s₁ mg mb fa o pm cd doc a vs ns G Y _ _ _ hm ob ui ln gn => ?_
  have kin := hY w _ Y
  obtain ⟨fd, bd, hF⟩ := F w mg fa _ kin G.T.g hm
  exact callG kin G.T.g G.T.b G.T.builtins G.T.nolimit gn ob ui (Nat.le_trans ln hn2) hF bd fun H hS => go w H a ns ln hS
section
variable {P : Program} {w : World} {K : PySem.W.Frag} {mg : Str → Option Value} {base : Heap}
/-- a def of one parameter by its body, called by the law's caller -/
theorem okG_of {x qual : Str} {st : Stmt} {f : Addr} {fd : FuncData} {N : List Str} {p : Str} {k : Nat} {sp : Sp} (F : Fun K x qual st f fd) (S : FnScope N [p] (defScope st)) (hr : Room (k + 1) callerA)
    (walk : ∀ (cdv : Value) (s : Shared) (H : Hp) (v : V) (Q : VK), Room k (callerA.deeper (envOfC qual (defScope st) s.heap.objs.size f cdv)) → sp [v] H Q E0 →
      ∃ t, PSs (cxOf CX0 P w K mg base N qual (defScope st) f cdv callerA [] s H E0).nox (defBody st) t ∧ t { nx := fun _ H' => Q .non H', rt := Q } (start N [v]) H) : CallerOk P w K mg base f fd p sp := by
  obtain ⟨oc, od, kV, doc, pm, an, cdv, ct, osl, rfl, lk, hcd⟩ := F.ex
  intro s H u v Q e0 bd rv ask
  have grow : ∀ (b : Addr) (o : Obj), base.get? b = some o → s.heap.get? b = some o := fun b o e => (e0.bs b o e).1
  have kin : K.In s.heap := e0.mod.kin.keeps grow
  have slot : ∀ y ∈ [(p, u)], (defScope st).names.lookup y.1 = some .local ∨ ((defScope st).names.lookup y.1 = some .cell ∧ ((cellsFrom (s.heap.objs.size + 1) (defScope st).names []).lookup y.1).isSome = true) := fun y hy => by
    cases List.mem_singleton.mp hy
    exact (S.par p List.mem_cons_self).imp id fun q => ⟨q, PySem.W.cellsFrom_some _ _ _ (.inl q)⟩
  refine codeAny_call_function hr.depth (kin _ _ lk) rfl S.co S.gen rfl (PySem.W.codeRec_of kin hcd) (bd _ _ _ _ ?_)
  refine wpAny_newFunctionEnv_cells S.kind slot fun env he s1 new => ?_
  subst he
  refine ⟨(e0.mod.nolimit.keeps grow).keeps new.toInCall.keep, codeAny_func ?_⟩
  obtain ⟨t, ht, red⟩ := walk cdv s H v Q (hr.deeper _) ask
  have I := inv_start (E := E0) (CX := CX0) S hr.hd e0 (rfl : [v].length = [p].length) (.cons rv .nil) new
  refine wpAny_mono (ht.nox.run [] s1 (start N [v]) H _ I red) (fun fl z hz => ?_) fun _ _ hz => hz
  match fl, hz with
  | .ret _, ⟨y, _, H', J, ry, qy⟩ => exact ⟨y, H', J.os, J.bare, J.base, J.hok, ry, qy⟩
  | .next, ⟨_, H', J, qy⟩ => exact ⟨V.non, H', J.os, J.bare, J.base, J.hok, rfl, qy⟩
  | .brk, ⟨_, _, _, qy⟩ => exact False.elim qy
  | .cont, ⟨_, _, _, qy⟩ => exact False.elim qy
end
/-! ### repr of data -/
def rRepr (K : PySem.W.Frag) : List V → Hp → VK → Prop := fun xs H Q => ∃ (a : Addr) (d : PyData), xs = [.ref a] ∧ Dp K H (.ref a) d ∧ d.showable = true ∧ d.hasDict = false ∧ d.depth ≤ 50 ∧ d.shown.length ≤ sizeLine ∧ Q (.str d.shown) H
theorem reprK {X : Cx} (K : PySem.W.Frag) (hg : X.A.guards = some []) (hu : X.A.units + 64 < cLine) (h : X.K = K := by rfl) : CallR X (.builtin "repr") (rRepr K) := by
  subst h
  intro pins s σ H xs us Q I r ask
  obtain ⟨a, d, rfl, dp, sh, nd, dd, ln, q⟩ := ask
  obtain ⟨u, rfl, rx⟩ := vals1 r
  obtain ⟨as, rd⟩ := Dp.reads I _ _ u dp rx
  cases (show u = Value.ref a from rx)
  refine repr_of_reads' rd sh (fun z => by rw [nd] at z; cases z) hg (by omega) (fun _ _ e => e) (fun _ u _ kp => ⟨.str d.shown, H, I.kept kp, ⟨u, rfl⟩, q⟩) ln

structure Mg (mg : Str → Option Value) : Prop where
  abs : mg "abs" = none
  all : mg "all" = none
  bool : mg "bool" = none
  int : mg "int" = none
  isinstance : mg "isinstance" = none
  len : mg "len" = none
  list : mg "list" = none
  max : mg "max" = none
  min : mg "min" = none
  range : mg "range" = none
  repr : mg "repr" = none
  sorted : mg "sorted" = none
  str : mg "str" = none
  sum : mg "sum" = none
  tuple : mg "tuple" = none
/-! ### the law's draws: a list of the script's copy, a place in it, what is left of a great number, a seed -/
def Dr (H : Hp) (d c : Addr) : Prop := c ≠ d ∧ ∃ (ns : List Int) (pos rest seed : Int), H d = some (.lst [.ref c, .int pos, .int rest, .int seed]) ∧ H c = some (.lst (ns.map V.int)) ∧ 0 ≤ pos ∧ 0 ≤ rest ∧ 0 ≤ seed ∧ seed < 2147483647
theorem Dr.ext {H H' : Hp} {d c : Addr} (h : Dr H d c) (e : Same H H') : Dr H' d c := by
  obtain ⟨n, ns, pos, rest, seed, h1, h2, r⟩ := h
  exact ⟨n, ns, pos, rest, seed, e _ _ h1, e _ _ h2, r⟩
theorem Dr.upd {H : Hp} {d c p : Addr} {o : HO} (h : Dr H d c) (n1 : p ≠ d) (n2 : p ≠ c) : Dr (upd H p o) d c := by
  obtain ⟨n, ns, pos, rest, seed, h1, h2, r⟩ := h
  exact ⟨n, ns, pos, rest, seed, by rw [upd_ne n1.symm]; exact h1, by rw [upd_ne n2.symm]; exact h2, r⟩
theorem Dr.nd {H : Hp} {d c p : Addr} (h : Dr H d c) (n : H p = none) : p ≠ d := by
  obtain ⟨_, ns, pos, rest, seed, h1, _⟩ := h
  exact (ne_of_none h1 n).symm
theorem Dr.nc {H : Hp} {d c p : Addr} (h : Dr H d c) (n : H p = none) : p ≠ c := by
  obtain ⟨_, ns, pos, rest, seed, _, h2, _⟩ := h
  exact (ne_of_none h2 n).symm
theorem Dr.lst {H : Hp} {d c : Addr} (h : Dr H d c) : ∃ zs, H d = some (.lst zs) := by
  obtain ⟨_, ns, pos, rest, seed, h1, _⟩ := h
  exact ⟨_, h1⟩
theorem Dr.lift {H H' : Hp} {d c d' c' : Addr} (_h : Dr H d c) (h' : Dr H' d' c') : Dr H' d' c' := h'
def sp_draw (K : PySem.W.Frag) : Sp := fun vs H Q _ => ∃ (a : Addr) (ns : List Int), vs = [.ref a] ∧ SqL K H a (ns.map V.int) ∧ ∀ H' d c, Same H H' → H d = none → Dr H' d c → Q (.ref d) H'
/-- a draw: some number below many -/
def sp_next : Sp := fun vs H Q _ => ∃ (d c : Addr) (many : Int), vs = [.ref d, .int many] ∧ Dr H d c ∧ 1 ≤ many ∧ many < 2 ^ 64 ∧ ∀ H' r, Fd d H H' → (∀ p, p ≠ d → H' p = H p) → Dr H' d c → 0 ≤ r → r < many → Q (.int r) H'
section
variable {P : Program} {w : World} {K : PySem.W.Frag} {mg : Str → Option Value} {base : Heap}
theorem ok_draw {f : Addr} {fd : FuncData} (F : Fun K "_law_draw" "_law_draw" s__law_draw f fd) (M : Mg mg) : FnOk P w K mg base CX0 1 f fd ["script"] (sp_draw K) := by
  refine F.ok sc__law_draw (fun vs H Q E h => ?_) (fun cdv A outer s H vs Q E hr h => ?_)
  · obtain ⟨a, ns, rfl, _⟩ := h
    rfl
  · obtain ⟨a, ns, rfl, hS, q⟩ := h
    refine ⟨_, (pss_one (ps_ret (pe_lst (pa_cons (pe_callTy (listK K) (by rfl) M.list (by decide +kernel) (pa_cons (pv 0) pa_nil)) (pa_cons pe_int (pa_cons pe_int (pa_cons pe_int pa_nil))))))), ?_⟩
    refine ⟨_, rfl, a, _, rfl, .inl hS, fun c nc => ?_⟩
    refine ⟨by show 4 ≤ sizeLine; decide, fun d nd => ?_⟩
    have hc : (upd H c (.lst (ns.map V.int))) c = some (.lst (ns.map V.int)) := upd_same
    have ncd : c ≠ d := ne_of_none hc nd
    have s1 := (same_upd nc (o := .lst (ns.map V.int))).trans (same_upd nd (o := .lst [.ref c, .int 0, .int 0, .int 17]))
    refine q _ d c s1 ((same_upd nc).free nd) ⟨ncd, ns, 0, 0, 17, upd_same, ?_, by decide, by decide, by decide, by decide⟩
    rw [upd_ne ncd]
    exact hc
theorem next_aux {H : Hp} {d c : Addr} {xs' : List V} {pos rest seed : Int} {ns : List Int} (hn : c ≠ d) (h2 : H c = some (.lst (ns.map V.int))) (hx : xs' = [.ref c, .int pos, .int rest, .int seed]) (h0 : 0 ≤ pos) (h1 : 0 ≤ rest) (h3 : 0 ≤ seed) (h4 : seed < 2147483647) : Dr (upd H d (.lst xs')) d c := by
  subst hx
  refine ⟨hn, ns, pos, rest, seed, upd_same, ?_, h0, h1, h3, h4⟩
  rw [upd_ne hn]
  exact h2
theorem ok_next {f : Addr} {fd : FuncData} (F : Fun K "_law_next" "_law_next" s__law_next f fd) (M : Mg mg) : FnOk P w K mg base CX0 1 f fd ["draw", "many"] sp_next := by
  refine F.ok sc__law_next (fun vs H Q E h => ?_) (fun cdv A outer s H vs Q E hr h => ?_)
  · obtain ⟨d, c, many, rfl, _⟩ := h
    rfl
  · obtain ⟨d, c, many, rfl, ⟨ncd, ns, pos, rest, seed, h1, h2, h0, h3, h4, h5⟩, hm1, hm2, q⟩ := h
    have hdv : ∀ x : Int, CDivW x many := fun x => wide_div (b := 64) (by omega) (by omega) (by decide) (by decide)
    have hcd : d ≠ c := ncd.symm
    have L0 : SqL K H d [.ref c, .int pos, .int rest, .int seed] := .of h1
    have at0 : ∀ (a b e g : V), atI [a, b, e, g] (0 : Int) = some a := fun a b e g => atI_nat (j := 0) rfl
    have at1 : ∀ (a b e g : V), atI [a, b, e, g] (1 : Int) = some b := fun a b e g => atI_nat (j := 1) rfl
    have at2 : ∀ (a b e g : V), atI [a, b, e, g] (2 : Int) = some e := fun a b e g => atI_nat (j := 2) rfl
    have at3 : ∀ (a b e g : V), atI [a, b, e, g] (3 : Int) = some g := fun a b e g => atI_nat (j := 3) rfl
    have fr : ∀ (H0 : Hp) (o : HO), (∀ p, p ≠ d → H0 p = H p) → (∀ p, p ≠ d → (upd H0 d o) p = H p) := fun H0 o e p n => by rw [upd_ne n]; exact e p n
    have fF : ∀ (H0 : Hp), (∀ p, p ≠ d → H0 p = H p) → Fd d H H0 := fun H0 e b o n h => by rw [e b n]; exact h
    -- the last row's value
    have last : ∀ (seed' : Int), 0 ≤ seed' → seed' < 2147483647 → ∀ H0 : Hp, (∀ p, p ≠ d → H0 p = H p) → (∃ pos rest, H0 d = some (.lst [.ref c, .int pos, .int rest, .int seed']) ∧ 0 ≤ pos ∧ 0 ≤ rest) → Q (.int ((seed' * 69621 % 2147483629 / 7) % many)) H0 := by
      intro seed' g0 g1 H0 e ⟨pos', rest', g2, g3, g4⟩
      exact q H0 _ (fF _ e) e ⟨ncd, ns, pos', rest', seed', g2, by rw [e c ncd]; exact h2, g3, g4, g0, g1⟩ (Int.emod_nonneg _ (by omega)) (Int.emod_lt_of_pos _ (by omega))
    refine ⟨_, (pss_cons (ps_if (pt_cmpR op_gt (pe_ix (ix_listK K) (pv 0) pe_int (fun _ _ => rfl)) pe_int (nomark _)) (pss_cons (ps_set (i := 2) sc__law_next.nd rfl (.inl rfl) (pe_op op_mod (pe_callTy call_int1 (by rfl) M.int (by decide +kernel) (pa_cons (pe_ix (ix_listK K) (pv 0) pe_int (fun _ _ => rfl)) pa_nil)) (pv 1)))
      (pss_cons (ps_asg (pe_op op_fdivW (pe_ix (ix_listK K) (pv 0) pe_int (fun _ _ => rfl)) (pv 1)) (pg_sub (pv 0) pe_int set_list))
      (pss_one (ps_ret (pv 2))))) pss_nil)
      (pss_cons (ps_if (pt_cmpR op_lt (pe_ix (ix_listK K) (pv 0) pe_int (fun _ _ => rfl)) (pe_callB (len_seqK K) (by rfl) M.len PySem.boot_len (pa_cons (pe_ix (ix_listK K) (pv 0) pe_int (fun _ _ => rfl)) pa_nil)) (nomark _)) (pss_cons (ps_set (i := 3) sc__law_next.nd rfl (.inl rfl) (pe_callB call_abs (by rfl) M.abs (by decide +kernel) (pa_cons (pe_ix (ix_listK K) (pe_ix (ix_listK K) (pv 0) pe_int (fun _ _ => rfl)) (pe_ix (ix_listK K) (pv 0) pe_int (fun _ _ => rfl)) (fun _ _ => rfl)) pa_nil)))
      (pss_cons (ps_asg (pe_op op_add (pe_ix (ix_listK K) (pv 0) pe_int (fun _ _ => rfl)) pe_int) (pg_sub (pv 0) pe_int set_list))
      (pss_cons (ps_if (pt_cmpR op_ge (pv 3) (pe_op op_pow pe_int pe_int) (nomark _)) (pss_cons (ps_asg (pe_op op_fdivW (pv 3) (pv 1)) (pg_sub (pv 0) pe_int set_list))
      (pss_one (ps_ret (pe_op op_mod (pe_callTy call_int1 (by rfl) M.int (by decide +kernel) (pa_cons (pv 3) pa_nil)) (pv 1))))) pss_nil)
      (pss_one (ps_asg (pe_op op_mod (pe_callTy call_int1 (by rfl) M.int (by decide +kernel) (pa_cons (pe_op op_add (pe_op op_add (pe_op op_mul (pe_ix (ix_listK K) (pv 0) pe_int (fun _ _ => rfl)) pe_int) (pv 3)) pe_int) pa_nil)) pe_int) (pg_sub (pv 0) pe_int set_list)))))) (pss_one (ps_asg (pe_op op_mod (pe_callTy call_int1 (by rfl) M.int (by decide +kernel) (pa_cons (pe_op op_add (pe_op op_mul (pe_ix (ix_listK K) (pv 0) pe_int (fun _ _ => rfl)) pe_int) pe_int) pa_nil)) pe_int) (pg_sub (pv 0) pe_int set_list))))
      (pss_one (ps_ret (pe_op op_mod (pe_op op_fdivW (pe_callTy call_int1 (by rfl) M.int (by decide +kernel) (pa_cons (pe_op op_mod (pe_op op_mul (pe_ix (ix_listK K) (pv 0) pe_int (fun _ _ => rfl)) pe_int) pe_int) pa_nil)) pe_int) (pv 1)))))), ?_⟩
    refine ⟨_, rfl, d, _, 2, .int rest, rfl, rfl, L0, at2 .., ?_⟩
    refine ⟨_, _, rfl, rfl, _, rfl, ite2 (fun e => ?_) (fun e => ?_)⟩
    · -- draw[2] > 0
      have hr0 : 0 < rest := of_decide_eq_true e
      refine ⟨_, rfl, d, _, 2, .int rest, rfl, rfl, L0, at2 .., .inl ⟨_, rfl, ?_⟩⟩
      refine ⟨_, rfl, _, _, rfl, rfl, by omega, ?_⟩
      refine ⟨_, rfl, d, _, 2, .int rest, rfl, rfl, L0, at2 .., ?_⟩
      refine ⟨_, rfl, _, _, rfl, rfl, hdv _, ?_⟩
      refine ⟨_, rfl, d, _, 2, 2, rfl, rfl, h1, rfl, ?_⟩
      refine ⟨_, rfl, ?_⟩
      have e1 := fr H (.lst ([.ref c, .int pos, .int rest, .int seed].set 2 (.int (rest / many)))) (fun _ _ => rfl)
      exact q _ _ (fF _ e1) e1 (next_aux ncd h2 rfl h0 (Int.ediv_nonneg h3 (by omega)) h4 h5) (Int.emod_nonneg _ (by omega)) (Int.emod_lt_of_pos _ (by omega))
    · refine ⟨_, rfl, d, _, 1, .int pos, rfl, rfl, L0, at1 .., ?_⟩
      refine ⟨_, rfl, d, _, 0, .ref c, rfl, rfl, L0, at0 .., ?_⟩
      refine ⟨c, _, rfl, .inl (.of h2), ?_⟩
      refine ⟨_, _, rfl, rfl, _, rfl, ite2 (fun e2 => ?_) (fun e2 => ?_)⟩
      · have hp : pos < ((ns.map V.int).length : Int) := of_decide_eq_true e2
        rw [List.length_map] at hp
        obtain ⟨i, rfl⟩ := Int.eq_ofNat_of_zero_le h0
        have hi : i < ns.length := by omega
        have hat : atI (ns.map V.int) ((i : Nat) : Int) = some (.int ns[i]) := atI_nat (by rw [List.getElem?_map, List.getElem?_eq_getElem hi]; rfl)
        -- cell = abs(..)
        refine ⟨_, rfl, d, _, 0, .ref c, rfl, rfl, L0, at0 .., ?_⟩
        refine ⟨_, rfl, d, _, 1, _, rfl, rfl, L0, at1 .., ?_⟩
        refine ⟨c, _, _, _, rfl, rfl, .of h2, hat, ?_⟩
        refine ⟨_, rfl, ?_⟩
        have hcell : (0 : Int) ≤ (if ns[i] < 0 then -ns[i] else ns[i]) := by split <;> omega
        generalize (if ns[i] < 0 then -ns[i] else ns[i]) = cell at hcell
        -- draw[1] = draw[1] + 1
        refine ⟨_, rfl, d, _, 1, _, rfl, rfl, L0, at1 .., ?_⟩
        refine ⟨_, _, rfl, rfl, ?_⟩
        refine ⟨_, rfl, d, _, 1, 1, rfl, rfl, h1, rfl, ?_⟩
        have hd1 : (upd H d (.lst ([.ref c, .int ((i : Nat) : Int), .int rest, .int seed].set 1 (.int ((i : Nat) + 1))))) d = some (.lst [.ref c, .int ((i : Nat) + 1), .int rest, .int seed]) := upd_same
        have e1 := fr H (.lst ([.ref c, .int ((i : Nat) : Int), .int rest, .int seed].set 1 (.int ((i : Nat) + 1)))) (fun _ _ => rfl)
        generalize upd H d (.lst ([.ref c, .int ((i : Nat) : Int), .int rest, .int seed].set 1 (.int ((i : Nat) + 1)))) = H1 at hd1 e1
        have h2' : H1 c = some (.lst (ns.map V.int)) := by rw [e1 c ncd]; exact h2
        -- cell >= 10 ** 18
        refine ⟨_, rfl, _, _, rfl, rfl, ⟨by decide, by decide, by decide⟩, ?_⟩
        refine ⟨_, _, rfl, rfl, _, rfl, ite2 (fun e3 => ?_) (fun e3 => ?_)⟩
        · refine ⟨_, rfl, _, rfl, _, _, rfl, rfl, hdv _, ?_⟩
          refine ⟨_, rfl, d, _, 2, 2, rfl, rfl, hd1, rfl, ?_⟩
          refine ⟨_, rfl, .inl ⟨_, rfl, ?_⟩⟩
          refine ⟨_, rfl, _, _, rfl, rfl, by omega, ?_⟩
          have e5 := fr H1 (.lst ([.ref c, .int ((i : Nat) + 1), .int rest, .int seed].set 2 (.int (cell / many)))) e1
          exact q _ _ (fF _ e5) e5 (next_aux ncd h2' rfl (by omega) (Int.ediv_nonneg hcell (by omega)) h4 h5) (Int.emod_nonneg _ (by omega)) (Int.emod_lt_of_pos _ (by omega))
        · -- draw[3] = ..
          refine ⟨_, rfl, d, _, 3, .int seed, rfl, rfl, .of hd1, at3 .., ?_⟩
          refine ⟨_, _, rfl, rfl, .inl ⟨by omega, by omega⟩, ?_⟩
          refine ⟨_, rfl, _, _, rfl, rfl, ?_⟩
          refine ⟨_, _, rfl, rfl, .inl ⟨_, rfl, ?_⟩⟩
          refine ⟨_, _, rfl, rfl, by show (0 : Int) < 2147483647; decide, ?_⟩
          refine ⟨_, rfl, d, _, 3, 3, rfl, rfl, hd1, rfl, ?_⟩
          have hs0 : 0 ≤ (seed * 48271 + cell + 11) % 2147483647 := Int.emod_nonneg _ (by decide)
          have hs1 : (seed * 48271 + cell + 11) % 2147483647 < 2147483647 := Int.emod_lt_of_pos _ (by decide)
          have e5 := fr H1 (.lst ([.ref c, .int ((i : Nat) + 1), .int rest, .int seed].set 3 (.int ((seed * 48271 + cell + 11) % 2147483647)))) e1
          have hd5 : (upd H1 d (.lst ([.ref c, .int ((i : Nat) + 1), .int rest, .int seed].set 3 (.int ((seed * 48271 + cell + 11) % 2147483647))))) d = some (.lst [.ref c, .int ((i : Nat) + 1), .int rest, .int ((seed * 48271 + cell + 11) % 2147483647)]) := upd_same
          dsimp only
          generalize (seed * 48271 + cell + 11) % 2147483647 = seed' at hs0 hs1 e5 hd5 ⊢
          refine ⟨_, rfl, d, _, 3, .int seed', rfl, rfl, .of hd5, at3 .., ?_⟩
          refine ⟨_, _, rfl, rfl, .inl ⟨by omega, by omega⟩, ?_⟩
          refine ⟨_, _, rfl, rfl, by show (0 : Int) < 2147483629; decide, .inl ⟨_, rfl, ?_⟩⟩
          refine ⟨_, _, rfl, rfl, ⟨by decide, by decide⟩, ?_⟩
          refine ⟨_, rfl, _, _, rfl, rfl, by omega, ?_⟩
          exact last seed' hs0 hs1 _ e5 ⟨_, _, hd5, by omega, h3⟩
      · -- draw[3] = ..
        refine ⟨_, rfl, d, _, 3, .int seed, rfl, rfl, L0, at3 .., ?_⟩
        refine ⟨_, _, rfl, rfl, .inl ⟨by omega, by omega⟩, ?_⟩
        refine ⟨_, _, rfl, rfl, .inl ⟨_, rfl, ?_⟩⟩
        refine ⟨_, _, rfl, rfl, by show (0 : Int) < 2147483647; decide, ?_⟩
        refine ⟨_, rfl, d, _, 3, 3, rfl, rfl, h1, rfl, ?_⟩
        have hs0 : 0 ≤ (seed * 48271 + 12345) % 2147483647 := Int.emod_nonneg _ (by decide)
        have hs1 : (seed * 48271 + 12345) % 2147483647 < 2147483647 := Int.emod_lt_of_pos _ (by decide)
        have e5 := fr H (.lst ([.ref c, .int pos, .int rest, .int seed].set 3 (.int ((seed * 48271 + 12345) % 2147483647)))) (fun _ _ => rfl)
        have hd5 : (upd H d (.lst ([.ref c, .int pos, .int rest, .int seed].set 3 (.int ((seed * 48271 + 12345) % 2147483647))))) d = some (.lst [.ref c, .int pos, .int rest, .int ((seed * 48271 + 12345) % 2147483647)]) := upd_same
        dsimp only
        generalize (seed * 48271 + 12345) % 2147483647 = seed' at hs0 hs1 e5 hd5 ⊢
        refine ⟨_, rfl, d, _, 3, .int seed', rfl, rfl, .of hd5, at3 .., ?_⟩
        refine ⟨_, _, rfl, rfl, .inl ⟨by omega, by omega⟩, ?_⟩
        refine ⟨_, _, rfl, rfl, by show (0 : Int) < 2147483629; decide, .inl ⟨_, rfl, ?_⟩⟩
        refine ⟨_, _, rfl, rfl, ⟨by decide, by decide⟩, ?_⟩
        refine ⟨_, rfl, _, _, rfl, rfl, by omega, ?_⟩
        exact last seed' hs0 hs1 _ e5 ⟨_, _, hd5, h0, h3⟩
end

/-! ### data in the heap -/
theorem SqT.ext {K : PySem.W.Frag} {H H' : Hp} {a : Addr} {xs : List V} (e : Same H H') (h : SqT K H a xs) : SqT K H' a xs := by
  rcases h with (h | ⟨o, h⟩) | h
  · exact .inl (.inl (e _ _ h))
  · exact .inl (.inr ⟨o, e _ _ h⟩)
  · exact .inr h
mutual
theorem Dp.ext {K : PySem.W.Frag} {H H' : Hp} (e : Same H H') : ∀ (d : PyData) (v : V), Dp K H v d → Dp K H' v d
  | .none, _, h => by cases h; exact .non
  | .bool b, _, h => by cases h; exact .bl b
  | .int i, _, h => by cases h; exact .int i
  | .str x, _, h => by cases h; exact .str x
  | .list ds, _, h => by
    cases h with
    | lst hs ha => exact .lst (e.seq hs) (DpAll.ext e ds _ ha)
  | .tuple ds, _, h => by
    cases h with
    | tup hs ha => exact .tup (SqT.ext e hs) (DpAll.ext e ds _ ha)
  | .dict _, _, h => by cases h
theorem DpAll.ext {K : PySem.W.Frag} {H H' : Hp} (e : Same H H') : ∀ (ds : List PyData) (vs : List V), DpAll K H vs ds → DpAll K H' vs ds
  | [], _, h => by cases h; exact .nil
  | d :: ds, _, h => by
    cases h with
    | cons h1 h2 => exact .cons (Dp.ext e d _ h1) (DpAll.ext e ds _ h2)
end
theorem DpAll.len {K : PySem.W.Frag} {H : Hp} : ∀ {ds : List PyData} {vs : List V}, DpAll K H vs ds → vs.length = ds.length
  | [], _, h => by cases h; rfl
  | d :: ds, _, h => by
    cases h with
    | cons h1 h2 => exact congrArg (· + 1) (DpAll.len h2)
theorem DpAll.get {K : PySem.W.Frag} {H : Hp} : ∀ {ds : List PyData} {vs : List V} {i : Nat} {d : PyData}, DpAll K H vs ds → ds[i]? = some d → ∃ v, vs[i]? = some v ∧ Dp K H v d
  | [], _, _, _, _, e => by simp at e
  | x :: ds, _, 0, d, h, e => by
    cases h with
    | cons h1 h2 =>
      have e1 : x = d := Option.some.inj e
      subst e1
      exact ⟨_, rfl, h1⟩
  | x :: ds, _, i + 1, d, h, e => by
    cases h with
    | cons h1 h2 =>
      obtain ⟨v, hv, hd⟩ := DpAll.get (i := i) h2 (by simpa using e)
      exact ⟨v, by simpa using hv, hd⟩
theorem tyL {K : PySem.W.Frag} {H : Hp} {a : Addr} {xs : List V} (h : SqL K H a xs) : TyX K H (.ref a) (.type "list") := by
  rcases h with (h | ⟨o, h⟩) | ⟨o, its, n, h, c, _⟩
  · exact .base (.lst h)
  · exact .base (.frz h)
  · exact .kList h c
theorem tyT {K : PySem.W.Frag} {H : Hp} {a : Addr} {xs : List V} (h : SqT K H a xs) : TyX K H (.ref a) (.type "tuple") := by
  rcases h with (h | ⟨o, h⟩) | ⟨o, its, n, h, c, _⟩
  · exact .base (.tup h)
  · exact .fTuple h
  · exact .kTuple h c
mutual
/-- no list within -/
def tupOnly : PyData → Bool
  | .list _ => false
  | .dict _ => false
  | .tuple ds => tupOnlys ds
  | _ => true
def tupOnlys : List PyData → Bool
  | [] => true
  | d :: ds => tupOnly d && tupOnlys ds
end
mutual
theorem Dp.away {K : PySem.W.Frag} {H : Hp} {D : Addr} {zs : List V} {o : HO} (hD : H D = some (.lst zs)) : ∀ (d : PyData) (v : V), tupOnly d = true → Dp K H v d → Dp K (upd H D o) v d
  | .none, _, _, h => by cases h; exact .non
  | .bool b, _, _, h => by cases h; exact .bl b
  | .int i, _, _, h => by cases h; exact .int i
  | .str x, _, _, h => by cases h; exact .str x
  | .list ds, _, e, _ => by unfold tupOnly at e; cases e
  | .tuple ds, _, e, h => by
    unfold tupOnly at e
    cases h with
    | @tup a _ _ hs ha =>
      refine .tup ?_ (DpAll.away hD ds _ e ha)
      rcases hs with (hs | ⟨o', hs⟩) | hs
      · exact .inl (.inl (by rw [upd_ne (ne_of hs hD (fun z => nomatch z))]; exact hs))
      · exact .inl (.inr ⟨o', by rw [upd_ne (ne_of hs hD (fun z => nomatch z))]; exact hs⟩)
      · exact .inr hs
  | .dict _, _, _, h => by cases h
theorem DpAll.away {K : PySem.W.Frag} {H : Hp} {D : Addr} {zs : List V} {o : HO} (hD : H D = some (.lst zs)) : ∀ (ds : List PyData) (vs : List V), tupOnlys ds = true → DpAll K H vs ds → DpAll K (upd H D o) vs ds
  | [], _, _, h => by cases h; exact .nil
  | d :: ds, _, e, h => by
    unfold tupOnlys at e
    rw [Bool.and_eq_true] at e
    cases h with
    | cons h1 h2 => exact .cons (Dp.away hD d _ e.1 h1) (DpAll.away hD ds _ e.2 h2)
end
theorem DpAll.snoc {K : PySem.W.Frag} {H : Hp} : ∀ {ds : List PyData} {xs : List V} {v : V} {d : PyData}, DpAll K H xs ds → Dp K H v d → DpAll K H (xs ++ [v]) (ds ++ [d])
  | [], _, _, _, h, h2 => by cases h; exact .cons h2 .nil
  | _ :: ds, _, _, _, h, h2 => by
    cases h with
    | cons a b => exact .cons a (DpAll.snoc b h2)
theorem at_0 {α : Type} {xs : List α} {i : Nat} {v : α} (h : xs[i]? = some v) : atI xs (0 + (i : Int)) = some v := by
  rw [Int.zero_add]
  exact atI_nat h
mutual
/-- what is made of tuples stands when another list is changed -/
theorem Dp.fd {K : PySem.W.Frag} {H H' : Hp} {D : Addr} (hD : ∃ zs, H D = some (.lst zs)) (e : Fd D H H') : ∀ (d : PyData) (v : V), tupOnly d = true → Dp K H v d → Dp K H' v d
  | .none, _, _, h => by cases h; exact .non
  | .bool b, _, _, h => by cases h; exact .bl b
  | .int i, _, _, h => by cases h; exact .int i
  | .str x, _, _, h => by cases h; exact .str x
  | .list ds, _, e, _ => by unfold tupOnly at e; cases e
  | .tuple ds, _, e', h => by
    unfold tupOnly at e'
    obtain ⟨zs, hz⟩ := hD
    cases h with
    | @tup a _ _ hs ha =>
      refine .tup ?_ (DpAll.fd ⟨zs, hz⟩ e ds _ e' ha)
      rcases hs with (hs | ⟨o', hs⟩) | hs
      · exact .inl (.inl (e _ _ (ne_of hs hz (fun z => nomatch z)) hs))
      · exact .inl (.inr ⟨o', e _ _ (ne_of hs hz (fun z => nomatch z)) hs⟩)
      · exact .inr hs
  | .dict _, _, _, h => by cases h
theorem DpAll.fd {K : PySem.W.Frag} {H H' : Hp} {D : Addr} (hD : ∃ zs, H D = some (.lst zs)) (e : Fd D H H') : ∀ (ds : List PyData) (vs : List V), tupOnlys ds = true → DpAll K H vs ds → DpAll K H' vs ds
  | [], _, _, h => by cases h; exact .nil
  | d :: ds, _, e', h => by
    unfold tupOnlys at e'
    rw [Bool.and_eq_true] at e'
    cases h with
    | cons h1 h2 => exact .cons (Dp.fd hD e d _ e'.1 h1) (DpAll.fd hD e ds _ e'.2 h2)
end

/-! ### t < u of tuples whose first different place alone can be compared -/
section
open PySem.SeqAt AutoSeq1 MeetsSeq MeetsSeq2 MeetsSeq3 SeqRoads2
/-- what the first different place says; fin where there is none -/
def fstLt (e r : Nat → Bool) (fin : Bool) (n : Nat) : Bool := SeqAt.firstLt e r fin (List.range n)
theorem ltFirst (p q : Addr) (xs ys : Array Value) (n1 n2 : Nat) (d1 d2 : Option Addr) (z1 z2 : Array (Option Value)) (e r : Nat → Bool) :
    Meets (Builtin.«tuple.__lt__» ⟨[.ref p, .ref q], []⟩) (fun A R s =>
      s.heap.get? p = some { cls := .type "tuple", dict := d1, data := .seq xs n1, slots := z1 } ∧
      s.heap.get? q = some { cls := .type "tuple", dict := d2, data := .seq ys n2, slots := z2 } ∧
      (∀ j (a : j < xs.size) (b : j < ys.size), (∀ i < j, e i = true) → EqAt A.in1 s xs[j] ys[j] (e j)) ∧
      (∀ j (a : j < xs.size) (b : j < ys.size), (∀ i < j, e i = true) → e j = false → RcLt A.in1 s xs[j] ys[j] (r j)) ∧
      R (.ok (.ret (.bool (fstLt e r (decide (xs.size < ys.size)) (min xs.size ys.size))))) s) :=
  .of_wp fun prog w A R s h => by
    obtain ⟨h0, g, d, tk, os⟩ := s
    obtain ⟨hp, hq, he, hr, h⟩ := h
    have sub := AutoSeq1.sub_tuple_tuple
    have len : (xs.toList.zip ys.toList).length = min xs.size ys.size := by simp
    unfold fstLt at h
    wp_walk using wpAny_loadPart' hp, wpAny_loadPart' hq,
      wpAny_forIn_list _ (fun rest b s' => b.1 = none ∧ s' = ⟨h0, g, d, tk, os⟩ ∧ ∃ i, rest = (xs.toList.zip ys.toList).drop i ∧ (∀ k < i, e k = true) ∧
        R (.ok (.ret (.bool (firstLt e r (decide (xs.size < ys.size)) ((List.range (min xs.size ys.size)).drop i))))) ⟨h0, g, d, tk, os⟩) _
    case turn =>
      rintro ⟨y, x⟩ rest b s' ⟨eb, rfl, i, ez, ei, hR⟩
      have lt : i < (xs.toList.zip ys.toList).length := by
        refine Nat.lt_of_not_le fun z => ?_
        rw [List.drop_of_length_le z] at ez
        cases ez
      have lm : i < min xs.size ys.size := len ▸ lt
      have l1 : i < xs.size := by omega
      have l2 : i < ys.size := by omega
      rw [List.drop_eq_getElem_cons lt] at ez
      injection ez with e1 e2
      have ey : y = xs[i] := by simpa using congrArg Prod.fst e1
      have ex : x = ys[i] := by simpa using congrArg Prod.snd e1
      subst ey ex
      have er : (List.range (min xs.size ys.size)).drop i = i :: (List.range (min xs.size ys.size)).drop (i + 1) := by
        rw [List.drop_eq_getElem_cons (by simpa using lm)]
        simp
      rw [er] at hR
      have hq : e i = false → ∀ (E : Value → Shared → Prop) (Q : Value → Shared → Prop), Q (.bool (r i)) ⟨h0, g, d, tk, os⟩ → wpAny (model prog w) A.in1 (PySem.richCompare .Lt xs[i] ys[i]) Q E ⟨h0, g, d, tk, os⟩ := fun ee E Q z => hr i l1 l2 ei ee prog w E Q z
      have hb : ∀ (E : Value → Shared → Prop) (Q : Bool → Shared → Prop), Q (e i) ⟨h0, g, d, tk, os⟩ → wpAny (model prog w) A.in1 (PySem.eqBool xs[i] ys[i]) Q E ⟨h0, g, d, tk, os⟩ := fun E Q z => he i l1 l2 ei prog w E Q z
      refine wpAny_bind (hb _ _ ?_)
      cases ee : e i with
      | true =>
        rw [firstLt_yes ee] at hR
        wp_walk
        refine ⟨rfl, rfl, i + 1, e2, fun k hk => ?_, hR⟩
        by_cases z : k = i
        · exact z ▸ ee
        · exact ei k (by omega)
      | false =>
        rw [firstLt_no ee] at hR
        generalize PySem.richCompare .Lt xs[i] ys[i] = less at hq ⊢
        wp_walk
        refine hq ee _ _ ?_
        wp_walk
        exact ⟨_, rfl, hR⟩
    case fin =>
      rintro ⟨b1, b2⟩ s' ⟨eb, rfl, i, ez, ei, hR⟩
      simp only at eb
      subst eb
      have ge : min xs.size ys.size ≤ i := by
        refine Nat.le_of_not_lt fun z => ?_
        rw [List.drop_eq_getElem_cons (by rw [len]; exact z)] at ez
        cases ez
      rw [List.drop_of_length_le (by simpa using ge)] at hR
      wp_walk
      exact ⟨_, rfl, by simpa [Builtin.Tuple.tupleCompareSizes, firstLt] using hR⟩
    case h => exact ⟨rfl, rfl, 0, rfl, (fun k hk => absurd hk (Nat.not_lt_zero k)), by simpa using h⟩
theorem rcLt_first {A : Around} {s : Shared} {p q : Addr} {xs ys : Array Value} {e r : Nat → Bool} (hp : s.heap.IsTuple p xs) (hq : s.heap.IsTuple q ys) (hu : A.units < cLine)
    (he : ∀ j (a : j < xs.size) (b : j < ys.size), (∀ i < j, e i = true) → EqAt A.in1 s xs[j] ys[j] (e j)) (hr : ∀ j (a : j < xs.size) (b : j < ys.size), (∀ i < j, e i = true) → e j = false → RcLt A.in1 s xs[j] ys[j] (r j)) :
    RcLt A s (.ref p) (.ref q) (fstLt e r (decide (xs.size < ys.size)) (min xs.size ys.size)) := fun prog w E Q h => by
  obtain ⟨⟨c1, d1, t1, z1⟩, o1, k1, n1, m1⟩ := id hp
  obtain ⟨⟨c2, d2, t2, z2⟩, o2, k2, n2, m2⟩ := id hq
  simp only at k1 m1 k2 m2
  subst k1 m1 k2 m2
  exact richCompare_meets_room (op := .Lt) ⟨_, o1, rfl⟩ ⟨_, o2, rfl⟩ F.slot_tuple_lt F.entry_tuple_lt (F.args_tuple_lt_2 _ _) (ltFirst p q xs ys n1 n2 d1 d2 z1 z2 e r)
    ⟨o1, o2, he, hr, show Value.bool (fstLt e r (decide (xs.size < ys.size)) (min xs.size ys.size)) ≠ Value.notImplemented ∧ Q (.bool (fstLt e r (decide (xs.size < ys.size)) (min xs.size ys.size))) s from ⟨(fun z => nomatch z), h⟩⟩ hu
end
/-! the order of data, and where it may be asked -/
mutual
def ltD : PyData → PyData → Bool
  | .int a, .int b => decide (a < b)
  | .str a, .str b => decide (a.cps.toList < b.cps.toList)
  | .tuple xs, .tuple ys => ltDs xs ys
  | .list xs, .list ys => PySem.W.dataLt (.list xs) (.list ys)
  | _, _ => false
def ltDs : List PyData → List PyData → Bool
  | [], [] => false
  | [], _ :: _ => true
  | _ :: _, [] => false
  | x :: xs, y :: ys => if PyData.eqv x y = true then ltDs xs ys else ltD x y
end
mutual
def okD : PyData → PyData → Bool
  | .int _, .int _ => true
  | .str _, .str _ => true
  | .tuple xs, .tuple ys => okDs xs ys
  | .list xs, .list ys => PySem.W.alike (.list xs) (.list ys)
  | _, _ => false
def okDs : List PyData → List PyData → Bool
  | x :: xs, y :: ys => if PyData.eqv x y = true then okDs xs ys else okD x y
  | [], _ => true
  | _ :: _, [] => true
end
theorem fst_all (f : Nat → Nat → Bool) (e r e' r' : Nat → Bool) (fin : Bool) : ∀ l : List Nat, (∀ j, e (j + 1) = e' j) → (∀ j, r (j + 1) = r' j) → SeqAt.firstLt e r fin (l.map (· + 1)) = SeqAt.firstLt e' r' fin l
  | [], _, _ => rfl
  | j :: l, he, hr => by
    rw [List.map_cons]
    unfold SeqAt.firstLt
    rw [he, hr, fst_all f e r e' r' fin l he hr]
theorem fst_cons (e r : Nat → Bool) (fin : Bool) (n : Nat) : fstLt e r fin (n + 1) = if e 0 = true then fstLt (fun j => e (j + 1)) (fun j => r (j + 1)) fin n else r 0 := by
  unfold fstLt
  rw [List.range_succ_eq_map]
  show (if e 0 = true then SeqAt.firstLt e r fin ((List.range n).map Nat.succ) else r 0) = _
  rw [show (List.range n).map Nat.succ = (List.range n).map (· + 1) from rfl, fst_all (fun _ _ => true) e r (fun j => e (j + 1)) (fun j => r (j + 1)) fin _ (fun _ => rfl) (fun _ => rfl)]
/-- what the places of two lists say -/
def eqP (xs ys : List PyData) (j : Nat) : Bool := PyData.eqv (xs.getD j .none) (ys.getD j .none)
def ltP (xs ys : List PyData) (j : Nat) : Bool := ltD (xs.getD j .none) (ys.getD j .none)
theorem ltDs_first : ∀ xs ys : List PyData, ltDs xs ys = fstLt (eqP xs ys) (ltP xs ys) (decide (xs.length < ys.length)) (min xs.length ys.length)
  | [], [] => by unfold ltDs; rfl
  | [], y :: ys => by
    unfold ltDs
    rw [List.length_nil, Nat.zero_min]
    rfl
  | x :: xs, [] => by
    unfold ltDs
    rw [List.length_nil, Nat.min_zero]
    rfl
  | x :: xs, y :: ys => by
    unfold ltDs
    rw [List.length_cons, List.length_cons, Nat.succ_min_succ, fst_cons, ltDs_first xs ys]
    have e : decide (xs.length + 1 < ys.length + 1) = decide (xs.length < ys.length) := by
      rw [decide_eq_decide]
      omega
    rw [e]
    rfl
theorem okDs_at : ∀ (xs ys : List PyData) (j : Nat), okDs xs ys = true → j < xs.length → j < ys.length → (∀ i < j, eqP xs ys i = true) → eqP xs ys j = false → okD (xs.getD j .none) (ys.getD j .none) = true
  | [], _, j, _, h, _, _, _ => absurd h (Nat.not_lt_zero _)
  | _ :: _, [], j, _, _, h, _, _ => absurd h (Nat.not_lt_zero _)
  | x :: xs, y :: ys, 0, h, _, _, _, e => by
    have e' : PyData.eqv x y = false := e
    unfold okDs at h
    rw [e', if_neg Bool.false_ne_true] at h
    exact h
  | x :: xs, y :: ys, j + 1, h, h1, h2, ei, e => by
    have e0 : PyData.eqv x y = true := ei 0 (Nat.succ_pos j)
    unfold okDs at h
    rw [if_pos e0] at h
    exact okDs_at xs ys j h (Nat.lt_of_succ_lt_succ h1) (Nat.lt_of_succ_lt_succ h2) (fun i hi => ei (i + 1) (Nat.succ_lt_succ hi)) e
theorem pairEq_eqP : ∀ (xs ys : List PyData) (j : Nat), SeqAt.pairEq xs ys j = eqP xs ys j := fun xs ys j => rfl
section
open PySem.SeqAt
mutual
theorem rcLt_D : ∀ (x y : PyData) (A : Around) (s : Shared) (u v : Value) (as bs : List Addr), Reads s.heap u x as → Reads s.heap v y bs → x.canLay0 = true → y.canLay0 = true → okD x y = true → A.units + min x.depth y.depth < cLine → RcLt A s u v (ltD x y)
  | .none, _, _, _, _, _, _, _, _, _, _, _, h, _ => by unfold okD at h; cases h
  | .bool _, _, _, _, _, _, _, _, _, _, _, _, h, _ => by unfold okD at h; cases h
  | .list xs, y, A, s, u, v, as, bs, ra, rb, _, _, h, hu => by
    cases y with
    | list ys =>
      have ho : PySem.W.alike (.list xs) (.list ys) = true := by unfold okD at h; exact h
      have e : ltD (.list xs) (.list ys) = PySem.W.dataLt (.list xs) (.list ys) := by unfold ltD; rfl
      rw [e]
      exact PySem.W.rcLt_alike _ _ A s u v as bs ra rb ho (fun z => nomatch z) hu
    | _ => unfold okD at h; cases h
  | .dict _, _, _, _, _, _, _, _, _, _, _, _, h, _ => by unfold okD at h; cases h
  | .int a, y, A, s, u, v, as, bs, ra, rb, _, _, h, _ => by
    cases y with
    | int b =>
      cases ra
      cases rb
      intro prog w E Q hq
      exact P.lt_int (by unfold ltD at hq; exact hq)
    | _ => unfold okD at h; cases h
  | .str a, y, A, s, u, v, as, bs, ra, rb, _, _, h, _ => by
    cases y with
    | str b =>
      cases ra
      cases rb
      intro prog w E Q hq
      exact P.lt_str (by unfold ltD at hq; exact hq)
    | _ => unfold okD at h; cases h
  | .tuple xs, y, A, s, u, v, as, bs, ra, rb, ca, cb, h, hu => by
    cases y with
    | tuple ys =>
      have ho : okDs xs ys = true := by unfold okD at h; exact h
      have c1 : PyData.canLayAll0 xs = true := by simpa [PyData.canLay0] using ca
      have c2 : PyData.canLayAll0 ys = true := by simpa [PyData.canLay0] using cb
      cases ra with
      | @tuple p o vs n _ as1 a1 a2 a3 a4 =>
        cases rb with
        | @tuple q o' ws n' _ bs1 b1 b2 b3 b4 =>
          have l1 : vs.size = xs.length := by simpa using ReadsAll.length _ _ _ a4
          have l2 : ws.size = ys.length := by simpa using ReadsAll.length _ _ _ b4
          have e : ltD (.tuple xs) (.tuple ys) = ltDs xs ys := by unfold ltD; rfl
          rw [e, ltDs_first, ← l1, ← l2]
          refine rcLt_first ⟨_, a1, a2, _, a3⟩ ⟨_, b1, b2, _, b3⟩ (room_here hu) (fun j j1 j2 _ => ?_) (fun j j1 j2 hi hj => ?_)
          · have z : EqAt A.in1 s (vs.toList[j]'(by simpa using j1)) (ws.toList[j]'(by simpa using j2)) (eqP xs ys j) := eqAt_readsAll xs ys A.in1 s vs.toList ws.toList _ _ a4 b4 c1 c2 (room_in hu) j (by simpa using j1) (by simpa using j2)
            simpa using z
          · have := rcLt_Ds xs ys A.in1 s vs.toList ws.toList _ _ a4 b4 c1 c2 (room_in hu) j (by simpa using j1) (by simpa using j2) (okDs_at xs ys j ho (by omega) (by omega) hi hj)
            simpa using this
    | _ => unfold okD at h; cases h
theorem rcLt_Ds : ∀ (xs ys : List PyData) (A : Around) (s : Shared) (vs ws : List Value) (as bs : List Addr), ReadsAll s.heap vs xs as → ReadsAll s.heap ws ys bs → PyData.canLayAll0 xs = true → PyData.canLayAll0 ys = true →
    A.units + min (PyData.depthAll xs) (PyData.depthAll ys) < cLine → ∀ j (a : j < vs.length) (b : j < ws.length), okD (xs.getD j .none) (ys.getD j .none) = true → RcLt A s vs[j] ws[j] (ltP xs ys j)
  | [], _, _, _, _, _, _, _, ra, _, _, _, _, j, h, _, _ => by cases ra; exact absurd h (Nat.not_lt_zero _)
  | _ :: _, [], _, _, _, _, _, _, _, rb, _, _, _, j, _, h, _ => by cases rb; exact absurd h (Nat.not_lt_zero _)
  | x :: xs, y :: ys, A, s, _, _, _, _, ra, rb, ca, cb, hu, j, h1, h2, hk => by
    have c1 : x.canLay0 = true ∧ PyData.canLayAll0 xs = true := by simpa [PyData.canLayAll0] using ca
    have c2 : y.canLay0 = true ∧ PyData.canLayAll0 ys = true := by simpa [PyData.canLayAll0] using cb
    cases ra with
    | cons r rs =>
      cases rb with
      | cons r' rs' =>
        cases j with
        | zero => exact rcLt_D x y A s _ _ _ _ r r' c1.1 c2.1 hk (room_head hu)
        | succ j => exact rcLt_Ds xs ys A s _ _ _ _ rs rs' c1.2 c2.2 (room_tail hu) j (Nat.lt_of_succ_lt_succ h1) (Nat.lt_of_succ_lt_succ h2) hk
end
end
def rLtD (K : PySem.W.Frag) : R2 := fun x y H Q => ∃ d e, Dp K H x d ∧ Dp K H y e ∧ SeqAt.shaped d = true ∧ SeqAt.shaped e = true ∧ okD d e = true ∧ Q (.bl (ltD d e)) H
theorem ltDK {X : Cx} (K : PySem.W.Frag) (hu : X.A.units + 64 < cLine) (h : X.K = K := by rfl) : OpR X (compareOp .Lt) (rLtD K) := by
  subst h
  intro pins s σ H x y v u Q I rx ry h
  obtain ⟨d, e, hd, he, sd, se, ho, q⟩ := h
  obtain ⟨as, r1⟩ := Dp.reads I d x v hd rx
  obtain ⟨bs, r2⟩ := Dp.reads I e y u he ry
  have go := rcLt_D d e X.A s v u as bs r1 r2 (SeqAt.canLay_of_shaped sd) (SeqAt.canLay_of_shaped se) ho (SeqAt.room_of_shaped sd hu)
  exact go X.prog X.w X.xe _ ⟨.bl _, H, I, rfl, q⟩

/-! ### t > u of tuples whose first different place alone can be compared -/
section
open PySem.SeqAt AutoSeq1 MeetsSeq MeetsSeq2 MeetsSeq3 SeqRoads2
theorem gtFirst (p q : Addr) (xs ys : Array Value) (n1 n2 : Nat) (d1 d2 : Option Addr) (z1 z2 : Array (Option Value)) (e r : Nat → Bool) :
    Meets (Builtin.«tuple.__gt__» ⟨[.ref p, .ref q], []⟩) (fun A R s =>
      s.heap.get? p = some { cls := .type "tuple", dict := d1, data := .seq xs n1, slots := z1 } ∧
      s.heap.get? q = some { cls := .type "tuple", dict := d2, data := .seq ys n2, slots := z2 } ∧
      (∀ j (a : j < xs.size) (b : j < ys.size), (∀ i < j, e i = true) → EqAt A.in1 s xs[j] ys[j] (e j)) ∧
      (∀ j (a : j < xs.size) (b : j < ys.size), (∀ i < j, e i = true) → e j = false → RcOp .Gt A.in1 s xs[j] ys[j] (r j)) ∧
      R (.ok (.ret (.bool (fstLt e r (decide (ys.size < xs.size)) (min xs.size ys.size))))) s) :=
  .of_wp fun prog w A R s h => by
    obtain ⟨h0, g, d, tk, os⟩ := s
    obtain ⟨hp, hq, he, hr, h⟩ := h
    have sub := AutoSeq1.sub_tuple_tuple
    have len : (xs.toList.zip ys.toList).length = min xs.size ys.size := by simp
    unfold fstLt at h
    wp_walk using wpAny_loadPart' hp, wpAny_loadPart' hq,
      wpAny_forIn_list _ (fun rest b s' => b.1 = none ∧ s' = ⟨h0, g, d, tk, os⟩ ∧ ∃ i, rest = (xs.toList.zip ys.toList).drop i ∧ (∀ k < i, e k = true) ∧
        R (.ok (.ret (.bool (firstLt e r (decide (ys.size < xs.size)) ((List.range (min xs.size ys.size)).drop i))))) ⟨h0, g, d, tk, os⟩) _
    case turn =>
      rintro ⟨y, x⟩ rest b s' ⟨eb, rfl, i, ez, ei, hR⟩
      have lt : i < (xs.toList.zip ys.toList).length := by
        refine Nat.lt_of_not_le fun z => ?_
        rw [List.drop_of_length_le z] at ez
        cases ez
      have lm : i < min xs.size ys.size := len ▸ lt
      have l1 : i < xs.size := by omega
      have l2 : i < ys.size := by omega
      rw [List.drop_eq_getElem_cons lt] at ez
      injection ez with e1 e2
      have ey : y = xs[i] := by simpa using congrArg Prod.fst e1
      have ex : x = ys[i] := by simpa using congrArg Prod.snd e1
      subst ey ex
      have er : (List.range (min xs.size ys.size)).drop i = i :: (List.range (min xs.size ys.size)).drop (i + 1) := by
        rw [List.drop_eq_getElem_cons (by simpa using lm)]
        simp
      rw [er] at hR
      have hq : e i = false → ∀ (E : Value → Shared → Prop) (Q : Value → Shared → Prop), Q (.bool (r i)) ⟨h0, g, d, tk, os⟩ → wpAny (model prog w) A.in1 (PySem.richCompare .Gt xs[i] ys[i]) Q E ⟨h0, g, d, tk, os⟩ := fun ee E Q z => hr i l1 l2 ei ee prog w E Q z
      have hb : ∀ (E : Value → Shared → Prop) (Q : Bool → Shared → Prop), Q (e i) ⟨h0, g, d, tk, os⟩ → wpAny (model prog w) A.in1 (PySem.eqBool xs[i] ys[i]) Q E ⟨h0, g, d, tk, os⟩ := fun E Q z => he i l1 l2 ei prog w E Q z
      refine wpAny_bind (hb _ _ ?_)
      cases ee : e i with
      | true =>
        rw [firstLt_yes ee] at hR
        wp_walk
        refine ⟨rfl, rfl, i + 1, e2, fun k hk => ?_, hR⟩
        by_cases z : k = i
        · exact z ▸ ee
        · exact ei k (by omega)
      | false =>
        rw [firstLt_no ee] at hR
        generalize PySem.richCompare .Gt xs[i] ys[i] = less at hq ⊢
        wp_walk
        refine hq ee _ _ ?_
        wp_walk
        exact ⟨_, rfl, hR⟩
    case fin =>
      rintro ⟨b1, b2⟩ s' ⟨eb, rfl, i, ez, ei, hR⟩
      simp only at eb
      subst eb
      have ge : min xs.size ys.size ≤ i := by
        refine Nat.le_of_not_lt fun z => ?_
        rw [List.drop_eq_getElem_cons (by rw [len]; exact z)] at ez
        cases ez
      rw [List.drop_of_length_le (by simpa using ge)] at hR
      wp_walk
      exact ⟨_, rfl, by simpa [Builtin.Tuple.tupleCompareSizes, firstLt] using hR⟩
    case h => exact ⟨rfl, rfl, 0, rfl, (fun k hk => absurd hk (Nat.not_lt_zero k)), by simpa using h⟩
theorem rcGt_first {A : Around} {s : Shared} {p q : Addr} {xs ys : Array Value} {e r : Nat → Bool} (hp : s.heap.IsTuple p xs) (hq : s.heap.IsTuple q ys) (hu : A.units < cLine)
    (he : ∀ j (a : j < xs.size) (b : j < ys.size), (∀ i < j, e i = true) → EqAt A.in1 s xs[j] ys[j] (e j)) (hr : ∀ j (a : j < xs.size) (b : j < ys.size), (∀ i < j, e i = true) → e j = false → RcOp .Gt A.in1 s xs[j] ys[j] (r j)) :
    RcOp .Gt A s (.ref p) (.ref q) (fstLt e r (decide (ys.size < xs.size)) (min xs.size ys.size)) := fun prog w E Q h => by
  obtain ⟨⟨c1, d1, t1, z1⟩, o1, k1, n1, m1⟩ := id hp
  obtain ⟨⟨c2, d2, t2, z2⟩, o2, k2, n2, m2⟩ := id hq
  simp only at k1 m1 k2 m2
  subst k1 m1 k2 m2
  exact richCompare_meets_room (op := .Gt) ⟨_, o1, rfl⟩ ⟨_, o2, rfl⟩ F.slot_tuple_gt F.entry_tuple_gt (F.args_tuple_gt_2 _ _) (gtFirst p q xs ys n1 n2 d1 d2 z1 z2 e r)
    ⟨o1, o2, he, hr, show Value.bool (fstLt e r (decide (ys.size < xs.size)) (min xs.size ys.size)) ≠ Value.notImplemented ∧ Q (.bool (fstLt e r (decide (ys.size < xs.size)) (min xs.size ys.size))) s from ⟨(fun z => nomatch z), h⟩⟩ hu
end
mutual
def gtD : PyData → PyData → Bool
  | .int a, .int b => decide (b < a)
  | .str a, .str b => decide (b.cps.toList < a.cps.toList)
  | .tuple xs, .tuple ys => gtDs xs ys
  | .list xs, .list ys => PySem.W.dataLt (.list ys) (.list xs)
  | _, _ => false
def gtDs : List PyData → List PyData → Bool
  | [], [] => false
  | [], _ :: _ => false
  | _ :: _, [] => true
  | x :: xs, y :: ys => if PyData.eqv x y = true then gtDs xs ys else gtD x y
end
def gtP (xs ys : List PyData) (j : Nat) : Bool := gtD (xs.getD j .none) (ys.getD j .none)
theorem gtDs_first : ∀ xs ys : List PyData, gtDs xs ys = fstLt (eqP xs ys) (gtP xs ys) (decide (ys.length < xs.length)) (min xs.length ys.length)
  | [], [] => by unfold gtDs; rfl
  | [], y :: ys => by
    unfold gtDs
    rw [List.length_nil, Nat.zero_min]
    rfl
  | x :: xs, [] => by
    unfold gtDs
    rw [List.length_nil, Nat.min_zero]
    rfl
  | x :: xs, y :: ys => by
    unfold gtDs
    rw [List.length_cons, List.length_cons, Nat.succ_min_succ, fst_cons, gtDs_first xs ys]
    have e : decide (ys.length + 1 < xs.length + 1) = decide (ys.length < xs.length) := by
      rw [decide_eq_decide]
      omega
    rw [e]
    rfl
section
open PySem.SeqAt
mutual
theorem rcGt_D : ∀ (x y : PyData) (A : Around) (s : Shared) (u v : Value) (as bs : List Addr), Reads s.heap u x as → Reads s.heap v y bs → x.canLay0 = true → y.canLay0 = true → okD x y = true → A.units + min x.depth y.depth < cLine → RcOp .Gt A s u v (gtD x y)
  | .none, _, _, _, _, _, _, _, _, _, _, _, h, _ => by unfold okD at h; cases h
  | .bool _, _, _, _, _, _, _, _, _, _, _, _, h, _ => by unfold okD at h; cases h
  | .list xs, y, A, s, u, v, as, bs, ra, rb, _, _, h, hu => by
    cases y with
    | list ys =>
      have ho : PySem.W.alike (.list xs) (.list ys) = true := by unfold okD at h; exact h
      have e : gtD (.list xs) (.list ys) = PySem.W.dataLt (.list ys) (.list xs) := by unfold gtD; rfl
      rw [e]
      exact PySem.W.rcGt_alike _ _ A s u v as bs ra rb ho (fun z => nomatch z) hu
    | _ => unfold okD at h; cases h
  | .dict _, _, _, _, _, _, _, _, _, _, _, _, h, _ => by unfold okD at h; cases h
  | .int a, y, A, s, u, v, as, bs, ra, rb, _, _, h, _ => by
    cases y with
    | int b =>
      cases ra
      cases rb
      intro prog w E Q hq
      exact P.gt_int (by unfold gtD at hq; exact hq)
    | _ => unfold okD at h; cases h
  | .str a, y, A, s, u, v, as, bs, ra, rb, _, _, h, _ => by
    cases y with
    | str b =>
      cases ra
      cases rb
      intro prog w E Q hq
      exact P.gt_str (by unfold gtD at hq; exact hq)
    | _ => unfold okD at h; cases h
  | .tuple xs, y, A, s, u, v, as, bs, ra, rb, ca, cb, h, hu => by
    cases y with
    | tuple ys =>
      have ho : okDs xs ys = true := by unfold okD at h; exact h
      have c1 : PyData.canLayAll0 xs = true := by simpa [PyData.canLay0] using ca
      have c2 : PyData.canLayAll0 ys = true := by simpa [PyData.canLay0] using cb
      cases ra with
      | @tuple p o vs n _ as1 a1 a2 a3 a4 =>
        cases rb with
        | @tuple q o' ws n' _ bs1 b1 b2 b3 b4 =>
          have l1 : vs.size = xs.length := by simpa using ReadsAll.length _ _ _ a4
          have l2 : ws.size = ys.length := by simpa using ReadsAll.length _ _ _ b4
          have e : gtD (.tuple xs) (.tuple ys) = gtDs xs ys := by unfold gtD; rfl
          rw [e, gtDs_first, ← l1, ← l2]
          refine rcGt_first ⟨_, a1, a2, _, a3⟩ ⟨_, b1, b2, _, b3⟩ (room_here hu) (fun j j1 j2 _ => ?_) (fun j j1 j2 hi hj => ?_)
          · have z : EqAt A.in1 s (vs.toList[j]'(by simpa using j1)) (ws.toList[j]'(by simpa using j2)) (eqP xs ys j) := eqAt_readsAll xs ys A.in1 s vs.toList ws.toList _ _ a4 b4 c1 c2 (room_in hu) j (by simpa using j1) (by simpa using j2)
            simpa using z
          · have := rcGt_Ds xs ys A.in1 s vs.toList ws.toList _ _ a4 b4 c1 c2 (room_in hu) j (by simpa using j1) (by simpa using j2) (okDs_at xs ys j ho (by omega) (by omega) hi hj)
            simpa using this
    | _ => unfold okD at h; cases h
theorem rcGt_Ds : ∀ (xs ys : List PyData) (A : Around) (s : Shared) (vs ws : List Value) (as bs : List Addr), ReadsAll s.heap vs xs as → ReadsAll s.heap ws ys bs → PyData.canLayAll0 xs = true → PyData.canLayAll0 ys = true →
    A.units + min (PyData.depthAll xs) (PyData.depthAll ys) < cLine → ∀ j (a : j < vs.length) (b : j < ws.length), okD (xs.getD j .none) (ys.getD j .none) = true → RcOp .Gt A s vs[j] ws[j] (gtP xs ys j)
  | [], _, _, _, _, _, _, _, ra, _, _, _, _, j, h, _, _ => by cases ra; exact absurd h (Nat.not_lt_zero _)
  | _ :: _, [], _, _, _, _, _, _, _, rb, _, _, _, j, _, h, _ => by cases rb; exact absurd h (Nat.not_lt_zero _)
  | x :: xs, y :: ys, A, s, _, _, _, _, ra, rb, ca, cb, hu, j, h1, h2, hk => by
    have c1 : x.canLay0 = true ∧ PyData.canLayAll0 xs = true := by simpa [PyData.canLayAll0] using ca
    have c2 : y.canLay0 = true ∧ PyData.canLayAll0 ys = true := by simpa [PyData.canLayAll0] using cb
    cases ra with
    | cons r rs =>
      cases rb with
      | cons r' rs' =>
        cases j with
        | zero => exact rcGt_D x y A s _ _ _ _ r r' c1.1 c2.1 hk (room_head hu)
        | succ j => exact rcGt_Ds xs ys A s _ _ _ _ rs rs' c1.2 c2.2 (room_tail hu) j (Nat.lt_of_succ_lt_succ h1) (Nat.lt_of_succ_lt_succ h2) hk
end
end

/-! ### methods, defs that a name holds, instances -/
structure ClM (P : Program) (w : World) (K : PySem.W.Frag) (mg : Str → Option Value) (base : Heap) (k : Nat) (C : Addr) (m : Str) (sp : Sp) : Prop where
  ex : ∃ (f : Addr) (fd : FuncData) (ps : List Str), FnOk P w K mg base CX0 k f fd ps sp ∧ Meth K C m f ∧ Cls K C ∧ Binds K fd ps []
structure ClC (P : Program) (w : World) (K : PySem.W.Frag) (mg : Str → Option Value) (base : Heap) (k : Nat) (x : Str) (C : Addr) (sp : Sp) : Prop where
  ex : ∃ (f : Addr) (fd : FuncData) (ps : List Str), FnOk P w K mg base CX0 k f fd ps sp ∧ Mk K C f ∧ mg x = some (.ref C) ∧ Binds K fd ps []
theorem FnOk.clm {P : Program} {w : World} {K : PySem.W.Frag} {mg : Str → Option Value} {base : Heap} {k : Nat} {C : Addr} {m : Str} {f : Addr} {fd : FuncData} {ps : List Str} {sp : Sp} (h : FnOk P w K mg base CX0 k f fd ps sp) (mt : Meth K C m f) (cl : Cls K C) (b : Binds K fd ps []) : ClM P w K mg base k C m sp := ⟨f, fd, ps, h, mt, cl, b⟩
section
variable {X : Cx} {k j i : Nat} {m x : Str} {C : Addr} {sp : Sp} {p pos apos : Pos} {o e : Expr} {es : List Expr} {t : TA} {ta : TE}
theorem pe_mt {pl : Sem Bool} (c : ClM X.prog X.w X.K X.mg X.base k C m sp) (hr : Room j X.A) (hk : k ≤ j) (he : PE X o ta) (ha : PA X (e :: es) t) (hst : starEach (e :: es) X.env = (false, eval e X.env) :: starEach es X.env := by rfl) (hpl : (backTo pos (starEach es X.env)).any (·.1) = false := by rfl)
    (ht : eval (.Call (.Attribute o m apos) (e :: es) [] pos) X.env = (do let ov ← eval o X.env; standAt apos.atName; let (f, first) ← holding [ov] (getMethod ov m pl); callWith pos f first (backTo pos (starEach (e :: es) X.env)) (backToKw pos (keywordEach [] X.env))) := by rfl) : PE X (.Call (.Attribute o m apos) (e :: es) [] pos) (tMeth C m sp [] E0 ta t) := by
  obtain ⟨f, fd, ps, F, hm, cl, b⟩ := c.ex
  exact pe_meth he cl hm F (hr.mono hk) b .nil pass0 ha hst hpl ht
theorem pe_mt0 {pl : Sem Bool} (c : ClM X.prog X.w X.K X.mg X.base k C m sp) (hr : Room j X.A) (hk : k ≤ j) (he : PE X o ta)
    (ht : eval (.Call (.Attribute o m apos) [] [] pos) X.env = (do let ov ← eval o X.env; standAt apos.atName; let (f, first) ← holding [ov] (getMethod ov m pl); callWith pos f first (backTo pos (starEach [] X.env)) (backToKw pos (keywordEach [] X.env))) := by rfl) : PE X (.Call (.Attribute o m apos) [] [] pos) (tMeth C m sp [] E0 ta tNil) := by
  obtain ⟨f, fd, ps, F, hm, cl, b⟩ := c.ex
  exact pe_meth0 he cl hm F (hr.mono hk) b .nil pass0 ht
theorem pe_mk (c : ClC X.prog X.w X.K X.mg X.base k x C sp) (hr : Room j X.A) (hk : k + 1 ≤ j) (hg : L2.Gl X x) (ha : PA X (e :: es) t) (hdb : (x == ("__debug__" : Str)) = false := by decide) (he : starEach (e :: es) X.env = (false, eval e X.env) :: starEach es X.env := by rfl) (hpl : (backTo pos (starEach es X.env)).any (·.1) = false := by rfl) : PE X (.Call (.Name x p) (e :: es) [] pos) (tMake C sp [] E0 t) := by
  obtain ⟨f, fd, ps, F, M, hm, b⟩ := c.ex
  exact pe_make M F (hr.mono hk) hg hm b .nil pass0 ha hdb he hpl
theorem pe_mk0 (c : ClC X.prog X.w X.K X.mg X.base k x C sp) (hr : Room j X.A) (hk : k + 1 ≤ j) (hg : L2.Gl X x) (hdb : (x == ("__debug__" : Str)) = false := by decide) : PE X (.Call (.Name x p) [] [] pos) (tMake C sp [] E0 tNil) := by
  obtain ⟨f, fd, ps, F, M, hm, b⟩ := c.ex
  exact pe_make0 M F (hr.mono hk) hg hm b .nil pass0 hdb
end

theorem wne (a b : String) (h : (Str.ofString a == Str.ofString b) = false) : decide (V.str (Str.ofString a) = V.str (Str.ofString b)) = false := by
  refine decide_eq_false fun e => ?_
  rw [V.str.inj e] at h
  have : (Str.ofString b == Str.ofString b) = true := beq_self_eq_true _
  rw [this] at h
  cases h
theorem weq (a : Str) : decide (V.str a = V.str a) = true := decide_eq_true rfl
section
variable {K : PySem.W.Frag}
/-- a tuple's word and the rest -/
theorem dp_tup {H : Hp} {p : V} {ds : List PyData} (h : Dp K H p (.tuple ds)) : ∃ a xs, p = .ref a ∧ SqT K H a xs ∧ DpAll K H xs ds := by
  cases h with
  | tup hs ha => exact ⟨_, _, rfl, hs, ha⟩
theorem dp_two {H : Hp} {xs : List V} {s : Str} {d : PyData} (h : DpAll K H xs [.str s, d]) : ∃ v, xs = [.str s, v] ∧ Dp K H v d := by
  cases h with
  | cons h1 h2 =>
    cases h1
    cases h2 with
    | cons h3 h4 =>
      cases h4
      exact ⟨_, rfl, h3⟩
theorem dp_three {H : Hp} {xs : List V} {s : Str} {d e : PyData} (h : DpAll K H xs [.str s, d, e]) : ∃ v u, xs = [.str s, v, u] ∧ Dp K H v d ∧ Dp K H u e := by
  cases h with
  | cons h1 h2 =>
    cases h1
    cases h2 with
    | cons h3 h4 =>
      cases h4 with
      | cons h5 h6 =>
        cases h6
        exact ⟨_, _, rfl, h3, h5⟩
end

/-! ### values of plans -/
inductive Vl where
  | n
  | i (k : Int)
  | s (l : List Nat)
  deriving DecidableEq
def Vl.v : Vl → V
  | .n => .non
  | .i k => .int k
  | .s l => .str ⟨l.toArray⟩
/-- the value as data -/
def Vl.p : Vl → PyData
  | .n => .none
  | .i k => .int k
  | .s l => .str ⟨l.toArray⟩
/-- the key of a value -/
def Vl.d : Vl → PyData
  | .n => .tuple [.int 0]
  | .i k => .tuple [.int 1, .int k]
  | .s l => .tuple [.int 2, .str ⟨l.toArray⟩]
def BND : Int := 1000000000000000
def Vl.ok : Vl → Prop
  | .i k => -BND ≤ k ∧ k ≤ BND
  | .s l => l = [97] ∨ l = [98]
  | _ => True
def Vl.isI : Vl → Bool
  | .i _ => true
  | _ => false
def Vl.isS : Vl → Bool
  | .s _ => true
  | _ => false
def Vl.isN : Vl → Bool
  | .n => true
  | _ => false
def Vl.tn : Vl → String
  | .n => "NoneType"
  | .i _ => "int"
  | .s _ => "str"
theorem Vl.ty {K : PySem.W.Frag} {H : Hp} : ∀ v : Vl, TyX K H v.v (.type v.tn)
  | .n => .base .non
  | .i k => .base (.int k)
  | .s _ => .base (.str _)
theorem Vl.kI : ∀ v : Vl, kitB v.tn "int" = some v.isI
  | .n => by show kitB "NoneType" "int" = some false; decide +kernel
  | .i _ => by show kitB "int" "int" = some true; decide +kernel
  | .s _ => by show kitB "str" "int" = some false; decide +kernel
theorem Vl.kS : ∀ v : Vl, kitB v.tn "str" = some v.isS
  | .n => by show kitB "NoneType" "str" = some false; decide +kernel
  | .i _ => by show kitB "int" "str" = some false; decide +kernel
  | .s _ => by show kitB "str" "str" = some true; decide +kernel
theorem Vl.eN : ∀ v : Vl, decide (v.v = .non) = v.isN
  | .n => decide_eq_true rfl
  | .i _ => decide_eq_false (fun z => nomatch z)
  | .s _ => decide_eq_false (fun z => nomatch z)
theorem Vl.dp {K : PySem.W.Frag} {H : Hp} : ∀ v : Vl, Dp K H v.v v.p
  | .n => .non
  | .i k => .int k
  | .s _ => .str _
theorem Vl.of_isI {v : Vl} (h : v.isI = true) : ∃ k, v = .i k := by
  cases v with
  | i k => exact ⟨k, rfl⟩
  | n => cases h
  | s l => cases h
theorem Vl.of_isS {v : Vl} (h : v.isS = true) : ∃ l, v = .s l := by
  cases v with
  | s l => exact ⟨l, rfl⟩
  | n => cases h
  | i k => cases h
def bnd (k : Int) : Vl := if -BND ≤ k ∧ k ≤ BND then .i k else .n
theorem bnd_ok (k : Int) : (bnd k).ok := by
  unfold bnd
  by_cases h : -BND ≤ k ∧ k ≤ BND
  · rw [if_pos h]
    exact h
  · rw [if_neg h]
    trivial
def Vl.tr : Vl → Bool
  | .i k => !decide (k = 0)
  | _ => false
def Vl.fa : Vl → Bool
  | .i k => decide (k = 0)
  | _ => false
/-- what two integers give; nothing of others -/
def ar (g : Int → Int → Vl) : Vl → Vl → Vl
  | .i a, .i b => g a b
  | _, _ => .n
def bothI (v w : Vl) : Bool := v.isI && w.isI
theorem ar_no {g : Int → Int → Vl} : ∀ {v w : Vl}, bothI v w = false → ar g v w = .n
  | .i _, .i _, h => by cases h
  | .n, _, _ => rfl
  | .s _, _, _ => rfl
  | .i _, .n, _ => rfl
  | .i _, .s _, _ => rfl
theorem ints_of {v w : Vl} (h : bothI v w = true) : ∃ a b, v = .i a ∧ w = .i b := by
  unfold bothI at h
  rw [Bool.and_eq_true] at h
  obtain ⟨a, rfl⟩ := Vl.of_isI h.1
  obtain ⟨b, rfl⟩ := Vl.of_isI h.2
  exact ⟨a, b, rfl, rfl⟩
def bf : Vl → Vl → Bool
  | .n, .n => false
  | .n, _ => true
  | _, .n => false
  | .i a, .i b => decide (a < b)
  | .i _, .s _ => true
  | .s _, .i _ => false
  | .s l, .s m => decide (l < m)
def one (b : Bool) : Vl := .i (if b = true then 1 else 0)
def cm (g : Vl → Vl → Bool) (v w : Vl) : Vl := if v.isN = true then .n else if w.isN = true then .n else one (g v w)
def fAnd (v w : Vl) : Vl := if (v.fa || w.fa) = true then one false else if (v.tr && w.tr) = true then one true else .n
def fOr (v w : Vl) : Vl := if (v.tr || w.tr) = true then one true else if (v.fa && w.fa) = true then one false else .n
def fNot (v : Vl) : Vl := if v.fa = true then one true else if v.tr = true then one false else .n
def fNeg : Vl → Vl
  | .i k => bnd (-k)
  | _ => .n
def fLen : Vl → Vl
  | .s l => .i (l.length : Nat)
  | _ => .n
def fSta : Vl → Vl → Vl
  | .s l, .s m => one (m.isPrefixOf l)
  | _, _ => .n
def fDiv : Vl → Vl → Vl := ar fun a b => if b < 1 then .n else bnd (a / b)
def fRem : Vl → Vl → Vl := ar fun a b => if b < 1 then .n else bnd (a % b)
theorem one_ok (b : Bool) : (one b).ok := by
  cases b with
  | true => exact ⟨by decide, by decide⟩
  | false => exact ⟨by decide, by decide⟩
/-! ### the order of keys -/
theorem lt_tri (l m : List Nat) : (!decide (l < m) && !decide (m < l)) = decide (l = m) := by
  by_cases e : l = m
  · subst e
    simp [List.lt_irrefl]
  · rw [decide_eq_false e]
    by_cases h : l < m
    · rw [decide_eq_true h]
      rfl
    · rw [decide_eq_false h]
      have h2 : m < l := by
        have := List.not_lt.mp h
        exact (Std.lt_of_le_of_ne this (fun z => e z.symm))
      rw [decide_eq_true h2]
      rfl
theorem mk_inj {l m : List Nat} (h : (⟨l.toArray⟩ : Str) = ⟨m.toArray⟩) : l = m := by
  have e := Str.mk.inj h
  have e2 := congrArg Array.toList e
  simpa using e2
theorem S_dec (l m : List Nat) : ((⟨l.toArray⟩ : Str) == ⟨m.toArray⟩) = decide (l = m) := by
  by_cases h : l = m
  · subst h
    rw [decide_eq_true rfl]
    exact beq_self_eq_true _
  · rw [decide_eq_false h]
    exact beq_eq_false_iff_ne.mpr fun z => h (mk_inj z)
theorem eqv_d (v w : Vl) : PyData.eqv v.d w.d = decide (v = w) := by
  cases v <;> cases w <;> simp [Vl.d, PyData.eqv, PyData.eqvAll, S_dec]
  rw [Bool.eq_iff_iff]
  simp
theorem ok_d (v w : Vl) : okD v.d w.d = true := by
  cases v <;> cases w <;> simp [Vl.d, okD, okDs, PyData.eqv, PyData.eqvAll]
theorem lt_d (v w : Vl) : ltD v.d w.d = bf v w := by
  cases v <;> cases w <;> simp [Vl.d, ltD, ltDs, PyData.eqv, PyData.eqvAll, bf]
  · omega
  · exact fun h e => by subst e; exact List.lt_irrefl _ h
theorem strOk_ab {l : List Nat} (h : l = [97] ∨ l = [98]) : PyData.strOk ⟨l.toArray⟩ = true := by
  rcases h with rfl | rfl <;> decide +kernel
theorem key_shaped : ∀ v : Vl, v.ok → SeqAt.shaped v.d = true
  | .n, _ => rfl
  | .i k, _ => rfl
  | .s l, h => by
    unfold SeqAt.shaped
    rw [Bool.and_eq_true]
    refine ⟨?_, decide_eq_true (by show (PyData.depth (.tuple _)) ≤ _; simp [PyData.depth, PyData.depthAll])⟩
    simp [Vl.d, PyData.canLay0, PyData.canLayAll0, strOk_ab h]
/-! ### the promises -/
def sp_key (K : PySem.W.Frag) : Sp := fun vs H Q _ => ∃ v : Vl, vs = [v.v] ∧ ∀ H' p, Same H H' → Dp K H' (.ref p) v.d → Q (.ref p) H'
section
variable {P : Program} {w : World} {K : PySem.W.Frag} {mg : Str → Option Value} {base : Heap}
theorem ok_key {f : Addr} {fd : FuncData} (F : Fun K "value_key" "value_key" s_value_key f fd) (M : Mg mg) : FnOk P w K mg base CX0 1 f fd ["value"] (sp_key K) := by
  refine F.ok sc_value_key (fun vs H Q E h => ?_) (fun cdv A outer s H vs Q E hr h => ?_)
  · obtain ⟨v, rfl, _⟩ := h
    rfl
  · obtain ⟨v, rfl, q⟩ := h
    refine ⟨_, (pss_cons (ps_if (pt_cmpR op_isN (pv 0) pe_non (nomark _)) (pss_one (ps_ret (pe_tup (pa_cons pe_int pa_nil)))) pss_nil)
      (pss_cons (ps_if (pt_val (pe_callB (isiK K) (by rfl) M.isinstance (by decide +kernel) (pa_cons (pv 0) (pa_cons (pe_bltn (v := .ty "int") (by rfl) M.int (by decide +kernel) rfl) pa_nil)))) (pss_one (ps_ret (pe_tup (pa_cons pe_int (pa_cons (pv 0) pa_nil))))) pss_nil)
      (pss_one (ps_ret (pe_tup (pa_cons pe_int (pa_cons (pv 0) pa_nil))))))), ?_⟩
    cases v with
    | n =>
      refine ⟨_, rfl, rfl, _, rfl, iteT ?_⟩
      exact ⟨by show 1 ≤ sizeLine; decide, fun p np => q _ p (same_upd np) (.tup (.of upd_same) (.cons (.int _) .nil))⟩
    | i k =>
      refine ⟨_, rfl, rfl, _, rfl, iteF ?_⟩
      refine ⟨_, rfl, _, _, _, _, _, rfl, .ty _, TyX.base (TyOf.int k), kit_ty (show kitB _ _ = some true by decide +kernel), _, rfl, iteT ?_⟩
      exact ⟨_, rfl, by show 2 ≤ sizeLine; decide, fun p np => q _ p (same_upd np) (.tup (.of upd_same) (.cons (.int _) (.cons (.int _) .nil)))⟩
    | s l =>
      refine ⟨_, rfl, rfl, _, rfl, iteF ?_⟩
      refine ⟨_, rfl, _, _, _, _, _, rfl, .ty _, TyX.base (TyOf.str _), kit_ty (show kitB _ _ = some false by decide +kernel), _, rfl, iteF ?_⟩
      exact ⟨_, rfl, by show 2 ≤ sizeLine; decide, fun p np => q _ p (same_upd np) (.tup (.of upd_same) (.cons (.int _) (.cons (.str _) .nil)))⟩
end

def sp_b1 (f : Vl → Bool) : Sp := fun vs H Q _ => ∃ v : Vl, vs = [v.v] ∧ Q (.bl (f v)) H
def sp_b2 (f : Vl → Vl → Bool) : Sp := fun vs H Q _ => ∃ v w : Vl, vs = [v.v, w.v] ∧ Q (.bl (f v w)) H
def sp_bnd : Sp := fun vs H Q _ => ∃ k : Int, vs = [.int k] ∧ Q (bnd k).v H
def sp_f1 (f : Vl → Vl) : Sp := fun vs H Q _ => ∃ v : Vl, vs = [v.v] ∧ v.ok ∧ Q (f v).v H
def sp_f2 (f : Vl → Vl → Vl) : Sp := fun vs H Q _ => ∃ v w : Vl, vs = [v.v, w.v] ∧ v.ok ∧ w.ok ∧ ∀ H', Same H H' → Q (f v w).v H'
def sp_f3 (f : Vl → Vl → Vl → Vl) : Sp := fun vs H Q _ => ∃ u v w : Vl, vs = [u.v, v.v, w.v] ∧ Q (f u v w).v H
section
variable {P : Program} {w : World} {K : PySem.W.Frag} {mg : Str → Option Value} {base : Heap}
theorem int_eq0 (k : Int) : decide (V.int k = V.int 0) = decide (k = 0) := decide_eq_decide.mpr ⟨V.int.inj, fun z => by rw [z]⟩
theorem ok_istrue {f : Addr} {fd : FuncData} (F : Fun K "is_true" "is_true" s_is_true f fd) (M : Mg mg) : FnOk P w K mg base CX0 1 f fd ["value"] (sp_b1 Vl.tr) := by
  refine F.ok sc_is_true (fun vs H Q E h => ?_) (fun cdv A outer s H vs Q E hr h => ?_)
  · obtain ⟨v, rfl, _⟩ := h
    rfl
  · obtain ⟨v, rfl, q⟩ := h
    refine ⟨_, (pss_one (ps_ret (pe_and (pe_callB (isiK K) (by rfl) M.isinstance (by decide +kernel) (pa_cons (pv 0) (pa_cons (pe_bltn (v := .ty "int") (by rfl) M.int (by decide +kernel) rfl) pa_nil))) (pe_one (pe_cmpR op_ne (pv 0) pe_int (nomark _)))))), ?_⟩
    refine ⟨_, rfl, _, _, _, _, _, rfl, .ty _, v.ty, kit_ty v.kI, _, rfl, ?_⟩
    cases v with
    | n => exact iteF q
    | s l => exact iteF q
    | i k =>
      refine iteT ⟨_, rfl, rfl, ?_⟩
      show Q (V.bl (!decide (V.int k = V.int 0))) H
      rw [int_eq0]
      exact q
theorem ok_isfalse {f : Addr} {fd : FuncData} (F : Fun K "is_false" "is_false" s_is_false f fd) (M : Mg mg) : FnOk P w K mg base CX0 1 f fd ["value"] (sp_b1 Vl.fa) := by
  refine F.ok sc_is_false (fun vs H Q E h => ?_) (fun cdv A outer s H vs Q E hr h => ?_)
  · obtain ⟨v, rfl, _⟩ := h
    rfl
  · obtain ⟨v, rfl, q⟩ := h
    refine ⟨_, (pss_one (ps_ret (pe_and (pe_callB (isiK K) (by rfl) M.isinstance (by decide +kernel) (pa_cons (pv 0) (pa_cons (pe_bltn (v := .ty "int") (by rfl) M.int (by decide +kernel) rfl) pa_nil))) (pe_one (pe_cmpR op_eq (pv 0) pe_int (nomark _)))))), ?_⟩
    refine ⟨_, rfl, _, _, _, _, _, rfl, .ty _, v.ty, kit_ty v.kI, _, rfl, ?_⟩
    cases v with
    | n => exact iteF q
    | s l => exact iteF q
    | i k =>
      refine iteT ⟨_, rfl, rfl, ?_⟩
      show Q (V.bl (decide (V.int k = V.int 0))) H
      rw [int_eq0]
      exact q
theorem ok_areints {f : Addr} {fd : FuncData} (F : Fun K "are_integers" "are_integers" s_are_integers f fd) (M : Mg mg) : FnOk P w K mg base CX0 1 f fd ["first", "second"] (sp_b2 bothI) := by
  refine F.ok sc_are_integers (fun vs H Q E h => ?_) (fun cdv A outer s H vs Q E hr h => ?_)
  · obtain ⟨v, w, rfl, _⟩ := h
    rfl
  · obtain ⟨v, w, rfl, q⟩ := h
    have q : Q (.bl (v.isI && w.isI)) H := q
    refine ⟨_, (pss_one (ps_ret (pe_and (pe_callB (isiK K) (by rfl) M.isinstance (by decide +kernel) (pa_cons (pv 0) (pa_cons (pe_bltn (v := .ty "int") (by rfl) M.int (by decide +kernel) rfl) pa_nil))) (pe_one (pe_callB (isiK K) (by rfl) M.isinstance (by decide +kernel) (pa_cons (pv 1) (pa_cons (pe_bltn (v := .ty "int") (by rfl) M.int (by decide +kernel) rfl) pa_nil))))))), ?_⟩
    refine ⟨_, rfl, _, _, _, _, _, rfl, .ty _, v.ty, kit_ty v.kI, _, rfl, ?_⟩
    cases e : v.isI with
    | false =>
      rw [e] at q
      exact iteF q
    | true =>
      rw [e] at q
      exact iteT ⟨_, rfl, _, _, _, _, _, rfl, .ty _, w.ty, kit_ty w.kI, q⟩
structure Bd15 (K : PySem.W.Frag) (mg : Str → Option Value) : Prop where
  BOUND : ∃ u, mg "BOUND" = some u ∧ RelV (.int BND) u
theorem ok_bnd {f : Addr} {fd : FuncData} (F : Fun K "bounded" "bounded" s_bounded f fd) (M : Mg mg) (G : Bd15 K mg) : FnOk P w K mg base CX0 1 f fd ["number"] sp_bnd := by
  refine F.ok sc_bounded (fun vs H Q E h => ?_) (fun cdv A outer s H vs Q E hr h => ?_)
  · obtain ⟨k, rfl, _⟩ := h
    rfl
  · obtain ⟨k, rfl, q⟩ := h
    refine ⟨_, (pss_one (ps_ret (pe_ifExp (pt_chain op_le op_le (pe_un un_neg (C8.pe_gc (by rfl) G.BOUND)) (pv 0) (C8.pe_gc (by rfl) G.BOUND)) (pv 0) pe_non))), ?_⟩
    unfold bnd at q
    refine ⟨_, rfl, _, rfl, _, _, rfl, rfl, _, rfl, ?_⟩
    by_cases h1 : -BND ≤ k
    · rw [decide_eq_true h1]
      refine iteT ⟨_, _, rfl, rfl, _, rfl, ?_⟩
      by_cases h2 : k ≤ BND
      · rw [if_pos ⟨h1, h2⟩] at q
        rw [decide_eq_true h2]
        exact iteT ⟨_, rfl, q⟩
      · rw [if_neg (fun z => h2 z.2)] at q
        rw [decide_eq_false h2]
        exact iteF q
    · rw [if_neg (fun z => h1 z.1)] at q
      rw [decide_eq_false h1]
      exact iteF ⟨_, rfl, iteF q⟩
end

section
variable {P : Program} {w : World} {K : PySem.W.Frag} {mg : Str → Option Value} {base : Heap}
theorem bd_abs {k : Int} (h : -BND ≤ k ∧ k ≤ BND) : -(2 ^ 60 : Int) < k ∧ k < 2 ^ 60 := by
  unfold BND at h
  omega
theorem ok_neg {f : Addr} {fd : FuncData} (F : Fun K "negate" "negate" s_negate f fd) (M : Mg mg) (c_bounded : Cl P w K mg base 1 "bounded" sp_bnd) : FnOk P w K mg base CX0 2 f fd ["value"] (sp_f1 fNeg) := by
  refine F.ok sc_negate (fun vs H Q E h => ?_) (fun cdv A outer s H vs Q E hr h => ?_)
  · obtain ⟨v, rfl, _⟩ := h
    rfl
  · obtain ⟨v, rfl, hv, q⟩ := h
    refine ⟨_, (pss_one (ps_ret (pe_ifExp (pt_val (pe_callB (isiK K) (by rfl) M.isinstance (by decide +kernel) (pa_cons (pv 0) (pa_cons (pe_bltn (v := .ty "int") (by rfl) M.int (by decide +kernel) rfl) pa_nil)))) (pe_u c_bounded hr (by first | decide | omega) (by rfl) (pa_cons (pe_un un_neg (pv 0)) pa_nil)) pe_non))), ?_⟩
    refine ⟨_, rfl, _, _, _, _, _, rfl, .ty _, v.ty, kit_ty v.kI, _, rfl, ?_⟩
    cases v with
    | n => exact iteF q
    | s l => exact iteF q
    | i k => exact iteT ⟨_, rfl, k, rfl, -k, rfl, q⟩
theorem ok_add {f : Addr} {fd : FuncData} (F : Fun K "add" "add" s_add f fd) (M : Mg mg) (c_bounded : Cl P w K mg base 1 "bounded" sp_bnd) (c_are_integers : Cl P w K mg base 1 "are_integers" (sp_b2 bothI)) : FnOk P w K mg base CX0 2 f fd ["first", "second"] (sp_f2 (ar fun a b => bnd (a + b))) := by
  refine F.ok sc_add (fun vs H Q E h => ?_) (fun cdv A outer s H vs Q E hr h => ?_)
  · obtain ⟨v, w, rfl, _⟩ := h
    rfl
  · obtain ⟨v, w, rfl, hv, hw, q⟩ := h
    refine ⟨_, (pss_one (ps_ret (pe_ifExp (pt_val (pe_u c_are_integers hr (by first | decide | omega) (by rfl) (pa_cons (pv 0) (pa_cons (pv 1) pa_nil)))) (pe_u c_bounded hr (by first | decide | omega) (by rfl) (pa_cons (pe_op op_add (pv 0) (pv 1)) pa_nil)) pe_non))), ?_⟩
    refine ⟨_, rfl, _, rfl, v, w, rfl, _, rfl, ?_⟩
    cases e : bothI v w with
    | false =>
      rw [ar_no e] at q
      exact iteF (q H (.refl H))
    | true =>
      obtain ⟨a, b, rfl, rfl⟩ := ints_of e
      exact iteT ⟨_, rfl, _, rfl, _, _, rfl, rfl, _, rfl, q H (.refl H)⟩
theorem ok_sub {f : Addr} {fd : FuncData} (F : Fun K "subtract" "subtract" s_subtract f fd) (M : Mg mg) (c_bounded : Cl P w K mg base 1 "bounded" sp_bnd) (c_are_integers : Cl P w K mg base 1 "are_integers" (sp_b2 bothI)) : FnOk P w K mg base CX0 2 f fd ["first", "second"] (sp_f2 (ar fun a b => bnd (a - b))) := by
  refine F.ok sc_subtract (fun vs H Q E h => ?_) (fun cdv A outer s H vs Q E hr h => ?_)
  · obtain ⟨v, w, rfl, _⟩ := h
    rfl
  · obtain ⟨v, w, rfl, hv, hw, q⟩ := h
    refine ⟨_, (pss_one (ps_ret (pe_ifExp (pt_val (pe_u c_are_integers hr (by first | decide | omega) (by rfl) (pa_cons (pv 0) (pa_cons (pv 1) pa_nil)))) (pe_u c_bounded hr (by first | decide | omega) (by rfl) (pa_cons (pe_op op_sub (pv 0) (pv 1)) pa_nil)) pe_non))), ?_⟩
    refine ⟨_, rfl, _, rfl, v, w, rfl, _, rfl, ?_⟩
    cases e : bothI v w with
    | false =>
      rw [ar_no e] at q
      exact iteF (q H (.refl H))
    | true =>
      obtain ⟨a, b, rfl, rfl⟩ := ints_of e
      exact iteT ⟨_, rfl, _, rfl, _, _, rfl, rfl, _, rfl, q H (.refl H)⟩
theorem ok_mul {f : Addr} {fd : FuncData} (F : Fun K "multiply" "multiply" s_multiply f fd) (M : Mg mg) (c_bounded : Cl P w K mg base 1 "bounded" sp_bnd) (c_are_integers : Cl P w K mg base 1 "are_integers" (sp_b2 bothI)) : FnOk P w K mg base CX0 2 f fd ["first", "second"] (sp_f2 (ar fun a b => bnd (a * b))) := by
  refine F.ok sc_multiply (fun vs H Q E h => ?_) (fun cdv A outer s H vs Q E hr h => ?_)
  · obtain ⟨v, w, rfl, _⟩ := h
    rfl
  · obtain ⟨v, w, rfl, hv, hw, q⟩ := h
    refine ⟨_, (pss_one (ps_ret (pe_ifExp (pt_val (pe_u c_are_integers hr (by first | decide | omega) (by rfl) (pa_cons (pv 0) (pa_cons (pv 1) pa_nil)))) (pe_u c_bounded hr (by first | decide | omega) (by rfl) (pa_cons (pe_op op_mul (pv 0) (pv 1)) pa_nil)) pe_non))), ?_⟩
    refine ⟨_, rfl, _, rfl, v, w, rfl, _, rfl, ?_⟩
    cases e : bothI v w with
    | false =>
      rw [ar_no e] at q
      exact iteF (q H (.refl H))
    | true =>
      obtain ⟨a, b, rfl, rfl⟩ := ints_of e
      have := bd_abs hv
      exact iteT ⟨_, rfl, _, rfl, _, _, rfl, rfl, .inl ⟨by omega, by omega⟩, _, rfl, q H (.refl H)⟩
theorem ok_div {f : Addr} {fd : FuncData} (F : Fun K "divide" "divide" s_divide f fd) (M : Mg mg) (c_bounded : Cl P w K mg base 1 "bounded" sp_bnd) (c_are_integers : Cl P w K mg base 1 "are_integers" (sp_b2 bothI)) : FnOk P w K mg base CX0 2 f fd ["first", "second"] (sp_f2 fDiv) := by
  refine F.ok sc_divide (fun vs H Q E h => ?_) (fun cdv A outer s H vs Q E hr h => ?_)
  · obtain ⟨v, w, rfl, _⟩ := h
    rfl
  · obtain ⟨v, w, rfl, hv, hw, q⟩ := h
    have q := q H (.refl H)
    refine ⟨_, (pss_cons (ps_if (PW.pt (pw_or (pt_not (pt_val (pe_u c_are_integers hr (by first | decide | omega) (by rfl) (pa_cons (pv 0) (pa_cons (pv 1) pa_nil))))) (pw_or1 (pt_cmpR op_lt (pv 1) pe_int (nomark _))))) (pss_one (ps_ret pe_non)) pss_nil)
      (pss_one (ps_ret (pe_u c_bounded hr (by first | decide | omega) (by rfl) (pa_cons (pe_op op_fdivW (pv 0) (pv 1)) pa_nil))))), ?_⟩
    refine ⟨_, rfl, _, rfl, v, w, rfl, _, rfl, ?_⟩
    unfold fDiv at q
    cases e : bothI v w with
    | false =>
      rw [ar_no e] at q
      refine iteT ?_
      exact iteT q
    | true =>
      obtain ⟨a, b, rfl, rfl⟩ := ints_of e
      refine iteF ⟨_, rfl, _, _, rfl, rfl, _, rfl, ?_⟩
      have q : Q (if b < 1 then Vl.n else bnd (a / b)).v H := q
      by_cases h1 : b < 1
      · rw [if_pos h1] at q
        rw [decide_eq_true h1]
        exact iteT q
      · rw [if_neg h1] at q
        rw [decide_eq_false h1]
        have := bd_abs hw
        exact iteF ⟨_, rfl, _, rfl, _, _, rfl, rfl, wide_div (b := 60) (by omega) (by omega) (by decide) (by decide), _, rfl, q⟩
theorem ok_rem {f : Addr} {fd : FuncData} (F : Fun K "remainder" "remainder" s_remainder f fd) (M : Mg mg) (c_bounded : Cl P w K mg base 1 "bounded" sp_bnd) (c_are_integers : Cl P w K mg base 1 "are_integers" (sp_b2 bothI)) : FnOk P w K mg base CX0 2 f fd ["first", "second"] (sp_f2 fRem) := by
  refine F.ok sc_remainder (fun vs H Q E h => ?_) (fun cdv A outer s H vs Q E hr h => ?_)
  · obtain ⟨v, w, rfl, _⟩ := h
    rfl
  · obtain ⟨v, w, rfl, hv, hw, q⟩ := h
    have q := q H (.refl H)
    refine ⟨_, (pss_cons (ps_if (PW.pt (pw_or (pt_not (pt_val (pe_u c_are_integers hr (by first | decide | omega) (by rfl) (pa_cons (pv 0) (pa_cons (pv 1) pa_nil))))) (pw_or1 (pt_cmpR op_lt (pv 1) pe_int (nomark _))))) (pss_one (ps_ret pe_non)) pss_nil)
      (pss_one (ps_ret (pe_u c_bounded hr (by first | decide | omega) (by rfl) (pa_cons (pe_op op_mod (pv 0) (pv 1)) pa_nil))))), ?_⟩
    refine ⟨_, rfl, _, rfl, v, w, rfl, _, rfl, ?_⟩
    unfold fRem at q
    cases e : bothI v w with
    | false =>
      rw [ar_no e] at q
      refine iteT ?_
      exact iteT q
    | true =>
      obtain ⟨a, b, rfl, rfl⟩ := ints_of e
      refine iteF ⟨_, rfl, _, _, rfl, rfl, _, rfl, ?_⟩
      have q : Q (if b < 1 then Vl.n else bnd (a % b)).v H := q
      by_cases h1 : b < 1
      · rw [if_pos h1] at q
        rw [decide_eq_true h1]
        exact iteT q
      · rw [if_neg h1] at q
        rw [decide_eq_false h1]
        exact iteF ⟨_, rfl, _, rfl, _, _, rfl, rfl, by omega, _, rfl, q⟩
theorem ok_less {f : Addr} {fd : FuncData} (F : Fun K "less" "less" s_less f fd) (M : Mg mg) (c_value_key : Cl P w K mg base 1 "value_key" (sp_key K)) : FnOk P w K mg base CX0 2 f fd ["first", "second"] (sp_f2 (cm bf)) := by
  refine F.ok sc_less (fun vs H Q E h => ?_) (fun cdv A outer s H vs Q E hr h => ?_)
  · obtain ⟨v, w, rfl, _⟩ := h
    rfl
  · obtain ⟨v, w, rfl, hv, hw, q⟩ := h
    refine ⟨_, (pss_cons (ps_if (PW.pt (pw_or (pt_cmpR op_isN (pv 0) pe_non (nomark _)) (pw_or1 (pt_cmpR op_isN (pv 1) pe_non (nomark _))))) (pss_one (ps_ret pe_non)) pss_nil)
      (pss_one (ps_ret (pe_ifExp (pt_cmpR (ltDK K hr.units) (pe_u c_value_key hr (by first | decide | omega) (by rfl) (pa_cons (pv 0) pa_nil)) (pe_u c_value_key hr (by first | decide | omega) (by rfl) (pa_cons (pv 1) pa_nil)) (nomark _)) pe_int pe_int)))), ?_⟩
    unfold cm at q
    refine ⟨_, rfl, rfl, _, rfl, ?_⟩
    rw [v.eN]
    cases e1 : v.isN with
    | true =>
      rw [if_pos e1] at q
      exact iteT (iteT (q H (.refl H)))
    | false =>
      rw [if_neg (by rw [e1]; exact Bool.false_ne_true)] at q
      refine iteF ⟨_, rfl, rfl, _, rfl, ?_⟩
      rw [w.eN]
      cases e2 : w.isN with
      | true =>
        rw [if_pos e2] at q
        exact iteT (q H (.refl H))
      | false =>
        rw [if_neg (by rw [e2]; exact Bool.false_ne_true)] at q
        refine iteF ?_
        refine ⟨_, rfl, v, rfl, fun H1 p s1 d1 => ?_⟩
        refine ⟨_, rfl, w, rfl, fun H2 r s2 d2 => ?_⟩
        refine ⟨_, _, Dp.ext s2 _ _ d1, d2, key_shaped v hv, key_shaped w hw, ok_d v w, _, rfl, ?_⟩
        rw [lt_d]
        have q := q H2 (s1.trans s2)
        unfold one at q
        cases e : bf v w with
        | true =>
          rw [e] at q
          exact iteT q
        | false =>
          rw [e] at q
          exact iteF q
theorem ok_equal {f : Addr} {fd : FuncData} (F : Fun K "equal" "equal" s_equal f fd) (M : Mg mg) (c_value_key : Cl P w K mg base 1 "value_key" (sp_key K)) : FnOk P w K mg base CX0 2 f fd ["first", "second"] (sp_f2 (cm fun v w => decide (v = w))) := by
  refine F.ok sc_equal (fun vs H Q E h => ?_) (fun cdv A outer s H vs Q E hr h => ?_)
  · obtain ⟨v, w, rfl, _⟩ := h
    rfl
  · obtain ⟨v, w, rfl, hv, hw, q⟩ := h
    refine ⟨_, (pss_cons (ps_if (PW.pt (pw_or (pt_cmpR op_isN (pv 0) pe_non (nomark _)) (pw_or1 (pt_cmpR op_isN (pv 1) pe_non (nomark _))))) (pss_one (ps_ret pe_non)) pss_nil)
      (pss_one (ps_ret (pe_ifExp (pt_cmpR (eqDK K hr.units) (pe_u c_value_key hr (by first | decide | omega) (by rfl) (pa_cons (pv 0) pa_nil)) (pe_u c_value_key hr (by first | decide | omega) (by rfl) (pa_cons (pv 1) pa_nil)) (nomark _)) pe_int pe_int)))), ?_⟩
    unfold cm at q
    refine ⟨_, rfl, rfl, _, rfl, ?_⟩
    rw [v.eN]
    cases e1 : v.isN with
    | true =>
      rw [if_pos e1] at q
      exact iteT (iteT (q H (.refl H)))
    | false =>
      rw [if_neg (by rw [e1]; exact Bool.false_ne_true)] at q
      refine iteF ⟨_, rfl, rfl, _, rfl, ?_⟩
      rw [w.eN]
      cases e2 : w.isN with
      | true =>
        rw [if_pos e2] at q
        exact iteT (q H (.refl H))
      | false =>
        rw [if_neg (by rw [e2]; exact Bool.false_ne_true)] at q
        refine iteF ?_
        refine ⟨_, rfl, v, rfl, fun H1 p s1 d1 => ?_⟩
        refine ⟨_, rfl, w, rfl, fun H2 r s2 d2 => ?_⟩
        refine ⟨_, _, Dp.ext s2 _ _ d1, d2, key_shaped v hv, key_shaped w hw, _, rfl, ?_⟩
        rw [eqv_d]
        have q := q H2 (s1.trans s2)
        have q : Q (Vl.i (if decide (v = w) = true then 1 else 0)).v H2 := q
        by_cases e : v = w
        · rw [decide_eq_true e] at q ⊢
          exact iteT q
        · rw [decide_eq_false e] at q ⊢
          exact iteF q
theorem ok_conj {f : Addr} {fd : FuncData} (F : Fun K "conjunction" "conjunction" s_conjunction f fd) (M : Mg mg) (c_is_true : Cl P w K mg base 1 "is_true" (sp_b1 Vl.tr)) (c_is_false : Cl P w K mg base 1 "is_false" (sp_b1 Vl.fa)) : FnOk P w K mg base CX0 2 f fd ["first", "second"] (sp_f2 fAnd) := by
  refine F.ok sc_conjunction (fun vs H Q E h => ?_) (fun cdv A outer s H vs Q E hr h => ?_)
  · obtain ⟨v, w, rfl, _⟩ := h
    rfl
  · obtain ⟨v, w, rfl, hv, hw, q⟩ := h
    have q := q H (.refl H)
    unfold fAnd at q
    refine ⟨_, (pss_cons (ps_if (PW.pt (pw_or (pt_val (pe_u c_is_false hr (by first | decide | omega) (by rfl) (pa_cons (pv 0) pa_nil))) (pw_or1 (pt_val (pe_u c_is_false hr (by first | decide | omega) (by rfl) (pa_cons (pv 1) pa_nil)))))) (pss_one (ps_ret pe_int)) pss_nil)
      (pss_one (ps_ret (pe_ifExp (PW.pt (pw_and (pt_val (pe_u c_is_true hr (by first | decide | omega) (by rfl) (pa_cons (pv 0) pa_nil))) (pw_and1 (pt_val (pe_u c_is_true hr (by first | decide | omega) (by rfl) (pa_cons (pv 1) pa_nil)))))) pe_int pe_non)))), ?_⟩
    refine ⟨_, rfl, v, rfl, _, rfl, ?_⟩
    cases e1 : v.fa with
    | true =>
      rw [e1, Bool.true_or, if_pos rfl] at q
      exact iteT (iteT q)
    | false =>
      rw [e1, Bool.false_or] at q
      refine iteF ⟨_, rfl, w, rfl, _, rfl, ?_⟩
      cases e2 : w.fa with
      | true =>
        rw [e2, if_pos rfl] at q
        exact iteT q
      | false =>
        rw [e2, if_neg Bool.false_ne_true] at q
        refine iteF ⟨_, rfl, v, rfl, _, rfl, ?_⟩
        cases e3 : v.tr with
        | false =>
          rw [e3, Bool.false_and, if_neg Bool.false_ne_true] at q
          exact iteF (iteF q)
        | true =>
          rw [e3, Bool.true_and] at q
          refine iteT ⟨_, rfl, w, rfl, _, rfl, ?_⟩
          cases e4 : w.tr with
          | false =>
            rw [e4, if_neg Bool.false_ne_true] at q
            exact iteF q
          | true =>
            rw [e4, if_pos rfl] at q
            exact iteT q
theorem ok_disj {f : Addr} {fd : FuncData} (F : Fun K "disjunction" "disjunction" s_disjunction f fd) (M : Mg mg) (c_is_true : Cl P w K mg base 1 "is_true" (sp_b1 Vl.tr)) (c_is_false : Cl P w K mg base 1 "is_false" (sp_b1 Vl.fa)) : FnOk P w K mg base CX0 2 f fd ["first", "second"] (sp_f2 fOr) := by
  refine F.ok sc_disjunction (fun vs H Q E h => ?_) (fun cdv A outer s H vs Q E hr h => ?_)
  · obtain ⟨v, w, rfl, _⟩ := h
    rfl
  · obtain ⟨v, w, rfl, hv, hw, q⟩ := h
    have q := q H (.refl H)
    unfold fOr at q
    refine ⟨_, (pss_cons (ps_if (PW.pt (pw_or (pt_val (pe_u c_is_true hr (by first | decide | omega) (by rfl) (pa_cons (pv 0) pa_nil))) (pw_or1 (pt_val (pe_u c_is_true hr (by first | decide | omega) (by rfl) (pa_cons (pv 1) pa_nil)))))) (pss_one (ps_ret pe_int)) pss_nil)
      (pss_one (ps_ret (pe_ifExp (PW.pt (pw_and (pt_val (pe_u c_is_false hr (by first | decide | omega) (by rfl) (pa_cons (pv 0) pa_nil))) (pw_and1 (pt_val (pe_u c_is_false hr (by first | decide | omega) (by rfl) (pa_cons (pv 1) pa_nil)))))) pe_int pe_non)))), ?_⟩
    refine ⟨_, rfl, v, rfl, _, rfl, ?_⟩
    cases e1 : v.tr with
    | true =>
      rw [e1, Bool.true_or, if_pos rfl] at q
      exact iteT (iteT q)
    | false =>
      rw [e1, Bool.false_or] at q
      refine iteF ⟨_, rfl, w, rfl, _, rfl, ?_⟩
      cases e2 : w.tr with
      | true =>
        rw [e2, if_pos rfl] at q
        exact iteT q
      | false =>
        rw [e2, if_neg Bool.false_ne_true] at q
        refine iteF ⟨_, rfl, v, rfl, _, rfl, ?_⟩
        cases e3 : v.fa with
        | false =>
          rw [e3, Bool.false_and, if_neg Bool.false_ne_true] at q
          exact iteF (iteF q)
        | true =>
          rw [e3, Bool.true_and] at q
          refine iteT ⟨_, rfl, w, rfl, _, rfl, ?_⟩
          cases e4 : w.fa with
          | false =>
            rw [e4, if_neg Bool.false_ne_true] at q
            exact iteF q
          | true =>
            rw [e4, if_pos rfl] at q
            exact iteT q
theorem ok_not {f : Addr} {fd : FuncData} (F : Fun K "negation" "negation" s_negation f fd) (M : Mg mg) (c_is_true : Cl P w K mg base 1 "is_true" (sp_b1 Vl.tr)) (c_is_false : Cl P w K mg base 1 "is_false" (sp_b1 Vl.fa)) : FnOk P w K mg base CX0 2 f fd ["value"] (sp_f1 fNot) := by
  refine F.ok sc_negation (fun vs H Q E h => ?_) (fun cdv A outer s H vs Q E hr h => ?_)
  · obtain ⟨v, rfl, _⟩ := h
    rfl
  · obtain ⟨v, rfl, hv, q⟩ := h
    unfold fNot at q
    refine ⟨_, (pss_cons (ps_if (pt_val (pe_u c_is_false hr (by first | decide | omega) (by rfl) (pa_cons (pv 0) pa_nil))) (pss_one (ps_ret pe_int)) pss_nil)
      (pss_one (ps_ret (pe_ifExp (pt_val (pe_u c_is_true hr (by first | decide | omega) (by rfl) (pa_cons (pv 0) pa_nil))) pe_int pe_non)))), ?_⟩
    refine ⟨_, rfl, v, rfl, _, rfl, ?_⟩
    cases e1 : v.fa with
    | true =>
      rw [e1, if_pos rfl] at q
      exact iteT q
    | false =>
      rw [e1, if_neg Bool.false_ne_true] at q
      refine iteF ⟨_, rfl, v, rfl, _, rfl, ?_⟩
      cases e2 : v.tr with
      | true =>
        rw [e2, if_pos rfl] at q
        exact iteT q
      | false =>
        rw [e2, if_neg Bool.false_ne_true] at q
        exact iteF q
theorem ok_mis {f : Addr} {fd : FuncData} (F : Fun K "missing" "missing" s_missing f fd) (M : Mg mg) : FnOk P w K mg base CX0 2 f fd ["value"] (sp_f1 fun v => one v.isN) := by
  refine F.ok sc_missing (fun vs H Q E h => ?_) (fun cdv A outer s H vs Q E hr h => ?_)
  · obtain ⟨v, rfl, _⟩ := h
    rfl
  · obtain ⟨v, rfl, hv, q⟩ := h
    refine ⟨_, (pss_one (ps_ret (pe_ifExp (pt_cmpR op_isN (pv 0) pe_non (nomark _)) pe_int pe_int))), ?_⟩
    refine ⟨_, rfl, rfl, _, rfl, ?_⟩
    rw [v.eN]
    have q : Q (one v.isN).v H := q
    cases e : v.isN with
    | true =>
      rw [e] at q
      exact iteT q
    | false =>
      rw [e] at q
      exact iteF q
theorem ok_choose {f : Addr} {fd : FuncData} (F : Fun K "choose" "choose" s_choose f fd) (M : Mg mg) (c_is_true : Cl P w K mg base 1 "is_true" (sp_b1 Vl.tr)) : FnOk P w K mg base CX0 2 f fd ["condition", "first", "second"] (sp_f3 fun u v w => if u.tr = true then v else w) := by
  refine F.ok sc_choose (fun vs H Q E h => ?_) (fun cdv A outer s H vs Q E hr h => ?_)
  · obtain ⟨u, v, w, rfl, _⟩ := h
    rfl
  · obtain ⟨u, v, w, rfl, q⟩ := h
    refine ⟨_, (pss_one (ps_ret (pe_ifExp (pt_val (pe_u c_is_true hr (by first | decide | omega) (by rfl) (pa_cons (pv 0) pa_nil))) (pv 1) (pv 2)))), ?_⟩
    refine ⟨_, rfl, u, rfl, _, rfl, ?_⟩
    have q : Q (if u.tr = true then v else w).v H := q
    cases e : u.tr with
    | true =>
      rw [e, if_pos rfl] at q
      exact iteT ⟨_, rfl, q⟩
    | false =>
      rw [e, if_neg Bool.false_ne_true] at q
      exact iteF ⟨_, rfl, q⟩
theorem ok_length {f : Addr} {fd : FuncData} (F : Fun K "length" "length" s_length f fd) (M : Mg mg) : FnOk P w K mg base CX0 2 f fd ["value"] (sp_f1 fLen) := by
  refine F.ok sc_length (fun vs H Q E h => ?_) (fun cdv A outer s H vs Q E hr h => ?_)
  · obtain ⟨v, rfl, _⟩ := h
    rfl
  · obtain ⟨v, rfl, hv, q⟩ := h
    refine ⟨_, (pss_one (ps_ret (pe_ifExp (pt_val (pe_callB (isiK K) (by rfl) M.isinstance (by decide +kernel) (pa_cons (pv 0) (pa_cons (pe_bltn (v := .ty "str") (by rfl) M.str (by decide +kernel) rfl) pa_nil)))) (pe_callB call_len_str (by rfl) M.len PySem.boot_len (pa_cons (pv 0) pa_nil)) pe_non))), ?_⟩
    refine ⟨_, rfl, _, _, _, _, _, rfl, .ty _, v.ty, kit_ty v.kS, _, rfl, ?_⟩
    cases v with
    | n => exact iteF q
    | i k => exact iteF q
    | s l =>
      have hl : l.length = 1 := by rcases hv with rfl | rfl <;> rfl
      refine iteT ⟨_, rfl, _, rfl, by rw [S_len', hl]; decide, ?_⟩
      rw [S_len']
      exact q
theorem sta_ab {l m : List Nat} (hl : l = [97] ∨ l = [98]) (hm : m = [97] ∨ m = [98]) : Txt.startswith ⟨l.toArray⟩ ⟨m.toArray⟩ = m.isPrefixOf l := by
  rcases hl with rfl | rfl <;> rcases hm with rfl | rfl <;> decide +kernel
theorem ok_starts {f : Addr} {fd : FuncData} (F : Fun K "starts" "starts" s_starts f fd) (M : Mg mg) : FnOk P w K mg base CX0 2 f fd ["first", "second"] (sp_f2 fSta) := by
  refine F.ok sc_starts (fun vs H Q E h => ?_) (fun cdv A outer s H vs Q E hr h => ?_)
  · obtain ⟨v, w, rfl, _⟩ := h
    rfl
  · obtain ⟨v, w, rfl, hv, hw, q⟩ := h
    have q := q H (.refl H)
    refine ⟨_, (pss_cons (ps_if (PW.pt (pw_or (pt_not (pt_val (pe_callB (isiK K) (by rfl) M.isinstance (by decide +kernel) (pa_cons (pv 0) (pa_cons (pe_bltn (v := .ty "str") (by rfl) M.str (by decide +kernel) rfl) pa_nil))))) (pw_or1 (pt_not (pt_val (pe_callB (isiK K) (by rfl) M.isinstance (by decide +kernel) (pa_cons (pv 1) (pa_cons (pe_bltn (v := .ty "str") (by rfl) M.str (by decide +kernel) rfl) pa_nil)))))))) (pss_one (ps_ret pe_non)) pss_nil)
      (pss_one (ps_ret (pe_ifExp (pt_val (pe_bmK K PySem.F.plainAttrs_str PySem.F.slot_str_startswith PySem.F.type_str_startswith mt_startswith (pv 0) (pa_cons (pv 1) pa_nil))) pe_int pe_int)))), ?_⟩
    refine ⟨_, rfl, _, _, _, _, _, rfl, .ty _, v.ty, kit_ty v.kS, _, rfl, ?_⟩
    cases v with
    | n => exact iteT (iteT q)
    | i k => exact iteT (iteT q)
    | s l =>
      refine iteF ⟨_, rfl, _, _, _, _, _, rfl, .ty _, w.ty, kit_ty w.kS, _, rfl, ?_⟩
      cases w with
      | n => exact iteT q
      | i k => exact iteT q
      | s m =>
        refine iteF ?_
        refine ⟨_, rfl, rfl, _, rfl, _, _, rfl, rfl, _, rfl, ?_⟩
        rw [sta_ab hv hw]
        have q : Q (one (m.isPrefixOf l)).v H := q
        unfold one at q
        cases e : m.isPrefixOf l with
        | true =>
          rw [e] at q
          exact iteT q
        | false =>
          rw [e] at q
          exact iteF q
end

/-- a def as a value, and its promise -/
structure Hd (P : Program) (w : World) (K : PySem.W.Frag) (mg : Str → Option Value) (base : Heap) (k : Nat) (f : Addr) (sp : Sp) : Prop where
  ex : ∃ (fd : FuncData) (ps : List Str), FnOk P w K mg base CX0 k f fd ps sp ∧ PySem.W.keepIn K (.ref f) = true ∧ Binds K fd ps []
theorem Cl.hd {P : Program} {w : World} {K : PySem.W.Frag} {mg : Str → Option Value} {base : Heap} {k : Nat} {x : Str} {sp : Sp} (c : Cl P w K mg base k x sp) : ∃ f, mg x = some (.ref f) ∧ Hd P w K mg base k f sp := by
  obtain ⟨f, fd, ps, F, hm, kp, b⟩ := c.ex
  exact ⟨f, hm, fd, ps, F, kp, b⟩
/-! ### expressions of plans -/
inductive Wu where
  | neg | not | mis | len
inductive Wb where
  | add | sub | mul | div | rem | les | equ | and | or | sta
def Wu.s : Wu → String
  | neg => "negate"
  | not => "not"
  | mis => "missing"
  | len => "length"
def Wb.s : Wb → String
  | add => "add"
  | sub => "subtract"
  | mul => "multiply"
  | div => "divide"
  | rem => "remainder"
  | les => "less"
  | equ => "equal"
  | and => "and"
  | or => "or"
  | sta => "starts"
def Wu.f : Wu → Vl → Vl
  | neg => fNeg
  | not => fNot
  | mis => fun v => one v.isN
  | len => fLen
def Wb.f : Wb → Vl → Vl → Vl
  | add => ar fun a b => bnd (a + b)
  | sub => ar fun a b => bnd (a - b)
  | mul => ar fun a b => bnd (a * b)
  | div => fDiv
  | rem => fRem
  | les => cm bf
  | equ => cm fun v w => decide (v = w)
  | and => fAnd
  | or => fOr
  | sta => fSta
inductive Ep where
  | col (i : Nat)
  | con (v : Vl)
  | un (w : Wu) (a : Ep)
  | bi (w : Wb) (a b : Ep)
  | ch (c a b : Ep)
def Ep.d : Ep → PyData
  | col i => .tuple [.str "column", .int (i : Nat)]
  | con v => .tuple [.str "constant", v.p]
  | un w a => .tuple [.str (Str.ofString w.s), a.d]
  | bi w a b => .tuple [.str (Str.ofString w.s), a.d, b.d]
  | ch c a b => .tuple [.str "choose", c.d, a.d, b.d]
def Ep.ht : Ep → Nat
  | col _ => 0
  | con _ => 0
  | un _ a => a.ht + 1
  | bi _ a b => max a.ht b.ht + 1
  | ch c a b => max c.ht (max a.ht b.ht) + 1
def Ep.ok (n : Nat) : Ep → Prop
  | col i => i < n
  | con v => v.ok
  | un _ a => a.ok n
  | bi _ a b => a.ok n ∧ b.ok n
  | ch c a b => c.ok n ∧ a.ok n ∧ b.ok n
def Ep.ev (r : List Vl) : Ep → Vl
  | col i => r.getD i .n
  | con v => v
  | un w a => w.f (a.ev r)
  | bi w a b => w.f (a.ev r) (b.ev r)
  | ch c a b => if (c.ev r).tr = true then a.ev r else b.ev r
def Ep.args : Ep → List Ep
  | un _ a => [a]
  | bi _ a b => [a, b]
  | ch c a b => [c, a, b]
  | _ => []
def Ep.wd : Ep → String
  | col _ => "column"
  | con _ => "constant"
  | un w _ => w.s
  | bi w _ _ => w.s
  | ch _ _ _ => "choose"
def Ep.op : Ep → Bool
  | col _ => false
  | con _ => false
  | _ => true
def Ep.ap : Ep → List Vl → Vl
  | un w _, [v] => w.f v
  | bi w _ _, [v, u] => w.f v u
  | ch _ _ _, [c, v, u] => if c.tr = true then v else u
  | _, _ => .n
theorem Ep.d_op {e : Ep} (h : e.op = true) : e.d = .tuple (.str (Str.ofString e.wd) :: e.args.map Ep.d) := by
  cases e with
  | col i => cases h
  | con v => cases h
  | un w a => rfl
  | bi w a b => rfl
  | ch c a b => rfl
theorem Ep.ev_op {e : Ep} (h : e.op = true) (r : List Vl) : e.ap (e.args.map (Ep.ev r)) = e.ev r := by
  cases e with
  | col i => cases h
  | con v => cases h
  | un w a => rfl
  | bi w a b => rfl
  | ch c a b => rfl
theorem Ep.args_ok {e : Ep} {n : Nat} (h : e.ok n) : ∀ a ∈ e.args, a.ok n ∧ a.ht < e.ht := by
  intro x hx
  cases e with
  | col i => cases hx
  | con v => cases hx
  | un w a =>
    rw [List.mem_singleton.mp hx]
    exact ⟨h, Nat.lt_succ_self _⟩
  | bi w a b =>
    have e2 : (Ep.bi w a b).ht = max a.ht b.ht + 1 := rfl
    rcases List.mem_cons.mp hx with rfl | hx
    · exact ⟨h.1, by omega⟩
    · rw [List.mem_singleton.mp hx]
      exact ⟨h.2, by omega⟩
  | ch c a b =>
    have e2 : (Ep.ch c a b).ht = max c.ht (max a.ht b.ht) + 1 := rfl
    rcases List.mem_cons.mp hx with rfl | hx
    · exact ⟨h.1, by omega⟩
    · rcases List.mem_cons.mp hx with rfl | hx
      · exact ⟨h.2.1, by omega⟩
      · rw [List.mem_singleton.mp hx]
        exact ⟨h.2.2, by omega⟩
theorem Wu.f_ok (w : Wu) {v : Vl} (h : v.ok) : (w.f v).ok := by
  cases w with
  | neg => cases v <;> first | exact bnd_ok _ | trivial
  | not =>
    show (fNot v).ok
    unfold fNot
    split
    · exact one_ok _
    · split
      · exact one_ok _
      · trivial
  | mis => exact one_ok _
  | len =>
    cases v with
    | n => trivial
    | i k => trivial
    | s l =>
      have hl : l.length = 1 := by rcases h with rfl | rfl <;> rfl
      show -BND ≤ ((l.length : Nat) : Int) ∧ ((l.length : Nat) : Int) ≤ BND
      rw [hl]
      decide
theorem ar_ok {g : Int → Int → Vl} (h : ∀ a b, (g a b).ok) : ∀ v w : Vl, (ar g v w).ok
  | .i a, .i b => h a b
  | .n, _ => trivial
  | .s _, _ => trivial
  | .i _, .n => trivial
  | .i _, .s _ => trivial
theorem Wb.f_ok (w : Wb) (v u : Vl) : (w.f v u).ok := by
  cases w with
  | add => exact ar_ok (fun _ _ => bnd_ok _) v u
  | sub => exact ar_ok (fun _ _ => bnd_ok _) v u
  | mul => exact ar_ok (fun _ _ => bnd_ok _) v u
  | div => exact ar_ok (fun a b => by split; trivial; exact bnd_ok _) v u
  | rem => exact ar_ok (fun a b => by split; trivial; exact bnd_ok _) v u
  | les =>
    show (cm bf v u).ok
    unfold cm
    split
    · trivial
    · split
      · trivial
      · exact one_ok _
  | equ =>
    show (cm (fun v w => decide (v = w)) v u).ok
    unfold cm
    split
    · trivial
    · split
      · trivial
      · exact one_ok _
  | and =>
    show (fAnd v u).ok
    unfold fAnd
    split
    · exact one_ok _
    · split
      · exact one_ok _
      · trivial
  | or =>
    show (fOr v u).ok
    unfold fOr
    split
    · exact one_ok _
    · split
      · exact one_ok _
      · trivial
  | sta =>
    show (fSta v u).ok
    cases v with
    | n => trivial
    | i k => trivial
    | s l =>
      cases u with
      | n => trivial
      | i k => trivial
      | s m => exact one_ok _
theorem Ep.ev_ok {r : List Vl} (hr : ∀ v ∈ r, v.ok) : ∀ {e : Ep}, e.ok r.length → (e.ev r).ok
  | col i, h => by
    have h : i < r.length := h
    show (r.getD i .n).ok
    rw [List.getD_eq_getElem?_getD, List.getElem?_eq_getElem h]
    exact hr _ (List.getElem_mem h)
  | con v, h => h
  | un w a, h => w.f_ok (ev_ok (e := a) hr h)
  | bi w a b, h => w.f_ok _ _
  | ch c a b, h => by
    show (if (c.ev r).tr = true then a.ev r else b.ev r).ok
    split
    · exact ev_ok (e := a) hr h.2.1
    · exact ev_ok (e := b) hr h.2.2
/-! ### the program's evaluate -/
def sp_op (e : Ep) : Sp := fun vs H Q _ => ∃ us : List Vl, vs = us.map Vl.v ∧ us.length = e.args.length ∧ (∀ u ∈ us, u.ok) ∧ ∀ H', Same H H' → Q (e.ap us).v H'
def sp_eval (K : PySem.W.Frag) (n : Nat) : Sp := fun vs H Q _ => ∃ (p : V) (a : Addr) (e : Ep) (r : List Vl), vs = [p, .ref a] ∧ Dp K H p e.d ∧ SqT K H a (r.map Vl.v) ∧ e.ok r.length ∧ (∀ v ∈ r, v.ok) ∧ e.ht < n ∧ ∀ H', Same H H' → Q (e.ev r).v H'
def tCallHS (P : Program) (w : World) (K : PySem.W.Frag) (mg : Str → Option Value) (base : Heap) (k i : Nat) (te : TE) : TE := fun σ H Q => ∃ f sp, σ[i]? = some (some (.ref f)) ∧ Hd P w K mg base k f sp ∧ te σ H fun y H1 => ∃ a xs, y = V.ref a ∧ SqL K H1 a xs ∧ sp xs H1 Q E0
section
variable {X : Cx} {k j i : Nat} {x : Str} {p sp_ pos : Pos} {e : Expr} {te : TE}
/-- f(*xs), f a local name -/
theorem pe_callLS (hr : Room j X.A) (hk : k ≤ j) (hN : X.N[i]? = some x) (hv : Vis X.env.scope x) (he : PE X e te) (hdb : (x == ("__debug__" : Str)) = false := by decide) (hcd : (x == ("__classdict__" : Str)) = false := by decide)
    (hst : starEach [.Starred e sp_] X.env = [(true, eval e X.env)] := by rfl) : PE X (.Call (.Name x p) [.Starred e sp_] [] pos) (tCallHS X.prog X.w X.K X.mg X.base k i te) := by
  refine ⟨fun pins s σ H Q I h => ?_⟩
  obtain ⟨f, sp, hs, ⟨fd, ps, F, kp, b⟩, ht⟩ := h
  refine wpAny_Call_Name_kw (thn ((pe_var (pos := p) hN hv hdb hcd).run pins s σ H (fun v H1 => v = .ref f ∧ H1 = H) I ⟨.ref f, hs, rfl, rfl⟩) fun u s1 ⟨v, H1, I1, r1, q1⟩ => ?_)
  obtain ⟨rfl, rfl⟩ := q1
  cases r1
  refine PySem.W.callWith_S (h₀ := X.base) I.ok.mod.kin kp (thn (he.run pins s1 σ _ _ I1 ht) fun v s2 ⟨y, H2, I2, ry, a, xs, ey, hxs, q⟩ => ?_) hst
  subst ey
  obtain rfl : v = Value.ref a := ry
  exact StX.star_any I2 (.inr hxs) fun us s3 I3 rv => ⟨I3.kIn, run_fn (dvs := []) F (hr.mono hk) b .nil pass0 I3 rv (by rw [List.append_nil]; exact q)⟩
end
theorem imp_un {o : Wu} {a : Ep} : ∀ vs H Q E, sp_op (.un o a) vs H Q E → sp_f1 o.f vs H Q E := by
  rintro vs H Q E ⟨us, rfl, hl, ho, q⟩
  match us, hl with
  | [u], _ => exact ⟨u, rfl, ho u List.mem_cons_self, q H (.refl H)⟩
theorem imp_bi {o : Wb} {a b : Ep} : ∀ vs H Q E, sp_op (.bi o a b) vs H Q E → sp_f2 o.f vs H Q E := by
  rintro vs H Q E ⟨us, rfl, hl, ho, q⟩
  match us, hl with
  | [u, v], _ => exact ⟨u, v, rfl, ho u List.mem_cons_self, ho v (List.mem_cons_of_mem _ List.mem_cons_self), q⟩
theorem imp_ch {c a b : Ep} : ∀ vs H Q E, sp_op (.ch c a b) vs H Q E → sp_f3 (fun u v w => if u.tr = true then v else w) vs H Q E := by
  rintro vs H Q E ⟨us, rfl, hl, ho, q⟩
  match us, hl with
  | [u, v, w], _ => exact ⟨u, v, w, rfl, q H (.refl H)⟩
structure OpG (P : Program) (w : World) (K : PySem.W.Frag) (mg : Str → Option Value) (base : Heap) (kk : Nat) (aO : Addr) (eO : Array DictEntry) (nO : Nat) : Prop where
  OPERATIONS_values : ∃ u, mg "OPERATIONS_values" = some u ∧ RelV (.ref aO) u
  OPERATIONS_values_D : KDict K w aO eO nO
  hit : ∀ e : Ep, e.op = true → ∃ f, PySem.W.nsIn K aO (Str.ofString e.wd) = some (some (.ref f)) ∧ Hd P w K mg base kk f (sp_op e)
section
variable {P : Program} {w : World} {K : PySem.W.Frag} {mg : Str → Option Value} {base : Heap}
theorem wu_lf (w : Wu) : (Str.ofString w.s == Str.ofString "column") = false ∧ (Str.ofString w.s == Str.ofString "constant") = false := by cases w <;> exact ⟨by decide +kernel, by decide +kernel⟩
theorem wb_lf (w : Wb) : (Str.ofString w.s == Str.ofString "column") = false ∧ (Str.ofString w.s == Str.ofString "constant") = false := by cases w <;> exact ⟨by decide +kernel, by decide +kernel⟩
theorem ch_lf : (Str.ofString "choose" == Str.ofString "column") = false ∧ (Str.ofString "choose" == Str.ofString "constant") = false := ⟨by decide +kernel, by decide +kernel⟩
theorem wd_op {e : Ep} (h : e.op = true) : (Str.ofString e.wd == Str.ofString "column") = false ∧ (Str.ofString e.wd == Str.ofString "constant") = false := by
  cases e with
  | col i => cases h
  | con v => cases h
  | un w a => exact wu_lf w
  | bi w a b => exact wb_lf w
  | ch c a b => exact ch_lf
theorem ok_eval (n : Nat) {kk : Nat} {aO : Addr} {eO : Array DictEntry} {nO : Nat} {f : Addr} {fd : FuncData} (F : Fun K "evaluate" "evaluate" s_evaluate f fd) (M : Mg mg) (G : OpG P w K mg base kk aO eO nO) (hkk : kk ≤ n + 2) (c_evaluate : Cl P w K mg base (n + 2) "evaluate" (sp_eval K n)) : FnOk P w K mg base CX0 (n + 3) f fd ["expression", "row"] (sp_eval K (n + 1)) := by
  refine F.ok sc_evaluate (fun vs H Q E h => ?_) (fun cdv A outer s H vs Q E hr h => ?_)
  · obtain ⟨p, a, e, r, rfl, _⟩ := h
    rfl
  · obtain ⟨p, a, e, r, rfl, dp, hS, ok, hr0, ht, q⟩ := h
    refine ⟨_, (pss_cons (ps_set (i := 2) sc_evaluate.nd rfl (.inl rfl) (pe_ix (ix_tupK K) (pv 0) pe_int (fun _ _ => rfl)))
      (pss_cons (ps_if (pt_cmpR op_eq (pv 2) pe_str (nomark _)) (pss_one (ps_ret (pe_ix (ix_tupK K) (pv 1) (pe_ix (ix_tupK K) (pv 0) pe_int (fun _ _ => rfl)) (fun _ _ => rfl)))) pss_nil)
      (pss_cons (ps_if (pt_cmpR op_eq (pv 2) pe_str (nomark _)) (pss_one (ps_ret (pe_ix (ix_tupK K) (pv 0) pe_int (fun _ _ => rfl)))) pss_nil)
      (pss_cons (ps_set (i := 3) sc_evaluate.nd rfl (.inl rfl) (pe_ix ix_kdict (C8.pe_gc (by rfl) G.OPERATIONS_values) (pv 2) (fun _ _ => rfl)))
      (pss_cons (ps_setLc (i := 4) (own := [("part", 5)]) (g := gName 5) (tt := tYes) rfl sc_evaluate.nd rfl rfl (sw_true rfl rfl rfl (by decide +kernel)) (pi_tup (pe_slice sl_tup (pv 0) (po_some pe_int) po_none)) (blkOk_by (N := N_evaluate) (sc := defScope s_evaluate) (by decide +kernel)) (fun _ _ _ _ _ => (pg_name (i := 5) sc_evaluate.nd rfl (.inl rfl))) (fun _ _ _ _ _ => pts_nil) (fun _ _ _ _ _ => (pe_u c_evaluate hr (by first | decide | omega) (by rfl) (pa_cons (pv 5) (pa_cons (pv 1) pa_nil)))))
      (pss_one (ps_ret (pe_callLS (k := kk) hr (by first | decide | omega) (i := 3) rfl (.inl rfl) (pv 4))))))))), ?_⟩
    by_cases hop : e.op = true
    · have q := q
      rw [Ep.d_op hop] at dp
      obtain ⟨b, xs, rfl, hb, hx⟩ := dp_tup dp
      obtain ⟨vs, rfl, h2⟩ : ∃ vs, xs = .str (Str.ofString e.wd) :: vs ∧ DpAll K H vs (e.args.map Ep.d) := by
        cases hx with
        | cons h1 h2 => cases h1; exact ⟨_, rfl, h2⟩
      obtain ⟨w1, w2⟩ := wd_op hop
      obtain ⟨fo, hns, hd⟩ := G.hit e hop
      have hvs : vs.length = e.args.length := by rw [DpAll.len h2, List.length_map]
      refine ⟨_, rfl, b, _, _, _, rfl, rfl, hb, atI_nat (j := 0) rfl, ?_⟩
      refine ⟨_, rfl, rfl, _, rfl, ?_⟩
      rw [wne _ _ w1]
      refine iteF ⟨_, rfl, rfl, _, rfl, ?_⟩
      rw [wne _ _ w2]
      refine iteF ?_
      refine ⟨_, rfl, aO, _, .ref fo, rfl, rfl, ⟨eO, nO, _, G.OPERATIONS_values_D.1, G.OPERATIONS_values_D.2, hns, rfl⟩, ?_⟩
      refine ⟨_, rfl, _, rfl, b, _, rfl, hb, by show ¬ (1 = 0 ∧ _); exact fun z => absurd z.1 (by decide), fun D1 nD1 => ?_⟩
      have hcut : cutV (V.str (Str.ofString e.wd) :: vs) (some 1) none = vs := by
        show ((V.str (Str.ofString e.wd) :: vs).drop 1).take (vs.length + 1 - 1) = vs
        simp
      rw [hcut]
      have s1 := same_upd nD1 (o := .tup vs)
      have hT : SqT K (upd H D1 (.tup vs)) D1 vs := .inl (.inl upd_same)
      generalize upd H D1 (.tup vs) = H1 at s1 hT
      refine ⟨D1, rfl, ⟨_, hT⟩, fun D nD => ?_⟩
      refine lc_tup (K := K) (a := D1) (xs := vs) (fun i Hi => Same H1 Hi ∧ Hi D = some (.lst (((e.args.take i).map (Ep.ev r)).map Vl.v))) ⟨same_upd nD, upd_same⟩ (fun i Hi _ hp => SqT.ext hp.1 hT) (fun i x Hi hx hp => ?_) (fun Hn hp => ?_)
      · obtain ⟨si, eD⟩ := hp
        have hi : i < vs.length := (List.getElem?_eq_some_iff.mp hx).1
        have hie : i < e.args.length := by omega
        obtain ⟨x', hx', dx⟩ := DpAll.get (i := i) (d := (e.args[i]).d) h2 (by rw [List.getElem?_map, List.getElem?_eq_getElem hie]; rfl)
        obtain rfl : x = x' := Option.some.inj (hx.symm.trans hx')
        obtain ⟨xok, xht⟩ := Ep.args_ok ok _ (List.getElem_mem hie)
        refine ⟨rfl, ?_⟩
        refine ⟨_, rfl, _, rfl, x, a, e.args[i], r, rfl, Dp.ext (s1.trans si) _ _ dx, SqT.ext (s1.trans si) hS, xok, hr0, by omega, fun H' s' => ?_⟩
        have l3 : e.args.length ≤ 3 := by
          cases e <;> simp [Ep.args]
        refine ⟨_, s' _ _ eD, ?_, ?_, ?_⟩
        · rw [List.length_map, List.length_map, List.length_take]
          exact Nat.lt_of_lt_of_le (m := 1001) (by omega) (by decide)
        · intro b o z
          have nb : b ≠ D := ne_of_none z nD
          rw [upd_ne nb]
          exact s' _ _ (si _ _ z)
        · rw [upd_same, List.take_add_one, List.getElem?_eq_getElem hie, List.map_append, List.map_append]
          rfl
      · obtain ⟨sn, eD⟩ := hp
        rw [hvs, List.take_length] at eD
        refine ⟨fo, _, rfl, hd, _, rfl, D, _, rfl, .of eD, e.args.map (Ep.ev r), rfl, by rw [List.length_map], fun u hu => ?_, fun H' s' => ?_⟩
        · obtain ⟨x, hx, rfl⟩ := List.mem_map.mp hu
          exact Ep.ev_ok hr0 (Ep.args_ok ok x hx).1
        · rw [Ep.ev_op hop]
          exact q H' ((s1.trans sn).trans s')
    · cases e with
      | col i =>
        have ok : i < r.length := ok
        obtain ⟨b, xs, rfl, hb, hx⟩ := dp_tup dp
        obtain ⟨u, rfl, hu⟩ := dp_two hx
        cases hu
        refine ⟨_, rfl, b, _, _, _, rfl, rfl, hb, atI_nat (j := 0) rfl, ?_⟩
        refine ⟨_, rfl, rfl, _, rfl, ?_⟩
        rw [weq]
        refine iteT ⟨_, rfl, _, rfl, b, _, _, _, rfl, rfl, hb, atI_nat (j := 1) rfl, a, _, _, (r[i]).v, rfl, rfl, hS, atI_nat (by rw [List.getElem?_map, List.getElem?_eq_getElem ok]; rfl), ?_⟩
        have q := q H (.refl H)
        have e2 : (Ep.col i).ev r = r[i] := by
          show r.getD i .n = _
          rw [List.getD_eq_getElem?_getD, List.getElem?_eq_getElem ok]
          rfl
        rw [e2] at q
        exact q
      | con v =>
        obtain ⟨b, xs, rfl, hb, hx⟩ := dp_tup dp
        obtain ⟨u, rfl, hu⟩ := dp_two hx
        have eu : u = v.v := by
          cases v with
          | n => cases hu; rfl
          | i k => cases hu; rfl
          | s l => cases hu; rfl
        subst eu
        refine ⟨_, rfl, b, _, _, _, rfl, rfl, hb, atI_nat (j := 0) rfl, ?_⟩
        refine ⟨_, rfl, rfl, _, rfl, ?_⟩
        rw [wne "constant" "column" (by decide +kernel)]
        refine iteF ⟨_, rfl, rfl, _, rfl, ?_⟩
        rw [weq]
        exact iteT ⟨_, rfl, b, _, _, _, rfl, rfl, hb, atI_nat (j := 1) rfl, q H (.refl H)⟩
      | un w a => exact absurd rfl hop
      | bi w a b => exact absurd rfl hop
      | ch c a b => exact absurd rfl hop
theorem cl_eval {kk : Nat} {aO : Addr} {eO : Array DictEntry} {nO : Nat} {f : Addr} {fd : FuncData} (F : Fun K "evaluate" "evaluate" s_evaluate f fd) (M : Mg mg) (G : OpG P w K mg base kk aO eO nO) (hkk : kk ≤ 2) (g : mg "evaluate" = some (.ref f)) (b : Binds K fd ["expression", "row"] []) : ∀ n, Cl P w K mg base (n + 2) "evaluate" (sp_eval K n)
  | 0 => FnOk.cl (F.ok (k := 1) sc_evaluate (fun vs H Q E h => by obtain ⟨p, a, e, r, rfl, _⟩ := h; rfl) (fun cdv A outer s H vs Q E hr h => by obtain ⟨p, a, e, r, rfl, _, _, _, _, hm, _⟩ := h; omega)) F g b
  | n + 1 => FnOk.cl (ok_eval n F M G (by omega) (cl_eval F M G hkk g b n)) F g b
end

/-! ### the laws' cells, their keys, their evaluation -/
def Vl.sm : Vl → Prop
  | .i k => 0 ≤ k ∧ k ≤ 3
  | .s l => l = [97] ∨ l = [98]
  | _ => True
theorem Vl.sm_ok {v : Vl} (h : v.sm) : v.ok := by
  cases v with
  | n => trivial
  | i k =>
    have h : 0 ≤ k ∧ k ≤ 3 := h
    show -BND ≤ k ∧ k ≤ BND
    unfold BND
    omega
  | s l => exact h
def Vl.lk : Vl → PyData
  | .n => .tuple [.int 0, .int 0, .str ⟨([] : List Nat).toArray⟩]
  | .i k => .tuple [.int 1, .int k, .str ⟨([] : List Nat).toArray⟩]
  | .s l => .tuple [.int 2, .int 0, .str ⟨l.toArray⟩]
theorem eqv_lk (v w : Vl) : PyData.eqv v.lk w.lk = decide (v = w) := by
  cases v <;> cases w <;> simp [Vl.lk, PyData.eqv, PyData.eqvAll, S_dec]
  rw [Bool.eq_iff_iff]
  simp
theorem ok_lk (v w : Vl) : okD v.lk w.lk = true := by
  cases v <;> cases w <;> simp [Vl.lk, okD, okDs, PyData.eqv, PyData.eqvAll]
theorem lt_lk (v w : Vl) : ltD v.lk w.lk = bf v w := by
  cases v <;> cases w <;> simp [Vl.lk, ltD, ltDs, PyData.eqv, PyData.eqvAll, bf]
  · intro h e
    omega
  · exact fun h e => by subst e; exact List.lt_irrefl _ h
theorem lk_shaped : ∀ v : Vl, v.ok → SeqAt.shaped v.lk = true
  | .n, _ => by decide +kernel
  | .i k, _ => by
    unfold SeqAt.shaped
    rw [Bool.and_eq_true]
    refine ⟨?_, decide_eq_true (by show (PyData.depth (.tuple _)) ≤ _; simp [PyData.depth, PyData.depthAll])⟩
    simp [Vl.lk, PyData.canLay0, PyData.canLayAll0, PyData.strOk]
  | .s l, h => by
    unfold SeqAt.shaped
    rw [Bool.and_eq_true]
    refine ⟨?_, decide_eq_true (by show (PyData.depth (.tuple _)) ≤ _; simp [PyData.depth, PyData.depthAll])⟩
    simp [Vl.lk, PyData.canLay0, PyData.canLayAll0, strOk_ab h]
def sp_cell : Sp := fun vs H Q _ => ∃ (d c : Addr), vs = [.ref d] ∧ Dr H d c ∧ ∀ H' (v : Vl), Fd d H H' → Dr H' d c → v.sm → Q v.v H'
def sp_lkey (K : PySem.W.Frag) : Sp := fun vs H Q _ => ∃ v : Vl, vs = [v.v] ∧ ∀ H' p, Same H H' → Dp K H' (.ref p) v.lk → Q (.ref p) H'
section
variable {P : Program} {w : World} {K : PySem.W.Frag} {mg : Str → Option Value} {base : Heap}
theorem ok_cell {f : Addr} {fd : FuncData} (F : Fun K "_law_cell" "_law_cell" s__law_cell f fd) (M : Mg mg) (c__law_next : Cl P w K mg base 1 "_law_next" sp_next) : FnOk P w K mg base CX0 2 f fd ["draw"] sp_cell := by
  refine F.ok sc__law_cell (fun vs H Q E h => ?_) (fun cdv A outer s H vs Q E hr h => ?_)
  · obtain ⟨d, c, rfl, _⟩ := h
    rfl
  · obtain ⟨d, c, rfl, dr, q⟩ := h
    refine ⟨_, (pss_cons (ps_set (i := 1) sc__law_cell.nd rfl (.inl rfl) (pe_u c__law_next hr (by first | decide | omega) (by rfl) (pa_cons (pv 0) (pa_cons pe_int pa_nil))))
      (pss_cons (ps_if (pt_cmpR op_eq (pv 1) pe_int (nomark _)) (pss_one (ps_ret pe_non)) pss_nil)
      (pss_one (ps_ret (pe_ifExp (pt_cmpR op_gt (pv 1) pe_int (nomark _)) (pe_ix ix_str pe_str (pe_op op_sub (pv 1) pe_int) (fun _ _ => rfl)) (pe_op op_sub (pv 1) pe_int)))))), ?_⟩
    refine ⟨_, rfl, d, c, 7, rfl, dr, by decide, by decide, fun H1 r f1 _ dr1 r0 r1 => ?_⟩
    refine ⟨_, rfl, rfl, _, rfl, ite2 (fun e => ?_) (fun e => ?_)⟩
    · exact q H1 .n f1 dr1 trivial
    · have hr0 : r ≠ 0 := fun z => e (by rw [z]; exact decide_eq_true rfl)
      refine ⟨_, rfl, _, _, rfl, rfl, _, rfl, ite2 (fun e2 => ?_) (fun e2 => ?_)⟩
      · have h4 := of_decide_eq_true e2
        have h56 : r = 5 ∨ r = 6 := by omega
        rcases h56 with rfl | rfl
        · exact ⟨_, rfl, _, _, rfl, rfl, _, _, 97, rfl, rfl, by decide, atI_nat (j := 0) rfl, q H1 (.s [97]) f1 dr1 (.inl rfl)⟩
        · exact ⟨_, rfl, _, _, rfl, rfl, _, _, 98, rfl, rfl, by decide, atI_nat (j := 1) rfl, q H1 (.s [98]) f1 dr1 (.inr rfl)⟩
      · have h4 : ¬ r > 4 := fun z => e2 (decide_eq_true z)
        exact ⟨_, rfl, _, _, rfl, rfl, q H1 (.i (r - 1)) f1 dr1 ⟨by omega, by omega⟩⟩
theorem ok_lkey {f : Addr} {fd : FuncData} (F : Fun K "_law_key" "_law_key" s__law_key f fd) (M : Mg mg) : FnOk P w K mg base CX0 1 f fd ["value"] (sp_lkey K) := by
  refine F.ok sc__law_key (fun vs H Q E h => ?_) (fun cdv A outer s H vs Q E hr h => ?_)
  · obtain ⟨v, rfl, _⟩ := h
    rfl
  · obtain ⟨v, rfl, q⟩ := h
    refine ⟨_, (pss_cons (ps_if (pt_cmpR op_isN (pv 0) pe_non (nomark _)) (pss_one (ps_ret (pe_tup (pa_cons pe_int (pa_cons pe_int (pa_cons pe_str pa_nil)))))) pss_nil)
      (pss_cons (ps_if (pt_val (pe_callB (isiK K) (by rfl) M.isinstance (by decide +kernel) (pa_cons (pv 0) (pa_cons (pe_bltn (v := .ty "str") (by rfl) M.str (by decide +kernel) rfl) pa_nil)))) (pss_one (ps_ret (pe_tup (pa_cons pe_int (pa_cons pe_int (pa_cons (pv 0) pa_nil)))))) pss_nil)
      (pss_one (ps_ret (pe_tup (pa_cons pe_int (pa_cons (pv 0) (pa_cons pe_str pa_nil)))))))), ?_⟩
    refine ⟨_, rfl, rfl, _, rfl, ?_⟩
    rw [v.eN]
    cases v with
    | n => exact iteT ⟨by show 3 ≤ sizeLine; decide, fun p np => q _ p (same_upd np) (.tup (.of upd_same) (.cons (.int _) (.cons (.int _) (.cons (.str _) .nil))))⟩
    | i k =>
      refine iteF ⟨_, rfl, _, _, _, _, _, rfl, .ty _, (Vl.i k).ty, kit_ty (Vl.i k).kS, _, rfl, iteF ?_⟩
      exact ⟨_, rfl, by show 3 ≤ sizeLine; decide, fun p np => q _ p (same_upd np) (.tup (.of upd_same) (.cons (.int _) (.cons (.int _) (.cons (.str _) .nil))))⟩
    | s l =>
      refine iteF ⟨_, rfl, _, _, _, _, _, rfl, .ty _, (Vl.s l).ty, kit_ty (Vl.s l).kS, _, rfl, iteT ?_⟩
      exact ⟨_, rfl, by show 3 ≤ sizeLine; decide, fun p np => q _ p (same_upd np) (.tup (.of upd_same) (.cons (.int _) (.cons (.int _) (.cons (.str _) .nil))))⟩
end

/-- what is known of a truth value -/
def Vl.kn : Vl → Option Bool
  | .i k => some (!decide (k = 0))
  | _ => none
def oV : Option Bool → V
  | none => .non
  | some b => .bl b
theorem kn_tr (v : Vl) : v.tr = decide (v.kn = some true) := by
  cases v with
  | n => rfl
  | s l => rfl
  | i k =>
    show (!decide (k = 0)) = decide (some (!decide (k = 0)) = some true)
    cases decide (k = 0) <;> rfl
theorem kn_fa (v : Vl) : v.fa = decide (v.kn = some false) := by
  cases v with
  | n => rfl
  | s l => rfl
  | i k =>
    show (decide (k = 0)) = decide (some (!decide (k = 0)) = some false)
    cases decide (k = 0) <;> rfl
/-- what is known, held against a truth value by `is` -/
def rIsO : R2 := fun x y H Q => ∃ (a : Option Bool) (b : Bool), x = oV a ∧ y = .bl b ∧ Q (.bl (decide (a = some b))) H
theorem op_isO {X : Cx} : OpR X (compareOp .Is) rIsO := by
  intro pins s σ H x y v u Q I rx ry h
  obtain ⟨a, b, rfl, rfl, q⟩ := h
  cases (show u = Value.bool b from ry)
  rcases a with _ | a
  · cases (show v = Value.none from rx)
    exact wpAny_is_other rfl (fun z => nomatch z) ⟨.bl false, H, I, rfl, by simpa using q⟩
  · cases (show v = Value.bool a from rx)
    by_cases e : a = b
    · subst e
      exact wpAny_is_self rfl ⟨.bl true, H, I, rfl, by simpa using q⟩
    · exact wpAny_is_other rfl (fun z => e (Value.bool.inj z)) ⟨.bl false, H, I, rfl, by simpa [e] using q⟩
def sp_known : Sp := fun vs H Q _ => ∃ v : Vl, vs = [v.v] ∧ Q (oV v.kn) H
def Wb.isA : Wb → Bool
  | add => true
  | sub => true
  | mul => true
  | div => true
  | rem => true
  | _ => false
def sp_arith : Sp := fun vs H Q _ => ∃ (o : Wb) (v u : Vl), o.isA = true ∧ vs = [.str (Str.ofString o.s), v.v, u.v] ∧ v.ok ∧ u.ok ∧ Q (o.f v u).v H
def sp_logic (K : PySem.W.Frag) : Sp := fun vs H Q _ => ∃ (o : Wb) (v u : Vl), (o = .and ∨ o = .or) ∧ vs = [.str (Str.ofString o.s), v.v, u.v] ∧ Q (o.f v u).v H
def sp_single : Sp := fun vs H Q _ => ∃ (o : Wu) (v : Vl), vs = [.str (Str.ofString o.s), v.v] ∧ v.ok ∧ Q (o.f v).v H
theorem pow15 : (10 : Int) ^ (15 : Int).toNat = BND := by decide +kernel
theorem not_eqb (a b : Bool) : decide (V.bl a = V.bl b) = (a == b) := by
  cases a <;> cases b <;> rfl
theorem div_bnd {a b : Int} (ha : -BND ≤ a ∧ a ≤ BND) (h : ¬ b < 1) : bnd (a / b) = .i (a / b) := by
  unfold bnd
  refine if_pos ?_
  have hb : 0 < b := by omega
  unfold BND at *
  constructor
  · refine Int.le_ediv_of_mul_le hb ?_
    omega
  · refine Int.le_trans (Int.ediv_le_ediv hb ha.2) ?_
    exact Int.ediv_le_self _ (by decide)
theorem rem_bnd {a b : Int} (hb : -BND ≤ b ∧ b ≤ BND) (h : ¬ b < 1) : bnd (a % b) = .i (a - b * (a / b)) := by
  have e : a % b = a - b * (a / b) := Int.emod_def a b
  rw [← e]
  unfold bnd
  refine if_pos ?_
  have h0 : 0 ≤ a % b := Int.emod_nonneg _ (by omega)
  have h1 : a % b < b := Int.emod_lt_of_pos _ (by omega)
  unfold BND at *
  omega
def lg (D : Bool) (x y : Option Bool) : Vl := if x = some D then one D else if y = some D then one D else if x = none then .n else if y = none then .n else one (!D)
theorem lg_and (v u : Vl) : fAnd v u = lg false v.kn u.kn := by
  unfold fAnd
  rw [kn_fa, kn_fa, kn_tr, kn_tr]
  rcases v.kn with _ | _ | _ <;> rcases u.kn with _ | _ | _ <;> rfl
theorem lg_or (v u : Vl) : fOr v u = lg true v.kn u.kn := by
  unfold fOr
  rw [kn_fa, kn_fa, kn_tr, kn_tr]
  rcases v.kn with _ | _ | _ <;> rcases u.kn with _ | _ | _ <;> rfl
theorem oV_eq (x : Option Bool) (D : Bool) : decide (oV x = .bl D) = decide (x = some D) := by
  rcases x with _ | _ | _ <;> cases D <;> rfl
theorem oV_no (x : Option Bool) : decide (oV x = .non) = decide (x = none) := by
  rcases x with _ | _ | _ <;> rfl
section
variable {P : Program} {w : World} {K : PySem.W.Frag} {mg : Str → Option Value} {base : Heap}
theorem ok_known {f : Addr} {fd : FuncData} (F : Fun K "_law_known" "_law_known" s__law_known f fd) (M : Mg mg) : FnOk P w K mg base CX0 1 f fd ["value"] sp_known := by
  refine F.ok sc__law_known (fun vs H Q E h => ?_) (fun cdv A outer s H vs Q E hr h => ?_)
  · obtain ⟨v, rfl, _⟩ := h
    rfl
  · obtain ⟨v, rfl, q⟩ := h
    refine ⟨_, (pss_one (ps_ret (pe_ifExp (PW.pt (pw_or (pt_cmpR op_isN (pv 0) pe_non (nomark _)) (pw_or1 (pt_val (pe_callB (isiK K) (by rfl) M.isinstance (by decide +kernel) (pa_cons (pv 0) (pa_cons (pe_bltn (v := .ty "str") (by rfl) M.str (by decide +kernel) rfl) pa_nil))))))) pe_non (pe_cmpR op_ne (pv 0) pe_int (nomark _))))), ?_⟩
    refine ⟨_, rfl, rfl, _, rfl, ?_⟩
    rw [v.eN]
    cases v with
    | n => exact iteT (iteT q)
    | i k =>
      refine iteF ⟨_, rfl, _, _, _, _, _, rfl, .ty _, (Vl.i k).ty, kit_ty (Vl.i k).kS, _, rfl, iteF ?_⟩
      refine ⟨_, rfl, rfl, ?_⟩
      show Q (V.bl (!decide (V.int k = V.int 0))) H
      rw [int_eq0]
      exact q
    | s l => exact iteF ⟨_, rfl, _, _, _, _, _, rfl, .ty _, (Vl.s l).ty, kit_ty (Vl.s l).kS, _, rfl, iteT q⟩
theorem ok_lbnd {f : Addr} {fd : FuncData} (F : Fun K "_law_bounded" "_law_bounded" s__law_bounded f fd) (M : Mg mg) : FnOk P w K mg base CX0 1 f fd ["number"] sp_bnd := by
  refine F.ok sc__law_bounded (fun vs H Q E h => ?_) (fun cdv A outer s H vs Q E hr h => ?_)
  · obtain ⟨k, rfl, _⟩ := h
    rfl
  · obtain ⟨k, rfl, q⟩ := h
    refine ⟨_, (pss_one (ps_ret (pe_ifExp (pt_chain op_le op_le (pe_un un_neg (pe_op op_pow pe_int pe_int)) (pv 0) (pe_op op_pow pe_int pe_int)) (pv 0) pe_non))), ?_⟩
    unfold bnd at q
    refine ⟨_, _, rfl, rfl, ⟨by decide, by decide, by decide⟩, _, rfl, _, rfl, _, _, rfl, rfl, _, rfl, ?_⟩
    rw [pow15]
    by_cases h1 : -BND ≤ k
    · rw [decide_eq_true h1]
      refine iteT ⟨_, _, rfl, rfl, ⟨by decide, by decide, by decide⟩, _, _, rfl, rfl, _, rfl, ?_⟩
      rw [pow15]
      by_cases h2 : k ≤ BND
      · rw [if_pos ⟨h1, h2⟩] at q
        rw [decide_eq_true h2]
        exact iteT ⟨_, rfl, q⟩
      · rw [if_neg (fun z => h2 z.2)] at q
        rw [decide_eq_false h2]
        exact iteF q
    · rw [if_neg (fun z => h1 z.1)] at q
      rw [decide_eq_false h1]
      exact iteF ⟨_, rfl, iteF q⟩
theorem ok_arith {f : Addr} {fd : FuncData} (F : Fun K "_law_arithmetic" "_law_arithmetic" s__law_arithmetic f fd) (M : Mg mg) (c__law_bounded : Cl P w K mg base 1 "_law_bounded" sp_bnd) : FnOk P w K mg base CX0 2 f fd ["word", "first", "second"] sp_arith := by
  refine F.ok sc__law_arithmetic (fun vs H Q E h => ?_) (fun cdv A outer s H vs Q E hr h => ?_)
  · obtain ⟨o, v, u, _, rfl, _⟩ := h
    rfl
  · obtain ⟨o, v, u, ho, rfl, hv, hu, q⟩ := h
    refine ⟨_, (pss_cons (ps_if (PW.pt (pw_or (pt_not (pt_val (pe_callB (isiK K) (by rfl) M.isinstance (by decide +kernel) (pa_cons (pv 1) (pa_cons (pe_bltn (v := .ty "int") (by rfl) M.int (by decide +kernel) rfl) pa_nil))))) (pw_or1 (pt_not (pt_val (pe_callB (isiK K) (by rfl) M.isinstance (by decide +kernel) (pa_cons (pv 2) (pa_cons (pe_bltn (v := .ty "int") (by rfl) M.int (by decide +kernel) rfl) pa_nil)))))))) (pss_one (ps_ret pe_non)) pss_nil)
      (pss_cons (ps_if (pt_cmpR op_eq (pv 0) pe_str (nomark _)) (pss_one (ps_ret (pe_u c__law_bounded hr (by first | decide | omega) (by rfl) (pa_cons (pe_op op_add (pv 1) (pv 2)) pa_nil)))) pss_nil)
      (pss_cons (ps_if (pt_cmpR op_eq (pv 0) pe_str (nomark _)) (pss_one (ps_ret (pe_u c__law_bounded hr (by first | decide | omega) (by rfl) (pa_cons (pe_op op_sub (pv 1) (pv 2)) pa_nil)))) pss_nil)
      (pss_cons (ps_if (pt_cmpR op_eq (pv 0) pe_str (nomark _)) (pss_one (ps_ret (pe_u c__law_bounded hr (by first | decide | omega) (by rfl) (pa_cons (pe_op op_mul (pv 1) (pv 2)) pa_nil)))) pss_nil)
      (pss_cons (ps_if (pt_cmpR op_lt (pv 2) pe_int (nomark _)) (pss_one (ps_ret pe_non)) pss_nil)
      (pss_cons (ps_set (i := 3) sc__law_arithmetic.nd rfl (.inl rfl) (pe_op op_fdivW (pv 1) (pv 2)))
      (pss_one (ps_ret (pe_ifExp (pt_cmpR op_eq (pv 0) pe_str (nomark _)) (pv 3) (pe_op op_sub (pv 1) (pe_op op_mul (pv 2) (pv 3)))))))))))), ?_⟩
    have no : bothI v u = false → o.f v u = .n := fun h => by
      cases o with
      | add => exact ar_no h
      | sub => exact ar_no h
      | mul => exact ar_no h
      | div => exact ar_no h
      | rem => exact ar_no h
      | _ => cases ho
    refine ⟨_, rfl, _, _, _, _, _, rfl, .ty _, v.ty, kit_ty v.kI, _, rfl, ?_⟩
    cases e1 : v.isI with
    | false =>
      rw [no (by unfold bothI; rw [e1]; rfl)] at q
      exact iteT (iteT q)
    | true =>
      refine iteF ⟨_, rfl, _, _, _, _, _, rfl, .ty _, u.ty, kit_ty u.kI, _, rfl, ?_⟩
      cases e2 : u.isI with
      | false =>
        rw [no (by unfold bothI; rw [e1, e2]; rfl)] at q
        exact iteT q
      | true =>
        obtain ⟨a, rfl⟩ := Vl.of_isI e1
        obtain ⟨b, rfl⟩ := Vl.of_isI e2
        refine iteF ⟨_, rfl, rfl, _, rfl, ?_⟩
        cases o with
        | add =>
          rw [show decide (V.str (Str.ofString Wb.add.s) = V.str "add") = true from weq "add"]
          exact iteT ⟨_, rfl, _, rfl, _, _, rfl, rfl, _, rfl, q⟩
        | sub =>
          rw [show decide (V.str (Str.ofString Wb.sub.s) = V.str "add") = false from wne "subtract" "add" (by decide +kernel)]
          refine iteF ⟨_, rfl, rfl, _, rfl, ?_⟩
          rw [show decide (V.str (Str.ofString Wb.sub.s) = V.str "subtract") = true from weq "subtract"]
          exact iteT ⟨_, rfl, _, rfl, _, _, rfl, rfl, _, rfl, q⟩
        | mul =>
          have hb := bd_abs hv
          rw [show decide (V.str (Str.ofString Wb.mul.s) = V.str "add") = false from wne "multiply" "add" (by decide +kernel)]
          refine iteF ⟨_, rfl, rfl, _, rfl, ?_⟩
          rw [show decide (V.str (Str.ofString Wb.mul.s) = V.str "subtract") = false from wne "multiply" "subtract" (by decide +kernel)]
          refine iteF ⟨_, rfl, rfl, _, rfl, ?_⟩
          rw [show decide (V.str (Str.ofString Wb.mul.s) = V.str "multiply") = true from weq "multiply"]
          exact iteT ⟨_, rfl, _, rfl, _, _, rfl, rfl, .inl ⟨by omega, by omega⟩, _, rfl, q⟩
        | div =>
          rw [show decide (V.str (Str.ofString Wb.div.s) = V.str "add") = false from wne "divide" "add" (by decide +kernel)]
          refine iteF ⟨_, rfl, rfl, _, rfl, ?_⟩
          rw [show decide (V.str (Str.ofString Wb.div.s) = V.str "subtract") = false from wne "divide" "subtract" (by decide +kernel)]
          refine iteF ⟨_, rfl, rfl, _, rfl, ?_⟩
          rw [show decide (V.str (Str.ofString Wb.div.s) = V.str "multiply") = false from wne "divide" "multiply" (by decide +kernel)]
          refine iteF ⟨_, rfl, _, _, rfl, rfl, _, rfl, ?_⟩
          have q : Q (if b < 1 then Vl.n else bnd (a / b)).v H := q
          by_cases h1 : b < 1
          · rw [if_pos h1] at q
            rw [decide_eq_true h1]
            exact iteT q
          · rw [if_neg h1, div_bnd hv h1] at q
            rw [decide_eq_false h1]
            have := bd_abs hu
            refine iteF ⟨_, rfl, _, rfl, _, _, rfl, rfl, wide_div (b := 60) (by omega) (by omega) (by decide) (by decide), ?_⟩
            refine ⟨_, rfl, rfl, _, rfl, ?_⟩
            rw [show decide (V.str (Str.ofString Wb.div.s) = V.str "divide") = true from weq "divide"]
            exact iteT ⟨_, rfl, q⟩
        | rem =>
          rw [show decide (V.str (Str.ofString Wb.rem.s) = V.str "add") = false from wne "remainder" "add" (by decide +kernel)]
          refine iteF ⟨_, rfl, rfl, _, rfl, ?_⟩
          rw [show decide (V.str (Str.ofString Wb.rem.s) = V.str "subtract") = false from wne "remainder" "subtract" (by decide +kernel)]
          refine iteF ⟨_, rfl, rfl, _, rfl, ?_⟩
          rw [show decide (V.str (Str.ofString Wb.rem.s) = V.str "multiply") = false from wne "remainder" "multiply" (by decide +kernel)]
          refine iteF ⟨_, rfl, _, _, rfl, rfl, _, rfl, ?_⟩
          have q : Q (if b < 1 then Vl.n else bnd (a % b)).v H := q
          by_cases h1 : b < 1
          · rw [if_pos h1] at q
            rw [decide_eq_true h1]
            exact iteT q
          · rw [if_neg h1, rem_bnd hu h1] at q
            rw [decide_eq_false h1]
            have := bd_abs hu
            refine iteF ⟨_, rfl, _, rfl, _, _, rfl, rfl, wide_div (b := 60) (by omega) (by omega) (by decide) (by decide), ?_⟩
            refine ⟨_, rfl, rfl, _, rfl, ?_⟩
            rw [show decide (V.str (Str.ofString Wb.rem.s) = V.str "divide") = false from wne "remainder" "divide" (by decide +kernel)]
            exact iteF ⟨_, rfl, _, rfl, _, rfl, _, _, rfl, rfl, .inl ⟨by omega, by omega⟩, _, _, rfl, rfl, q⟩
        | les => cases ho
        | equ => cases ho
        | and => cases ho
        | or => cases ho
        | sta => cases ho
theorem ok_logic {f : Addr} {fd : FuncData} (F : Fun K "_law_logic" "_law_logic" s__law_logic f fd) (M : Mg mg) (c__law_known : Cl P w K mg base 1 "_law_known" sp_known) : FnOk P w K mg base CX0 2 f fd ["word", "first", "second"] (sp_logic K) := by
  refine F.ok sc__law_logic (fun vs H Q E h => ?_) (fun cdv A outer s H vs Q E hr h => ?_)
  · obtain ⟨o, v, u, _, rfl, _⟩ := h
    rfl
  · obtain ⟨o, v, u, ho, rfl, q⟩ := h
    obtain ⟨D, hD, hl⟩ : ∃ D, decide (V.str (Str.ofString o.s) = V.str "or") = D ∧ o.f v u = lg D v.kn u.kn := by
      rcases ho with rfl | rfl
      · exact ⟨false, wne "and" "or" (by decide +kernel), lg_and v u⟩
      · exact ⟨true, weq "or", lg_or v u⟩
    rw [hl] at q
    refine ⟨_, (pss_cons (ps_set (i := 3) sc__law_logic.nd rfl (.inl rfl) (pe_cmpR op_eq (pv 0) pe_str (nomark _)))
      (pss_cons (ps_set (i := 4) sc__law_logic.nd rfl (.inl rfl) (pe_u c__law_known hr (by first | decide | omega) (by rfl) (pa_cons (pv 1) pa_nil)))
      (pss_cons (ps_set (i := 5) sc__law_logic.nd rfl (.inl rfl) (pe_u c__law_known hr (by first | decide | omega) (by rfl) (pa_cons (pv 2) pa_nil)))
      (pss_cons (ps_if (PW.pt (pw_or (pt_cmpR op_eq (pv 4) (pv 3) (nomark _)) (pw_or1 (pt_cmpR op_eq (pv 5) (pv 3) (nomark _))))) (pss_one (ps_ret (pe_callTy call_int1 (by rfl) M.int (by decide +kernel) (pa_cons (pv 3) pa_nil)))) pss_nil)
      (pss_one (ps_ret (pe_ifExp (PW.pt (pw_or (pt_cmpR op_isN (pv 4) pe_non (nomark _)) (pw_or1 (pt_cmpR op_isN (pv 5) pe_non (nomark _))))) pe_non (pe_callTy call_int1 (by rfl) M.int (by decide +kernel) (pa_cons (pe_not (pv 3)) pa_nil))))))))), ?_⟩
    refine ⟨_, rfl, rfl, ?_⟩
    rw [hD]
    refine ⟨_, rfl, v, rfl, _, rfl, u, rfl, ?_⟩
    unfold lg at q
    refine ⟨_, rfl, _, rfl, by rcases v.kn with _ | _ | _ <;> cases D <;> rfl, _, rfl, ?_⟩
    rw [oV_eq]
    by_cases h1 : v.kn = some D
    · rw [if_pos h1] at q
      rw [decide_eq_true h1]
      exact iteT (iteT ⟨_, rfl, .inr ⟨D, rfl, q⟩⟩)
    · rw [if_neg h1] at q
      rw [decide_eq_false h1]
      refine iteF ⟨_, rfl, _, rfl, by rcases u.kn with _ | _ | _ <;> cases D <;> rfl, _, rfl, ?_⟩
      rw [oV_eq]
      by_cases h2 : u.kn = some D
      · rw [if_pos h2] at q
        rw [decide_eq_true h2]
        exact iteT ⟨_, rfl, .inr ⟨D, rfl, q⟩⟩
      · rw [if_neg h2] at q
        rw [decide_eq_false h2]
        refine iteF ⟨_, rfl, rfl, _, rfl, ?_⟩
        rw [oV_no]
        by_cases h3 : v.kn = none
        · rw [if_pos h3] at q
          rw [decide_eq_true h3]
          exact iteT (iteT q)
        · rw [if_neg h3] at q
          rw [decide_eq_false h3]
          refine iteF ⟨_, rfl, rfl, _, rfl, ?_⟩
          rw [oV_no]
          by_cases h4 : u.kn = none
          · rw [if_pos h4] at q
            rw [decide_eq_true h4]
            exact iteT q
          · rw [if_neg h4] at q
            rw [decide_eq_false h4]
            exact iteF ⟨_, rfl, D, rfl, .inr ⟨!D, rfl, q⟩⟩
theorem ok_single {f : Addr} {fd : FuncData} (F : Fun K "_law_single" "_law_single" s__law_single f fd) (M : Mg mg) (c__law_known : Cl P w K mg base 1 "_law_known" sp_known) (c__law_arithmetic : Cl P w K mg base 2 "_law_arithmetic" sp_arith) : FnOk P w K mg base CX0 3 f fd ["word", "value"] sp_single := by
  refine F.ok sc__law_single (fun vs H Q E h => ?_) (fun cdv A outer s H vs Q E hr h => ?_)
  · obtain ⟨o, v, rfl, _⟩ := h
    rfl
  · obtain ⟨o, v, rfl, hv, q⟩ := h
    refine ⟨_, (pss_cons (ps_if (pt_cmpR op_eq (pv 0) pe_str (nomark _)) (pss_one (ps_ret (pe_u c__law_arithmetic hr (by first | decide | omega) (by rfl) (pa_cons pe_str (pa_cons pe_int (pa_cons (pv 1) pa_nil)))))) pss_nil)
      (pss_cons (ps_if (pt_cmpR op_eq (pv 0) pe_str (nomark _)) (pss_one (ps_ret (pe_callTy call_int1 (by rfl) M.int (by decide +kernel) (pa_cons (pe_cmpR op_isN (pv 1) pe_non (nomark _)) pa_nil)))) pss_nil)
      (pss_cons (ps_if (pt_cmpR op_eq (pv 0) pe_str (nomark _)) (pss_one (ps_ret (pe_ifExp (pt_val (pe_callB (isiK K) (by rfl) M.isinstance (by decide +kernel) (pa_cons (pv 1) (pa_cons (pe_bltn (v := .ty "str") (by rfl) M.str (by decide +kernel) rfl) pa_nil)))) (pe_callB call_len_str (by rfl) M.len PySem.boot_len (pa_cons (pv 1) pa_nil)) pe_non))) pss_nil)
      (pss_one (ps_ret (pe_ifExp (pt_cmpR op_isN (pe_u c__law_known hr (by first | decide | omega) (by rfl) (pa_cons (pv 1) pa_nil)) pe_non (nomark _)) pe_non (pe_callTy call_int1 (by rfl) M.int (by decide +kernel) (pa_cons (pe_not (pe_u c__law_known hr (by first | decide | omega) (by rfl) (pa_cons (pv 1) pa_nil))) pa_nil)))))))), ?_⟩
    refine ⟨_, rfl, rfl, _, rfl, ?_⟩
    cases o with
    | neg =>
      rw [show decide (V.str (Str.ofString Wu.neg.s) = V.str "negate") = true from weq "negate"]
      refine iteT ⟨_, rfl, .sub, .i 0, v, rfl, rfl, by constructor <;> decide, hv, ?_⟩
      have e : Wb.sub.f (.i 0) v = Wu.neg.f v := by
        cases v with
        | n => rfl
        | s l => rfl
        | i k =>
          show bnd (0 - k) = bnd (-k)
          rw [Int.zero_sub]
      rw [e]
      exact q
    | mis =>
      rw [show decide (V.str (Str.ofString Wu.mis.s) = V.str "negate") = false from wne "missing" "negate" (by decide +kernel)]
      refine iteF ⟨_, rfl, rfl, _, rfl, ?_⟩
      rw [show decide (V.str (Str.ofString Wu.mis.s) = V.str "missing") = true from weq "missing"]
      refine iteT ⟨_, rfl, rfl, .inr ⟨_, rfl, ?_⟩⟩
      rw [v.eN]
      exact q
    | len =>
      rw [show decide (V.str (Str.ofString Wu.len.s) = V.str "negate") = false from wne "length" "negate" (by decide +kernel)]
      refine iteF ⟨_, rfl, rfl, _, rfl, ?_⟩
      rw [show decide (V.str (Str.ofString Wu.len.s) = V.str "missing") = false from wne "length" "missing" (by decide +kernel)]
      refine iteF ⟨_, rfl, rfl, _, rfl, ?_⟩
      rw [show decide (V.str (Str.ofString Wu.len.s) = V.str "length") = true from weq "length"]
      refine iteT ⟨_, rfl, _, _, _, _, _, rfl, .ty _, v.ty, kit_ty v.kS, _, rfl, ?_⟩
      cases v with
      | n => exact iteF q
      | i k => exact iteF q
      | s l =>
        have hl : l.length = 1 := by rcases hv with rfl | rfl <;> rfl
        refine iteT ⟨_, rfl, _, rfl, by rw [S_len', hl]; decide, ?_⟩
        rw [S_len']
        exact q
    | not =>
      rw [show decide (V.str (Str.ofString Wu.not.s) = V.str "negate") = false from wne "not" "negate" (by decide +kernel)]
      refine iteF ⟨_, rfl, rfl, _, rfl, ?_⟩
      rw [show decide (V.str (Str.ofString Wu.not.s) = V.str "missing") = false from wne "not" "missing" (by decide +kernel)]
      refine iteF ⟨_, rfl, rfl, _, rfl, ?_⟩
      rw [show decide (V.str (Str.ofString Wu.not.s) = V.str "length") = false from wne "not" "length" (by decide +kernel)]
      refine iteF ⟨_, rfl, v, rfl, rfl, _, rfl, ?_⟩
      rw [oV_no]
      have q : Q (fNot v).v H := q
      unfold fNot at q
      rw [kn_fa, kn_tr] at q
      generalize hx : v.kn = x at q
      rcases x with _ | b
      · exact iteT q
      · refine iteF ⟨_, rfl, v, rfl, b, by rw [hx]; rfl, .inr ⟨!b, rfl, ?_⟩⟩
        cases b <;> exact q
end

section
variable {P : Program} {w : World} {K : PySem.W.Frag} {mg : Str → Option Value} {base : Heap}
/-- what the law's evaluation asks of a tree's word -/
theorem wu_ls (w : Wu) : (Str.ofString w.s == Str.ofString "choose") = false := by cases w <;> decide +kernel
theorem wb_ls (w : Wb) : (Str.ofString w.s == Str.ofString "choose") = false := by cases w <;> decide +kernel
theorem wb_sta (w : Wb) : w = .sta ∨ (Str.ofString w.s == Str.ofString "starts") = false := by cases w <;> first | exact .inl rfl | exact .inr (by decide +kernel)
theorem wb_lg (w : Wb) : ((w = .and ∨ w = .or) ∧ inV (.str (Str.ofString w.s)) [.str "and", .str "or"] = true) ∨ inV (.str (Str.ofString w.s)) [.str "and", .str "or"] = false := by
  cases w <;> first | exact .inl ⟨.inl rfl, by decide +kernel⟩ | exact .inl ⟨.inr rfl, by decide +kernel⟩ | exact .inr (by decide +kernel)
theorem wb_cm (w : Wb) : (w = .les ∧ inV (.str (Str.ofString w.s)) [.str "less", .str "equal"] = true) ∨ (w = .equ ∧ inV (.str (Str.ofString w.s)) [.str "less", .str "equal"] = true) ∨ (inV (.str (Str.ofString w.s)) [.str "less", .str "equal"] = false) := by
  cases w <;> first | exact .inl ⟨rfl, by decide +kernel⟩ | exact .inr (.inl ⟨rfl, by decide +kernel⟩) | exact .inr (.inr (by decide +kernel))
theorem wb_ar (w : Wb) (h1 : inV (.str (Str.ofString w.s)) [.str "and", .str "or"] = false) (h2 : (Str.ofString w.s == Str.ofString "starts") = false) (h3 : inV (.str (Str.ofString w.s)) [.str "less", .str "equal"] = false) : w.isA = true := by
  cases w <;> first | rfl | exact absurd h1 (by decide +kernel) | exact absurd h2 (by decide +kernel) | exact absurd h3 (by decide +kernel)
theorem cut_ab {l m : List Nat} (hl : l = [97] ∨ l = [98]) (hm : m = [97] ∨ m = [98]) : decide (V.str (cutS ⟨l.toArray⟩ none (some (((⟨m.toArray⟩ : Str).length : Nat) : Int))) = V.str ⟨m.toArray⟩) = m.isPrefixOf l := by
  rcases hl with rfl | rfl <;> rcases hm with rfl | rfl <;> decide +kernel
theorem ok_due (n : Nat) {f : Addr} {fd : FuncData} (F : Fun K "_law_due" "_law_due" s__law_due f fd) (M : Mg mg) (c__law_known : Cl P w K mg base 1 "_law_known" sp_known) (c__law_key : Cl P w K mg base 1 "_law_key" (sp_lkey K)) (c__law_arithmetic : Cl P w K mg base 2 "_law_arithmetic" sp_arith) (c__law_logic : Cl P w K mg base 2 "_law_logic" (sp_logic K)) (c__law_single : Cl P w K mg base 3 "_law_single" sp_single)
    (c__law_due : Cl P w K mg base (n + 3) "_law_due" (sp_eval K n)) : FnOk P w K mg base CX0 (n + 4) f fd ["tree", "row"] (sp_eval K (n + 1)) := by
  refine F.ok sc__law_due (fun vs H Q E h => ?_) (fun cdv A outer s H vs Q E hr h => ?_)
  · obtain ⟨p, a, e, r, rfl, _⟩ := h
    rfl
  · obtain ⟨p, a, e, r, rfl, dp, hS, ok, hr0, ht, q⟩ := h
    refine ⟨_, (pss_cons (ps_set (i := 2) sc__law_due.nd rfl (.inl rfl) (pe_ix (ix_tupK K) (pv 0) pe_int (fun _ _ => rfl)))
      (pss_cons (ps_if (pt_cmpR op_eq (pv 2) pe_str (nomark _)) (pss_one (ps_ret (pe_ix (ix_tupK K) (pv 1) (pe_ix (ix_tupK K) (pv 0) pe_int (fun _ _ => rfl)) (fun _ _ => rfl)))) pss_nil)
      (pss_cons (ps_if (pt_cmpR op_eq (pv 2) pe_str (nomark _)) (pss_one (ps_ret (pe_ix (ix_tupK K) (pv 0) pe_int (fun _ _ => rfl)))) pss_nil)
      (pss_cons (ps_if (pt_cmpR op_eq (pv 2) pe_str (nomark _)) (pss_one (ps_ret (pe_u c__law_due hr (by first | decide | omega) (by rfl) (pa_cons (pe_ifExp (pt_cmpR op_isO (pe_u c__law_known hr (by first | decide | omega) (by rfl) (pa_cons (pe_u c__law_due hr (by first | decide | omega) (by rfl) (pa_cons (pe_ix (ix_tupK K) (pv 0) pe_int (fun _ _ => rfl)) (pa_cons (pv 1) pa_nil))) pa_nil)) pe_bl (nomark _)) (pe_ix (ix_tupK K) (pv 0) pe_int (fun _ _ => rfl)) (pe_ix (ix_tupK K) (pv 0) pe_int (fun _ _ => rfl))) (pa_cons (pv 1) pa_nil))))) pss_nil)
      (pss_cons (ps_set (i := 3) sc__law_due.nd rfl (.inl rfl) (pe_u c__law_due hr (by first | decide | omega) (by rfl) (pa_cons (pe_ix (ix_tupK K) (pv 0) pe_int (fun _ _ => rfl)) (pa_cons (pv 1) pa_nil))))
      (pss_cons (ps_if (pt_cmpR op_eq (pe_callB (len_seqK K) (by rfl) M.len PySem.boot_len (pa_cons (pv 0) pa_nil)) pe_int (nomark _)) (pss_one (ps_ret (pe_u c__law_single hr (by first | decide | omega) (by rfl) (pa_cons (pv 2) (pa_cons (pv 3) pa_nil))))) pss_nil)
      (pss_cons (ps_set (i := 4) sc__law_due.nd rfl (.inl rfl) (pe_u c__law_due hr (by first | decide | omega) (by rfl) (pa_cons (pe_ix (ix_tupK K) (pv 0) pe_int (fun _ _ => rfl)) (pa_cons (pv 1) pa_nil))))
      (pss_cons (ps_if (pt_cmpR (inK K) (pv 2) (pe_tup (pa_cons pe_str (pa_cons pe_str pa_nil))) (by rfl)) (pss_one (ps_ret (pe_u c__law_logic hr (by first | decide | omega) (by rfl) (pa_cons (pv 2) (pa_cons (pv 3) (pa_cons (pv 4) pa_nil)))))) pss_nil)
      (pss_cons (ps_if (pt_cmpR op_eq (pv 2) pe_str (nomark _)) (pss_cons (ps_if (PW.pt (pw_or (pt_not (pt_val (pe_callB (isiK K) (by rfl) M.isinstance (by decide +kernel) (pa_cons (pv 3) (pa_cons (pe_bltn (v := .ty "str") (by rfl) M.str (by decide +kernel) rfl) pa_nil))))) (pw_or1 (pt_not (pt_val (pe_callB (isiK K) (by rfl) M.isinstance (by decide +kernel) (pa_cons (pv 4) (pa_cons (pe_bltn (v := .ty "str") (by rfl) M.str (by decide +kernel) rfl) pa_nil)))))))) (pss_one (ps_ret pe_non)) pss_nil)
      (pss_one (ps_ret (pe_callTy call_int1 (by rfl) M.int (by decide +kernel) (pa_cons (pe_cmpR op_eq (pe_slice sl_str (pv 3) po_none (po_some (pe_callB call_len_str (by rfl) M.len PySem.boot_len (pa_cons (pv 4) pa_nil)))) (pv 4) (nomark _)) pa_nil))))) pss_nil)
      (pss_cons (ps_if (pt_cmpR (notInK K) (pv 2) (pe_tup (pa_cons pe_str (pa_cons pe_str pa_nil))) (by rfl)) (pss_one (ps_ret (pe_u c__law_arithmetic hr (by first | decide | omega) (by rfl) (pa_cons (pv 2) (pa_cons (pv 3) (pa_cons (pv 4) pa_nil)))))) pss_nil)
      (pss_cons (ps_if (PW.pt (pw_or (pt_cmpR op_isN (pv 3) pe_non (nomark _)) (pw_or1 (pt_cmpR op_isN (pv 4) pe_non (nomark _))))) (pss_one (ps_ret pe_non)) pss_nil)
      (pss_one (ps_ret (pe_callTy call_int1 (by rfl) M.int (by decide +kernel) (pa_cons (pe_ifExp (pt_cmpR op_eq (pv 2) pe_str (nomark _)) (pe_cmpR (ltDK K hr.units) (pe_u c__law_key hr (by first | decide | omega) (by rfl) (pa_cons (pv 3) pa_nil)) (pe_u c__law_key hr (by first | decide | omega) (by rfl) (pa_cons (pv 4) pa_nil)) (nomark _)) (pe_cmpR (eqDK K hr.units) (pe_u c__law_key hr (by first | decide | omega) (by rfl) (pa_cons (pv 3) pa_nil)) (pe_u c__law_key hr (by first | decide | omega) (by rfl) (pa_cons (pv 4) pa_nil)) (nomark _))) pa_nil))))))))))))))), ?_⟩
    cases e with
    | col i =>
      have ok : i < r.length := ok
      obtain ⟨b, xs, rfl, hb, hx⟩ := dp_tup dp
      obtain ⟨u, rfl, hu⟩ := dp_two hx
      cases hu
      refine ⟨_, rfl, b, _, _, _, rfl, rfl, hb, atI_nat (j := 0) rfl, ?_⟩
      refine ⟨_, rfl, rfl, _, rfl, ?_⟩
      rw [weq]
      refine iteT ⟨_, rfl, _, rfl, b, _, _, _, rfl, rfl, hb, atI_nat (j := 1) rfl, a, _, _, (r[i]).v, rfl, rfl, hS, atI_nat (by rw [List.getElem?_map, List.getElem?_eq_getElem ok]; rfl), ?_⟩
      have q := q H (.refl H)
      have e2 : (Ep.col i).ev r = r[i] := by
        show r.getD i .n = _
        rw [List.getD_eq_getElem?_getD, List.getElem?_eq_getElem ok]
        rfl
      rw [e2] at q
      exact q
    | con v =>
      obtain ⟨b, xs, rfl, hb, hx⟩ := dp_tup dp
      obtain ⟨u, rfl, hu⟩ := dp_two hx
      have eu : u = v.v := by
        cases v with
        | n => cases hu; rfl
        | i k => cases hu; rfl
        | s l => cases hu; rfl
      subst eu
      refine ⟨_, rfl, b, _, _, _, rfl, rfl, hb, atI_nat (j := 0) rfl, ?_⟩
      refine ⟨_, rfl, rfl, _, rfl, ?_⟩
      rw [wne "constant" "column" (by decide +kernel)]
      refine iteF ⟨_, rfl, rfl, _, rfl, ?_⟩
      rw [weq]
      exact iteT ⟨_, rfl, b, _, _, _, rfl, rfl, hb, atI_nat (j := 1) rfl, q H (.refl H)⟩
    | ch c x y =>
      obtain ⟨b, xs, rfl, hb, hx⟩ := dp_tup dp
      obtain ⟨u1, u2, u3, rfl, d1, d2, d3⟩ : ∃ u1 u2 u3, xs = [.str "choose", u1, u2, u3] ∧ Dp K H u1 c.d ∧ Dp K H u2 x.d ∧ Dp K H u3 y.d := by
        cases hx with
        | cons h1 h2 =>
          cases h1
          cases h2 with
          | cons h3 h4 =>
            cases h4 with
            | cons h5 h6 =>
              cases h6 with
              | cons h7 h8 =>
                cases h8
                exact ⟨_, _, _, rfl, h3, h5, h7⟩
      have hh : (Ep.ch c x y).ht = max c.ht (max x.ht y.ht) + 1 := rfl
      refine ⟨_, rfl, b, _, _, _, rfl, rfl, hb, atI_nat (j := 0) rfl, ?_⟩
      refine ⟨_, rfl, rfl, _, rfl, ?_⟩
      rw [wne "choose" "column" (by decide +kernel)]
      refine iteF ⟨_, rfl, rfl, _, rfl, ?_⟩
      rw [wne "choose" "constant" (by decide +kernel)]
      refine iteF ⟨_, rfl, rfl, _, rfl, ?_⟩
      rw [weq]
      refine iteT ?_
      refine ⟨_, rfl, b, _, _, _, rfl, rfl, hb, atI_nat (j := 1) rfl, _, rfl, u1, a, c, r, rfl, d1, hS, ok.1, hr0, by omega, fun H1 s1 => ?_⟩
      refine ⟨c.ev r, rfl, (c.ev r).kn, true, rfl, rfl, _, rfl, ?_⟩
      have q : ∀ H', Same H H' → Q (if (c.ev r).tr = true then x.ev r else y.ev r).v H' := q
      have hb1 := SqT.ext s1 hb
      rw [← kn_tr]
      cases e : (c.ev r).tr with
      | true =>
        rw [if_pos e] at q
        exact iteT ⟨_, rfl, b, _, _, _, rfl, rfl, hb1, atI_nat (j := 2) rfl, _, rfl, u2, a, x, r, rfl, Dp.ext s1 _ _ d2, SqT.ext s1 hS, ok.2.1, hr0, by omega, fun H2 s2 => q H2 (s1.trans s2)⟩
      | false =>
        rw [if_neg (by rw [e]; exact Bool.false_ne_true)] at q
        exact iteF ⟨_, rfl, b, _, _, _, rfl, rfl, hb1, atI_nat (j := 3) rfl, _, rfl, u3, a, y, r, rfl, Dp.ext s1 _ _ d3, SqT.ext s1 hS, ok.2.2, hr0, by omega, fun H2 s2 => q H2 (s1.trans s2)⟩
    | un o x =>
      obtain ⟨b, xs, rfl, hb, hx⟩ := dp_tup dp
      obtain ⟨u, rfl, hu⟩ := dp_two hx
      have hh : (Ep.un o x).ht = x.ht + 1 := rfl
      refine ⟨_, rfl, b, _, _, _, rfl, rfl, hb, atI_nat (j := 0) rfl, ?_⟩
      refine ⟨_, rfl, rfl, _, rfl, ?_⟩
      rw [wne _ _ (wu_lf o).1]
      refine iteF ⟨_, rfl, rfl, _, rfl, ?_⟩
      rw [wne _ _ (wu_lf o).2]
      refine iteF ⟨_, rfl, rfl, _, rfl, ?_⟩
      rw [wne _ _ (wu_ls o)]
      refine iteF ?_
      refine ⟨_, rfl, b, _, _, _, rfl, rfl, hb, atI_nat (j := 1) rfl, _, rfl, u, a, x, r, rfl, hu, hS, ok, hr0, by omega, fun H1 s1 => ?_⟩
      refine ⟨_, rfl, b, _, rfl, .inr (SqT.ext s1 hb), rfl, _, rfl, ?_⟩
      refine iteT ?_
      exact ⟨_, rfl, _, rfl, o, x.ev r, rfl, Ep.ev_ok hr0 ok, q H1 s1⟩
    | bi o x y =>
      obtain ⟨b, xs, rfl, hb, hx⟩ := dp_tup dp
      obtain ⟨u, u2, rfl, hu, hu2⟩ := dp_three hx
      have hh : (Ep.bi o x y).ht = max x.ht y.ht + 1 := rfl
      have vx := Ep.ev_ok hr0 ok.1
      have vy := Ep.ev_ok hr0 ok.2
      refine ⟨_, rfl, b, _, _, _, rfl, rfl, hb, atI_nat (j := 0) rfl, ?_⟩
      refine ⟨_, rfl, rfl, _, rfl, ?_⟩
      rw [wne _ _ (wb_lf o).1]
      refine iteF ⟨_, rfl, rfl, _, rfl, ?_⟩
      rw [wne _ _ (wb_lf o).2]
      refine iteF ⟨_, rfl, rfl, _, rfl, ?_⟩
      rw [wne _ _ (wb_ls o)]
      refine iteF ?_
      refine ⟨_, rfl, b, _, _, _, rfl, rfl, hb, atI_nat (j := 1) rfl, _, rfl, u, a, x, r, rfl, hu, hS, ok.1, hr0, by omega, fun H1 s1 => ?_⟩
      refine ⟨_, rfl, b, _, rfl, .inr (SqT.ext s1 hb), rfl, _, rfl, ?_⟩
      refine iteF ?_
      refine ⟨_, rfl, b, _, _, _, rfl, rfl, SqT.ext s1 hb, atI_nat (j := 2) rfl, _, rfl, u2, a, y, r, rfl, Dp.ext s1 _ _ hu2, SqT.ext s1 hS, ok.2, hr0, by omega, fun H2 s2 => ?_⟩
      have q : ∀ H', Same H H' → Q (o.f (x.ev r) (y.ev r)).v H' := q
      generalize x.ev r = v at vx q
      generalize y.ev r = w' at vy q
      have s12 := s1.trans s2
      refine ⟨_, rfl, by show 2 ≤ sizeLine; decide, fun t1 nt1 => ?_⟩
      have s3 := same_upd nt1 (o := .tup [.str "and", .str "or"])
      have e3 : (upd H2 t1 (.tup [.str "and", .str "or"])) t1 = some (.tup [.str "and", .str "or"]) := upd_same
      generalize upd H2 t1 (.tup [.str "and", .str "or"]) = H3 at s3 e3
      refine ⟨t1, _, rfl, .inr (.of e3), rfl, rfl, _, rfl, ?_⟩
      rw [if_neg Bool.false_ne_true]
      rcases wb_lg o with ⟨ho, hin⟩ | hin
      · rw [hin]
        exact iteT ⟨_, rfl, _, rfl, _, rfl, o, v, w', ho, rfl, q H3 (s12.trans s3)⟩
      · rw [hin]
        refine iteF ⟨_, rfl, rfl, _, rfl, ?_⟩
        rcases wb_sta o with rfl | hst
        · rw [show decide (V.str (Str.ofString Wb.sta.s) = V.str "starts") = true from weq "starts"]
          have q := q H3 (s12.trans s3)
          refine iteT ⟨_, rfl, _, _, _, _, _, rfl, .ty _, v.ty, kit_ty v.kS, _, rfl, ?_⟩
          cases v with
          | n => exact iteT (iteT q)
          | i k => exact iteT (iteT q)
          | s l =>
            refine iteF ⟨_, rfl, _, _, _, _, _, rfl, .ty _, w'.ty, kit_ty w'.kS, _, rfl, ?_⟩
            cases w' with
            | n => exact iteT q
            | i k => exact iteT q
            | s m =>
              refine iteF ?_
              have hl : l.length = 1 := by rcases vx with rfl | rfl <;> rfl
              have hm : m.length = 1 := by rcases vy with rfl | rfl <;> rfl
              refine ⟨_, rfl, _, rfl, _, rfl, by rw [S_len', hm]; decide, _, rfl, _, rfl, by rw [S_len', hl]; decide, _, rfl, rfl, .inr ⟨_, rfl, ?_⟩⟩
              show Q (V.int (if decide (V.str (cutS ⟨l.toArray⟩ none (some (((⟨m.toArray⟩ : Str).length : Nat) : Int))) = V.str ⟨m.toArray⟩) = true then 1 else 0)) H3
              rw [cut_ab vx vy]
              exact q
        · rw [wne _ _ hst]
          refine iteF ⟨_, rfl, by show 2 ≤ sizeLine; decide, fun t2 nt2 => ?_⟩
          have s4 := same_upd nt2 (o := .tup [.str "less", .str "equal"])
          have e4 : (upd H3 t2 (.tup [.str "less", .str "equal"])) t2 = some (.tup [.str "less", .str "equal"]) := upd_same
          generalize upd H3 t2 (.tup [.str "less", .str "equal"]) = H4 at s4 e4
          have s14 := (s12.trans s3).trans s4
          refine ⟨t2, _, rfl, .inr (.of e4), rfl, rfl, _, rfl, ?_⟩
          rw [if_pos rfl]
          rcases wb_cm o with ⟨rfl, hin2⟩ | ⟨rfl, hin2⟩ | hin2
          · rw [hin2]
            have q : ∀ H', Same H H' → Q (cm bf v w').v H' := q
            unfold cm at q
            refine iteF ⟨_, rfl, rfl, _, rfl, ?_⟩
            rw [v.eN]
            cases e1 : v.isN with
            | true =>
              rw [if_pos e1] at q
              exact iteT (iteT (q H4 s14))
            | false =>
              rw [if_neg (by rw [e1]; exact Bool.false_ne_true)] at q
              refine iteF ⟨_, rfl, rfl, _, rfl, ?_⟩
              rw [w'.eN]
              cases e2 : w'.isN with
              | true =>
                rw [if_pos e2] at q
                exact iteT (q H4 s14)
              | false =>
                rw [if_neg (by rw [e2]; exact Bool.false_ne_true)] at q
                refine iteF ⟨_, rfl, rfl, _, rfl, ?_⟩
                rw [show decide (V.str (Str.ofString Wb.les.s) = V.str "less") = true from weq "less"]
                refine iteT ⟨_, rfl, v, rfl, fun H5 p5 s5 d5 => ?_⟩
                refine ⟨_, rfl, w', rfl, fun H6 p6 s6 d6 => ?_⟩
                refine ⟨_, _, Dp.ext s6 _ _ d5, d6, lk_shaped v vx, lk_shaped w' vy, ok_lk v w', .inr ⟨_, rfl, ?_⟩⟩
                rw [lt_lk]
                exact q H6 ((s14.trans s5).trans s6)
          · rw [hin2]
            have q : ∀ H', Same H H' → Q (cm (fun v w => decide (v = w)) v w').v H' := q
            unfold cm at q
            refine iteF ⟨_, rfl, rfl, _, rfl, ?_⟩
            rw [v.eN]
            cases e1 : v.isN with
            | true =>
              rw [if_pos e1] at q
              exact iteT (iteT (q H4 s14))
            | false =>
              rw [if_neg (by rw [e1]; exact Bool.false_ne_true)] at q
              refine iteF ⟨_, rfl, rfl, _, rfl, ?_⟩
              rw [w'.eN]
              cases e2 : w'.isN with
              | true =>
                rw [if_pos e2] at q
                exact iteT (q H4 s14)
              | false =>
                rw [if_neg (by rw [e2]; exact Bool.false_ne_true)] at q
                refine iteF ⟨_, rfl, rfl, _, rfl, ?_⟩
                rw [show decide (V.str (Str.ofString Wb.equ.s) = V.str "less") = false from wne "equal" "less" (by decide +kernel)]
                refine iteF ⟨_, rfl, v, rfl, fun H5 p5 s5 d5 => ?_⟩
                refine ⟨_, rfl, w', rfl, fun H6 p6 s6 d6 => ?_⟩
                refine ⟨_, _, Dp.ext s6 _ _ d5, d6, lk_shaped v vx, lk_shaped w' vy, .inr ⟨_, rfl, ?_⟩⟩
                rw [eqv_lk]
                exact q H6 ((s14.trans s5).trans s6)
          · rw [hin2]
            exact iteT ⟨_, rfl, _, rfl, _, rfl, o, v, w', wb_ar o hin hst hin2, rfl, vx, vy, q H4 s14⟩
theorem cl_due {f : Addr} {fd : FuncData} (F : Fun K "_law_due" "_law_due" s__law_due f fd) (M : Mg mg) (g : mg "_law_due" = some (.ref f)) (b : Binds K fd ["tree", "row"] []) (c__law_known : Cl P w K mg base 1 "_law_known" sp_known) (c__law_key : Cl P w K mg base 1 "_law_key" (sp_lkey K)) (c__law_arithmetic : Cl P w K mg base 2 "_law_arithmetic" sp_arith) (c__law_logic : Cl P w K mg base 2 "_law_logic" (sp_logic K)) (c__law_single : Cl P w K mg base 3 "_law_single" sp_single) :
    ∀ n, Cl P w K mg base (n + 3) "_law_due" (sp_eval K n)
  | 0 => FnOk.cl (F.ok (k := 2) sc__law_due (fun vs H Q E h => by obtain ⟨p, a, e, r, rfl, _⟩ := h; rfl) (fun cdv A outer s H vs Q E hr h => by obtain ⟨p, a, e, r, rfl, _, _, _, _, hm, _⟩ := h; omega)) F g b
  | n + 1 => FnOk.cl (ok_due n F M c__law_known c__law_key c__law_arithmetic c__law_logic c__law_single (cl_due F M g b c__law_known c__law_key c__law_arithmetic c__law_logic c__law_single n)) F g b
end

/-! ### the laws' drawn expressions -/
def WUS : List Wu := [.neg, .not, .mis, .len]
def WBS : List Wb := [.add, .sub, .mul, .div, .rem, .les, .equ, .and, .or, .sta]
def sp_lexp (K : PySem.W.Frag) (n : Nat) : Sp := fun vs H Q _ => ∃ (d c : Addr) (wd m : Nat), vs = [.ref d, .int (wd : Nat), .int (m : Nat)] ∧ m < n ∧ wd ≤ 100 ∧ Dr H d c ∧ ∀ H' p (e : Ep), Fd d H H' → Dr H' d c → e.ok wd → e.ht ≤ m → Dp K H' p e.d → Q p H'
theorem ep_only : ∀ e : Ep, tupOnly e.d = true
  | .col i => rfl
  | .con v => by cases v <;> rfl
  | .un w a => by
    show (true && (tupOnly a.d && true)) = true
    rw [ep_only a]
    rfl
  | .bi w a b => by
    show (true && (tupOnly a.d && (tupOnly b.d && true))) = true
    rw [ep_only a, ep_only b]
    rfl
  | .ch c a b => by
    show (true && (tupOnly c.d && (tupOnly a.d && (tupOnly b.d && true)))) = true
    rw [ep_only a, ep_only b, ep_only c]
    rfl
section
variable {P : Program} {w : World} {K : PySem.W.Frag} {mg : Str → Option Value} {base : Heap}
set_option maxHeartbeats 1000000 in
theorem ok_lexp (n : Nat) {f : Addr} {fd : FuncData} (F : Fun K "_law_expression" "_law_expression" s__law_expression f fd) (M : Mg mg) (c__law_next : Cl P w K mg base 1 "_law_next" sp_next) (c__law_cell : Cl P w K mg base 2 "_law_cell" sp_cell) (c__law_expression : Cl P w K mg base (n + 2) "_law_expression" (sp_lexp K n)) : FnOk P w K mg base CX0 (n + 3) f fd ["draw", "width", "depth"] (sp_lexp K (n + 1)) := by
  refine F.ok sc__law_expression (fun vs H Q E h => ?_) (fun cdv A outer s H vs Q E hr h => ?_)
  · obtain ⟨d, c, wd, m, rfl, _⟩ := h
    rfl
  · obtain ⟨d, c, wd, m, rfl, hm, hwd, dr, q⟩ := h
    refine ⟨_, (pss_cons (ps_set (i := 3) sc__law_expression.nd rfl (.inl rfl) (pe_u c__law_next hr (by first | decide | omega) (by rfl) (pa_cons (pv 0) (pa_cons pe_int pa_nil))))
      (pss_cons (ps_if (PW.pt (pw_or (pt_cmpR op_eq (pv 2) pe_int (nomark _)) (pw_or1 (pt_cmpR op_lt (pv 3) pe_int (nomark _))))) (pss_cons (ps_if (PW.pt (pw_or (pt_cmpR op_eq (pv 1) pe_int (nomark _)) (pw_or1 (pt_cmpR op_eq (pe_u c__law_next hr (by first | decide | omega) (by rfl) (pa_cons (pv 0) (pa_cons pe_int pa_nil))) pe_int (nomark _))))) (pss_one (ps_ret (pe_tup (pa_cons pe_str (pa_cons (pe_u c__law_cell hr (by first | decide | omega) (by rfl) (pa_cons (pv 0) pa_nil)) pa_nil))))) pss_nil)
      (pss_one (ps_ret (pe_tup (pa_cons pe_str (pa_cons (pe_u c__law_next hr (by first | decide | omega) (by rfl) (pa_cons (pv 0) (pa_cons (pv 1) pa_nil))) pa_nil)))))) pss_nil)
      (pss_cons (ps_if (pt_cmpR op_lt (pv 3) pe_int (nomark _)) (pss_cons (ps_set (i := 4) sc__law_expression.nd rfl (.inl rfl) (pe_ix (ix_listK K) (pe_lst (pa_cons pe_str (pa_cons pe_str (pa_cons pe_str (pa_cons pe_str pa_nil))))) (pe_u c__law_next hr (by first | decide | omega) (by rfl) (pa_cons (pv 0) (pa_cons pe_int pa_nil))) (fun _ _ => rfl)))
      (pss_one (ps_ret (pe_tup (pa_cons (pv 4) (pa_cons (pe_u c__law_expression hr (by first | decide | omega) (by rfl) (pa_cons (pv 0) (pa_cons (pv 1) (pa_cons (pe_op op_sub (pv 2) pe_int) pa_nil)))) pa_nil)))))) pss_nil)
      (pss_cons (ps_set (i := 5) sc__law_expression.nd rfl (.inl rfl) (pe_u c__law_expression hr (by first | decide | omega) (by rfl) (pa_cons (pv 0) (pa_cons (pv 1) (pa_cons (pe_op op_sub (pv 2) pe_int) pa_nil)))))
      (pss_cons (ps_set (i := 6) sc__law_expression.nd rfl (.inl rfl) (pe_u c__law_expression hr (by first | decide | omega) (by rfl) (pa_cons (pv 0) (pa_cons (pv 1) (pa_cons (pe_op op_sub (pv 2) pe_int) pa_nil)))))
      (pss_cons (ps_if (pt_cmpR op_eq (pv 3) pe_int (nomark _)) (pss_one (ps_ret (pe_tup (pa_cons pe_str (pa_cons (pe_u c__law_expression hr (by first | decide | omega) (by rfl) (pa_cons (pv 0) (pa_cons (pv 1) (pa_cons (pe_op op_sub (pv 2) pe_int) pa_nil)))) (pa_cons (pv 5) (pa_cons (pv 6) pa_nil))))))) pss_nil)
      (pss_cons (ps_set (i := 7) sc__law_expression.nd rfl (.inl rfl) (pe_lst (pa_cons pe_str (pa_cons pe_str (pa_cons pe_str (pa_cons pe_str (pa_cons pe_str (pa_cons pe_str (pa_cons pe_str (pa_cons pe_str (pa_cons pe_str (pa_cons pe_str pa_nil))))))))))))
      (pss_one (ps_ret (pe_tup (pa_cons (pe_ix (ix_listK K) (pv 7) (pe_u c__law_next hr (by first | decide | omega) (by rfl) (pa_cons (pv 0) (pa_cons pe_int pa_nil))) (fun _ _ => rfl)) (pa_cons (pv 5) (pa_cons (pv 6) pa_nil))))))))))))), ?_⟩
    refine ⟨_, rfl, d, c, 12, rfl, dr, by decide, by decide, fun H1 r f1 _ dr1 r0 r1 => ?_⟩
    have cnst : ∀ (H2 : Hp) (z : List (Option V)), Fd d H H2 → Dr H2 d c → z[0]? = some (some (.ref d)) →
        tTup (tCons (tC (V.str (Str.ofString "constant"))) (tCons (tCall sp_cell [] E0 (tCons (tVar 0) tNil)) tNil)) z H2 Q := fun H2 z f2 dr2 hz => by
      refine ⟨_, hz, d, c, rfl, dr2, fun H3 v f3 dr3 sm => ?_⟩
      refine ⟨by show 2 ≤ sizeLine; decide, fun p np => ?_⟩
      exact q _ _ (.con v) ((f2.trans f3).trans (Fd.new np)) (dr3.ext (same_upd np)) (Vl.sm_ok sm) (Nat.zero_le _) (.tup (.inl (.inl upd_same)) (.cons (.str _) (.cons (v.dp) .nil)))
    by_cases hd : m = 0 ∨ r < 5
    · refine ⟨_, rfl, rfl, _, rfl, ?_⟩
      refine ite2 (fun e => iteT ?_) (fun e => ⟨_, rfl, _, _, rfl, rfl, _, rfl, ?x⟩)
      case' x =>
        rw [decide_eq_true (show r < 5 by
          rcases hd with rfl | h
          · exact absurd (decide_eq_true rfl) e
          · exact h)]
        refine iteT ?_
      all_goals
        refine ⟨_, rfl, rfl, _, rfl, ?_⟩
        refine ite2 (fun e2 => iteT ?_) (fun e2 => ?_)
        · exact cnst _ _ f1 dr1 rfl
        · have hw0 : wd ≠ 0 := fun z => e2 (by subst z; exact decide_eq_true rfl)
          refine ⟨_, rfl, d, c, 3, rfl, dr1, by decide, by decide, fun H2 r2 f2 _ dr2 r20 r21 => ?_⟩
          refine ⟨rfl, _, rfl, ite2 (fun e3 => ?_) (fun e3 => ?_)⟩
          · exact cnst _ _ (f1.trans f2) dr2 rfl
          · refine ⟨_, rfl, _, rfl, d, c, (wd : Nat), rfl, dr2, by omega, by omega, fun H3 r3 f3 _ dr3 r30 r31 => ?_⟩
            obtain ⟨k3, rfl⟩ := Int.eq_ofNat_of_zero_le r30
            refine ⟨by show 2 ≤ sizeLine; decide, fun p np => ?_⟩
            exact q _ _ (.col k3) (((f1.trans f2).trans f3).trans (Fd.new np)) (dr3.ext (same_upd np)) (by show k3 < wd; omega) (Nat.zero_le _) (.tup (.inl (.inl upd_same)) (.cons (.str _) (.cons (.int _) .nil)))
    · obtain ⟨k, rfl⟩ : ∃ k, m = k + 1 := ⟨m - 1, by omega⟩
      have dec : [V.ref d, V.int ((wd : Nat) : Int), V.int (((k + 1 : Nat) : Int) - 1)] = [V.ref d, V.int ((wd : Nat) : Int), V.int (k : Nat)] := by rw [show (((k + 1 : Nat) : Int) - 1) = (k : Nat) by omega]
      refine ⟨_, rfl, rfl, _, rfl, ?_⟩
      rw [show decide (V.int ((k + 1 : Nat) : Int) = V.int 0) = false from decide_eq_false fun z => by have := V.int.inj z; omega]
      refine iteF ⟨_, rfl, _, _, rfl, rfl, _, rfl, ?_⟩
      rw [decide_eq_false (show ¬ r < 5 by omega)]
      refine iteF ⟨_, rfl, _, _, rfl, rfl, _, rfl, ite2 (fun e => ?_) (fun e => ?_)⟩
      · -- one operand
        refine ⟨by show 4 ≤ sizeLine; decide, fun wp nwp => ?_⟩
        have sw := same_upd nwp (o := .lst [V.str "negate", V.str "not", V.str "missing", V.str "length"])
        have ew : (upd H1 wp (.lst [V.str "negate", V.str "not", V.str "missing", V.str "length"])) wp = some (.lst (WUS.map fun w => V.str (Str.ofString w.s))) := upd_same
        have nwd := dr1.nd nwp
        generalize upd H1 wp (.lst [V.str "negate", V.str "not", V.str "missing", V.str "length"]) = H2 at sw ew
        have dr2 := dr1.ext sw
        refine ⟨_, rfl, d, c, 4, rfl, dr2, by decide, by decide, fun H3 r3 f3 _ dr3 r30 r31 => ?_⟩
        obtain ⟨k3, rfl⟩ := Int.eq_ofNat_of_zero_le r30
        have hk3 : k3 < WUS.length := by show k3 < 4; omega
        refine ⟨wp, _, _, V.str (Str.ofString WUS[k3].s), rfl, rfl, .of (f3 _ _ nwd ew), atI_nat (by rw [List.getElem?_map, List.getElem?_eq_getElem hk3]; rfl), ?_⟩
        refine ⟨_, rfl, _, rfl, _, rfl, _, rfl, _, _, rfl, rfl, d, c, wd, k, dec, by omega, hwd, dr3, fun H4 p1 t1 f4 dr4 ok1 ht1 dp1 => ?_⟩
        refine ⟨by show 2 ≤ sizeLine; decide, fun p np => ?_⟩
        exact q _ _ (.un WUS[k3] t1) ((((f1.trans (Fd.of sw)).trans f3).trans f4).trans (Fd.new np)) (dr4.ext (same_upd np)) ok1 (by show t1.ht + 1 ≤ k + 1; omega) (.tup (.inl (.inl upd_same)) (.cons (.str _) (.cons (Dp.ext (same_upd np) _ _ dp1) .nil)))
      · refine ⟨_, rfl, _, rfl, _, rfl, _, _, rfl, rfl, d, c, wd, k, dec, by omega, hwd, dr1, fun H2 p1 t1 f2 dr2 ok1 ht1 dp1 => ?_⟩
        refine ⟨_, rfl, _, rfl, _, rfl, _, _, rfl, rfl, d, c, wd, k, dec, by omega, hwd, dr2, fun H3 p2 t2 f3 dr3 ok2 ht2 dp2 => ?_⟩
        have dp13 := Dp.fd dr2.lst f3 _ _ (ep_only t1) dp1
        have f13 := (f1.trans f2).trans f3
        refine ⟨_, rfl, rfl, _, rfl, ite2 (fun e2 => ?_) (fun e2 => ?_)⟩
        · refine ⟨_, rfl, _, rfl, _, rfl, _, _, rfl, rfl, d, c, wd, k, dec, by omega, hwd, dr3, fun H4 p3 t3 f4 dr4 ok3 ht3 dp3 => ?_⟩
          have dp14 := Dp.fd dr3.lst f4 _ _ (ep_only t1) dp13
          have dp24 := Dp.fd dr3.lst f4 _ _ (ep_only t2) dp2
          refine ⟨_, rfl, _, rfl, by show 4 ≤ sizeLine; decide, fun p np => ?_⟩
          exact q _ _ (.ch t3 t1 t2) ((f13.trans f4).trans (Fd.new np)) (dr4.ext (same_upd np)) ⟨ok3, ok1, ok2⟩ (by show max t3.ht (max t1.ht t2.ht) + 1 ≤ k + 1; omega) (.tup (.inl (.inl upd_same)) (.cons (.str _) (.cons (Dp.ext (same_upd np) _ _ dp3) (.cons (Dp.ext (same_upd np) _ _ dp14) (.cons (Dp.ext (same_upd np) _ _ dp24) .nil)))))
        · refine ⟨by show 10 ≤ sizeLine; decide, fun wp nwp => ?_⟩
          have sw := same_upd nwp (o := .lst [V.str "add", V.str "subtract", V.str "multiply", V.str "divide", V.str "remainder", V.str "less", V.str "equal", V.str "and", V.str "or", V.str "starts"])
          have ew : (upd H3 wp (.lst [V.str "add", V.str "subtract", V.str "multiply", V.str "divide", V.str "remainder", V.str "less", V.str "equal", V.str "and", V.str "or", V.str "starts"])) wp = some (.lst (WBS.map fun w => V.str (Str.ofString w.s))) := upd_same
          have nwd := dr3.nd nwp
          generalize upd H3 wp (.lst [V.str "add", V.str "subtract", V.str "multiply", V.str "divide", V.str "remainder", V.str "less", V.str "equal", V.str "and", V.str "or", V.str "starts"]) = H4 at sw ew
          have dr4 := dr3.ext sw
          refine ⟨_, rfl, _, rfl, d, c, 10, rfl, dr4, by decide, by decide, fun H5 r5 f5 _ dr5 r50 r51 => ?_⟩
          obtain ⟨k5, rfl⟩ := Int.eq_ofNat_of_zero_le r50
          have hk5 : k5 < WBS.length := by show k5 < 10; omega
          have f35 := (Fd.of (d := d) sw).trans f5
          have dp15 := Dp.fd dr3.lst f35 _ _ (ep_only t1) dp13
          have dp25 := Dp.fd dr3.lst f35 _ _ (ep_only t2) dp2
          refine ⟨wp, _, _, V.str (Str.ofString WBS[k5].s), rfl, rfl, .of (f5 _ _ nwd ew), atI_nat (by rw [List.getElem?_map, List.getElem?_eq_getElem hk5]; rfl), ?_⟩
          refine ⟨_, rfl, _, rfl, by show 3 ≤ sizeLine; decide, fun p np => ?_⟩
          exact q _ _ (.bi WBS[k5] t1 t2) ((f13.trans f35).trans (Fd.new np)) (dr5.ext (same_upd np)) ⟨ok1, ok2⟩ (by show max t1.ht t2.ht + 1 ≤ k + 1; omega) (.tup (.inl (.inl upd_same)) (.cons (.str _) (.cons (Dp.ext (same_upd np) _ _ dp15) (.cons (Dp.ext (same_upd np) _ _ dp25) .nil))))
theorem cl_lexp {f : Addr} {fd : FuncData} (F : Fun K "_law_expression" "_law_expression" s__law_expression f fd) (M : Mg mg) (g : mg "_law_expression" = some (.ref f)) (b : Binds K fd ["draw", "width", "depth"] []) (c__law_next : Cl P w K mg base 1 "_law_next" sp_next) (c__law_cell : Cl P w K mg base 2 "_law_cell" sp_cell) : ∀ n, Cl P w K mg base (n + 2) "_law_expression" (sp_lexp K n)
  | 0 => FnOk.cl (F.ok (k := 1) sc__law_expression (fun vs H Q E h => by obtain ⟨d, c, wd, m, rfl, _⟩ := h; rfl) (fun cdv A outer s H vs Q E hr h => by obtain ⟨d, c, wd, m, rfl, hm, _⟩ := h; omega)) F g b
  | n + 1 => FnOk.cl (ok_lexp n F M c__law_next c__law_cell (cl_lexp F M g b c__law_next c__law_cell n)) F g b
end

/-! ### two data that are the same -/
/-- data of some depth, their lists not too long -/
inductive Sh : Nat → PyData → Prop
  | non {n : Nat} : Sh n .none
  | bl {n : Nat} (b : Bool) : Sh n (.bool b)
  | int {n : Nat} (i : Int) : Sh n (.int i)
  | str {n : Nat} (x : Str) : Sh n (.str x)
  | lst {n : Nat} {ds : List PyData} (l : ds.length ≤ 100000) (h : ∀ d ∈ ds, Sh n d) : Sh (n + 1) (.list ds)
  | tup {n : Nat} {ds : List PyData} (l : ds.length ≤ 100000) (h : ∀ d ∈ ds, Sh n d) : Sh (n + 1) (.tuple ds)
def tnm : PyData → String
  | .none => "NoneType"
  | .bool _ => "bool"
  | .int _ => "int"
  | .str _ => "str"
  | .list _ => "list"
  | .tuple _ => "tuple"
  | .dict _ => "dict"
theorem tyD {K : PySem.W.Frag} {H : Hp} {v : V} {d : PyData} (h : Dp K H v d) : TyX K H v (.type (tnm d)) := by
  cases h with
  | non => exact .base .non
  | bl b => exact .base (.bl b)
  | int i => exact .base (.int i)
  | str x => exact .base (.str x)
  | lst hs _ => exact tyL hs
  | tup hs _ => exact tyT hs
theorem k_any2 {K : PySem.W.Frag} {tn c1 c2 : String} {r1 r2 : Bool} (h1 : kitB tn c1 = some r1) (h2 : kitB tn c2 = some r2) : PySem.W.kitAny K (.type tn) [.type c1, .type c2] = some (r1 || r2) :=
  kitAny_cons (kit_ty h1) (fun e => by
    rw [e, Bool.false_or]
    exact kitAny_cons (b := r2) (kit_ty h2) (fun e2 => by rw [e2]; exact kitAny_nil) (fun e2 => e2)) (fun e => by rw [e, Bool.true_or])
theorem rep_bl (n : Nat) : (List.replicate n true).all id = true := by
  rw [List.all_replicate]
  simp
def sp_same (K : PySem.W.Frag) (n : Nat) : Sp := fun vs H Q _ => ∃ (x y : V) (D : PyData) (m : Nat), n = m + 1 ∧ vs = [x, y] ∧ Sh m D ∧ Dp K H x D ∧ Dp K H y D ∧ ∀ H', Same H H' → Q (.bl true) H'
section
variable {P : Program} {w : World} {K : PySem.W.Frag} {mg : Str → Option Value} {base : Heap}
theorem ok_same {f : Addr} {fd : FuncData} {n l : Nat} (F : Fun K "_law_same" "_law_same" s__law_same f fd) (M : Mg mg) (c__law_same : Cl P w K mg base l "_law_same" (sp_same K n)) : FnOk P w K mg base CX0 (l + 1) f fd ["actual", "due"] (sp_same K (n + 1)) := by
  refine F.ok sc__law_same (fun vs H Q E h => ?_) (fun cdv A outer s H vs Q E hr h => ?_)
  · obtain ⟨x, y, D, m, _, rfl, _⟩ := h
    rfl
  · obtain ⟨x, y, D, m, em, rfl, sh, hx, hy, q⟩ := h
    refine ⟨_, (pss_cons (ps_if (pt_val (pe_callB (isiTK K) (by rfl) M.isinstance (by decide +kernel) (pa_cons (pv 1) (pa_cons (pe_tup (pa_cons (pe_bltn (v := .ty "list") (by rfl) M.list (by decide +kernel) rfl) (pa_cons (pe_bltn (v := .ty "tuple") (by rfl) M.tuple (by decide +kernel) rfl) pa_nil))) pa_nil)))) (pss_cons (ps_if (PW.pt (pw_or (pt_cmpR op_ne (pe_callB (isiK K) (by rfl) M.isinstance (by decide +kernel) (pa_cons (pv 1) (pa_cons (pe_bltn (v := .ty "list") (by rfl) M.list (by decide +kernel) rfl) pa_nil))) (pe_callB (isiK K) (by rfl) M.isinstance (by decide +kernel) (pa_cons (pv 0) (pa_cons (pe_bltn (v := .ty "list") (by rfl) M.list (by decide +kernel) rfl) pa_nil))) (nomark _)) (pw_or1 (pt_cmpR op_ne (pe_callB (isiK K) (by rfl) M.isinstance (by decide +kernel) (pa_cons (pv 1) (pa_cons (pe_bltn (v := .ty "tuple") (by rfl) M.tuple (by decide +kernel) rfl) pa_nil))) (pe_callB (isiK K) (by rfl) M.isinstance (by decide +kernel) (pa_cons (pv 0) (pa_cons (pe_bltn (v := .ty "tuple") (by rfl) M.tuple (by decide +kernel) rfl) pa_nil))) (nomark _))))) (pss_one (ps_ret pe_bl)) pss_nil)
      (pss_cons (ps_if (pt_cmpR op_ne (pe_callB (len_seqK K) (by rfl) M.len PySem.boot_len (pa_cons (pv 0) pa_nil)) (pe_callB (len_seqK K) (by rfl) M.len PySem.boot_len (pa_cons (pv 1) pa_nil)) (nomark _)) (pss_one (ps_ret pe_bl)) pss_nil)
      (pss_one (ps_ret (pe_callB (allK K rfl) (by rfl) M.all (by decide +kernel) (pa_cons (pe_lc (own := [("k", 2)]) (g := gName 2) (tt := tYes) rfl sc__law_same.nd (pi_range1 (by rfl) M.range (pa_cons (pe_callB (len_seqK K) (by rfl) M.len PySem.boot_len (pa_cons (pv 1) pa_nil)) pa_nil)) (blkOk_by (N := N__law_same) (sc := defScope s__law_same) (by decide +kernel)) (fun _ _ _ _ _ => (pg_name (i := 2) sc__law_same.nd rfl (.inl rfl))) (fun _ _ _ _ _ => pts_nil) (fun _ _ _ _ _ => (pe_u c__law_same hr (by first | decide | omega) (by rfl) (pa_cons (pe_ix (ix_seqK K) (pv 0) (pv 2) (fun _ _ => rfl)) (pa_cons (pe_ix (ix_seqK K) (pv 1) (pv 2) (fun _ _ => rfl)) pa_nil))))) pa_nil)))))) pss_nil)
      (pss_cons (ps_if (pt_cmpR op_isN (pv 1) pe_non (nomark _)) (pss_one (ps_ret (pe_cmpR op_isN (pv 0) pe_non (nomark _)))) pss_nil)
      (pss_cons (ps_if (pt_cmpR op_ne (pe_callB (isiK K) (by rfl) M.isinstance (by decide +kernel) (pa_cons (pv 1) (pa_cons (pe_bltn (v := .ty "bool") (by rfl) M.bool (by decide +kernel) rfl) pa_nil))) (pe_callB (isiK K) (by rfl) M.isinstance (by decide +kernel) (pa_cons (pv 0) (pa_cons (pe_bltn (v := .ty "bool") (by rfl) M.bool (by decide +kernel) rfl) pa_nil))) (nomark _)) (pss_one (ps_ret pe_bl)) pss_nil)
      (pss_cons (ps_if (pt_val (pe_callB (isiK K) (by rfl) M.isinstance (by decide +kernel) (pa_cons (pv 1) (pa_cons (pe_bltn (v := .ty "str") (by rfl) M.str (by decide +kernel) rfl) pa_nil)))) (pss_one (ps_ret (pe_and (pe_callB (isiK K) (by rfl) M.isinstance (by decide +kernel) (pa_cons (pv 0) (pa_cons (pe_bltn (v := .ty "str") (by rfl) M.str (by decide +kernel) rfl) pa_nil))) (pe_one (pe_cmpR op_eq (pv 0) (pv 1) (nomark _)))))) pss_nil)
      (pss_one (ps_ret (pe_and (pe_callB (isiK K) (by rfl) M.isinstance (by decide +kernel) (pa_cons (pv 0) (pa_cons (pe_bltn (v := .ty "int") (by rfl) M.int (by decide +kernel) rfl) pa_nil))) (pe_one (pe_cmpR op_eq (pv 0) (pv 1) (nomark _)))))))))), ?_⟩
    refine ⟨_, rfl, by show 2 ≤ sizeLine; decide, fun p np => ?_⟩
    have s1 : Same H (upd H p (.tup [.ty "list", .ty "tuple"])) := same_upd np
    have h1 : (upd H p (.tup [.ty "list", .ty "tuple"])) p = some (.tup [.ty "list", .ty "tuple"]) := upd_same
    generalize upd H p (.tup [.ty "list", .ty "tuple"]) = H1 at s1 h1
    have hx1 := Dp.ext s1 D x hx
    have hy1 := Dp.ext s1 D y hy
    have key : (∃ (a b : Addr) (xs ys : List V) (ds : List PyData) (k : Nat) (tn : String) (r1 r2 : Bool), x = .ref a ∧ y = .ref b ∧ (SqL K H1 a xs ∧ SqL K H1 b ys ∨ SqT K H1 a xs ∧ SqT K H1 b ys) ∧ DpAll K H1 xs ds ∧ DpAll K H1 ys ds ∧ ds.length ≤ 100000 ∧ m = k + 1 ∧ (∀ d ∈ ds, Sh k d) ∧
        TyX K H1 x (.type tn) ∧ TyX K H1 y (.type tn) ∧ kitB tn "list" = some r1 ∧ kitB tn "tuple" = some r2 ∧ (r1 || r2) = true) ∨
        (∃ (tn : String), TyX K H1 x (.type tn) ∧ TyX K H1 y (.type tn) ∧ kitB tn "list" = some false ∧ kitB tn "tuple" = some false ∧ (x = .non ∧ y = .non ∨ (∃ b, x = .bl b ∧ y = .bl b ∧ tn = "bool") ∨ (∃ i, x = .int i ∧ y = .int i ∧ tn = "int") ∨ (∃ z, x = .str z ∧ y = .str z ∧ tn = "str"))) := by
      cases sh with
      | non => cases hx1; cases hy1; exact .inr ⟨"NoneType", .base .non, .base .non, by decide +kernel, by decide +kernel, .inl ⟨rfl, rfl⟩⟩
      | bl b => cases hx1; cases hy1; exact .inr ⟨"bool", .base (.bl b), .base (.bl b), by decide +kernel, by decide +kernel, .inr (.inl ⟨b, rfl, rfl, rfl⟩)⟩
      | int i => cases hx1; cases hy1; exact .inr ⟨"int", .base (.int i), .base (.int i), by decide +kernel, by decide +kernel, .inr (.inr (.inl ⟨i, rfl, rfl, rfl⟩))⟩
      | str z => cases hx1; cases hy1; exact .inr ⟨"str", .base (.str z), .base (.str z), by decide +kernel, by decide +kernel, .inr (.inr (.inr ⟨z, rfl, rfl, rfl⟩))⟩
      | lst l h =>
        cases hx1 with
        | lst hs ha =>
          cases hy1 with
          | lst hs' ha' => exact .inl ⟨_, _, _, _, _, _, "list", true, false, rfl, rfl, .inl ⟨hs, hs'⟩, ha, ha', l, rfl, h, tyL hs, tyL hs', by decide +kernel, by decide +kernel, rfl⟩
      | tup l h =>
        cases hx1 with
        | tup hs ha =>
          cases hy1 with
          | tup hs' ha' => exact .inl ⟨_, _, _, _, _, _, "tuple", false, true, rfl, rfl, .inr ⟨hs, hs'⟩, ha, ha', l, rfl, h, tyT hs, tyT hs', by decide +kernel, by decide +kernel, rfl⟩
    rcases key with ⟨a, b, xs, ys, ds, k, tn, r1, r2, rfl, rfl, hq, ha, hb, hl, ek, hk, tx, ty, k1, k2, kr⟩ | ⟨tn, tx, ty, k1, k2, hs⟩
    · -- a list or a tuple
      have ex := DpAll.len ha
      have ey := DpAll.len hb
      have hqa : SqL K H1 a xs ∨ SqT K H1 a xs := hq.elim (fun z => .inl z.1) (fun z => .inr z.1)
      have hqb : SqL K H1 b ys ∨ SqT K H1 b ys := hq.elim (fun z => .inl z.2) (fun z => .inr z.2)
      refine ⟨_, _, _, _, _, _, rfl, h1, .cons (.ty _) (.cons (.ty _) .nil), ty, k_any2 k1 k2, ?_⟩
      refine ⟨_, rfl, ?_⟩
      rw [kr]
      refine iteT ?_
      -- the kinds
      refine ⟨_, rfl, ⟨_, _, _, _, _, rfl, .ty _, ty, kit_ty k1, _, rfl, ⟨_, _, _, _, _, rfl, .ty _, tx, kit_ty k1, rfl, _, rfl, ?_⟩⟩⟩
      rw [decide_eq_true (rfl : V.bl r1 = V.bl r1)]
      refine iteF ?_
      refine ⟨_, rfl, ⟨_, _, _, _, _, rfl, .ty _, ty, kit_ty k2, _, rfl, ⟨_, _, _, _, _, rfl, .ty _, tx, kit_ty k2, rfl, _, rfl, ?_⟩⟩⟩
      rw [decide_eq_true (rfl : V.bl r2 = V.bl r2)]
      refine iteF ?_
      -- the lengths
      refine ⟨_, rfl, a, xs, rfl, hqa, ⟨_, rfl, b, ys, rfl, hqb, rfl, _, rfl, ?_⟩⟩
      rw [ex, ey, decide_eq_true (rfl : V.int (ds.length : Int) = V.int (ds.length : Int))]
      refine iteF ?_
      -- by places
      refine ⟨_, rfl, b, ys, rfl, hqb, _, rfl, by omega, by omega, fun D nD => ?_⟩
      rw [ey]
      refine lc_range (lo := 0) (n := ((ds.length : Nat) : Int).toNat) (fun i Hi => Same H1 Hi ∧ Hi D = some (.lst ((List.replicate i true).map V.bl))) ⟨same_upd nD, upd_same⟩ (fun i Hi hi hp => ?_) (fun Hn hp => ?_)
      · obtain ⟨si, eD⟩ := hp
        have hi2 : i < ds.length := by omega
        obtain ⟨va, hva, da⟩ := DpAll.get (DpAll.ext si ds xs ha) (List.getElem?_eq_getElem hi2)
        obtain ⟨vb, hvb, db⟩ := DpAll.get (DpAll.ext si ds ys hb) (List.getElem?_eq_getElem hi2)
        have ia : rIx K (.ref a) (.int (0 + (i : Int))) Hi = rIx K (.ref a) (.int (0 + (i : Int))) Hi := rfl
        refine ⟨rfl, ?_⟩
        have go : ∀ (c : Addr) (zs : List V) (v : V) (Q : VK), (SqL K H1 c zs ∨ SqT K H1 c zs) → zs[i]? = some v → Q v Hi → rIx K (.ref c) (.int (0 + (i : Int))) Hi Q := fun c zs v Q hz hv hQ => by
          rcases hz with hz | hz
          · exact .inl ⟨c, zs, _, v, rfl, rfl, si.seq hz, at_0 hv, hQ⟩
          · exact .inr (.inl ⟨c, zs, _, v, rfl, rfl, SqT.ext si hz, at_0 hv, hQ⟩)
        refine ⟨_, rfl, _, rfl, go a xs va _ hqa hva ⟨_, rfl, _, rfl, go b ys vb _ hqb hvb ?_⟩⟩
        refine ⟨va, vb, ds[i], k, by omega, rfl, hk _ (List.getElem_mem hi2), da, db, fun H' s' => ?_⟩
        refine ⟨_, s' _ _ eD, ?_, fun b o e => ?_, ?_⟩
        · rw [List.length_map, List.length_replicate]
          exact Nat.lt_of_lt_of_le (m := 100000) (by omega) (by decide)
        · have nb : b ≠ D := ne_of_none e nD
          rw [upd_ne nb]
          exact s' _ _ (si _ _ e)
        · rw [upd_same, List.replicate_succ', List.map_append]
          rfl
      · obtain ⟨si, eD⟩ := hp
        refine ⟨D, _, rfl, .of eD, ?_⟩
        rw [rep_bl]
        exact q _ (s1.trans si)
    · -- neither
      refine ⟨_, _, _, _, _, _, rfl, h1, .cons (.ty _) (.cons (.ty _) .nil), ty, k_any2 k1 k2, ?_⟩
      refine ⟨_, rfl, iteF ?_⟩
      rcases hs with ⟨rfl, rfl⟩ | ⟨b, rfl, rfl, rfl⟩ | ⟨i, rfl, rfl, rfl⟩ | ⟨z, rfl, rfl, rfl⟩
      · -- None
        refine ⟨_, rfl, rfl, _, rfl, iteT ?_⟩
        refine ⟨_, rfl, rfl, ?_⟩
        exact q _ s1
      · refine ⟨_, rfl, rfl, _, rfl, iteF ?_⟩
        refine ⟨_, rfl, ⟨_, _, _, _, _, rfl, .ty _, ty, kit_ty (show kitB _ _ = some true by decide +kernel), _, rfl, ⟨_, _, _, _, _, rfl, .ty _, tx, kit_ty (show kitB _ _ = some true by decide +kernel), rfl, _, rfl, iteF ?_⟩⟩⟩
        refine ⟨_, rfl, ⟨_, _, _, _, _, rfl, .ty _, ty, kit_ty (show kitB _ _ = some false by decide +kernel), _, rfl, iteF ?_⟩⟩
        refine ⟨_, rfl, ⟨_, _, _, _, _, rfl, .ty _, tx, kit_ty (show kitB _ _ = some true by decide +kernel), _, rfl, iteT ?_⟩⟩
        refine ⟨_, rfl, _, rfl, by cases b <;> rfl, ?_⟩
        rw [decide_eq_true (rfl : V.bl b = V.bl b)]
        exact q _ s1
      · refine ⟨_, rfl, rfl, _, rfl, iteF ?_⟩
        refine ⟨_, rfl, ⟨_, _, _, _, _, rfl, .ty _, ty, kit_ty (show kitB _ _ = some false by decide +kernel), _, rfl, ⟨_, _, _, _, _, rfl, .ty _, tx, kit_ty (show kitB _ _ = some false by decide +kernel), rfl, _, rfl, iteF ?_⟩⟩⟩
        refine ⟨_, rfl, ⟨_, _, _, _, _, rfl, .ty _, ty, kit_ty (show kitB _ _ = some false by decide +kernel), _, rfl, iteF ?_⟩⟩
        refine ⟨_, rfl, ⟨_, _, _, _, _, rfl, .ty _, tx, kit_ty (show kitB _ _ = some true by decide +kernel), _, rfl, iteT ?_⟩⟩
        refine ⟨_, rfl, _, rfl, rfl, ?_⟩
        rw [decide_eq_true (rfl : V.int i = V.int i)]
        exact q _ s1
      · refine ⟨_, rfl, rfl, _, rfl, iteF ?_⟩
        refine ⟨_, rfl, ⟨_, _, _, _, _, rfl, .ty _, ty, kit_ty (show kitB _ _ = some false by decide +kernel), _, rfl, ⟨_, _, _, _, _, rfl, .ty _, tx, kit_ty (show kitB _ _ = some false by decide +kernel), rfl, _, rfl, iteF ?_⟩⟩⟩
        refine ⟨_, rfl, ⟨_, _, _, _, _, rfl, .ty _, ty, kit_ty (show kitB _ _ = some true by decide +kernel), _, rfl, iteT ?_⟩⟩
        refine ⟨_, rfl, ⟨_, _, _, _, _, rfl, .ty _, tx, kit_ty (show kitB _ _ = some true by decide +kernel), _, rfl, iteT ?_⟩⟩
        refine ⟨_, rfl, _, rfl, rfl, ?_⟩
        rw [decide_eq_true (rfl : V.str z = V.str z)]
        exact q _ s1
/-- no data at all: where the recursion ends -/
theorem ok_same0 {f : Addr} {fd : FuncData} (F : Fun K "_law_same" "_law_same" s__law_same f fd) : FnOk P w K mg base CX0 1 f fd ["actual", "due"] (sp_same K 0) := by
  refine F.ok sc__law_same (fun vs H Q E h => ?_) (fun cdv A outer s H vs Q E hr h => ?_)
  · obtain ⟨x, y, D, m, e, _⟩ := h
    exact absurd e (by omega)
  · obtain ⟨x, y, D, m, e, _⟩ := h
    exact absurd e (by omega)
/-- of any depth -/
theorem cl_same {f : Addr} {fd : FuncData} (F : Fun K "_law_same" "_law_same" s__law_same f fd) (M : Mg mg) (g : mg "_law_same" = some (.ref f)) (b : Binds K fd ["actual", "due"] []) : ∀ n : Nat, Cl P w K mg base (n + 1) "_law_same" (sp_same K n)
  | 0 => FnOk.cl (ok_same0 F) F g b
  | n + 1 => FnOk.cl (ok_same F M (cl_same F M g b n)) F g b
end

/-! ### sorted(xs, key=f): keys that are data, any number of them -/
/-- what the heap tells of a machine value -/
def bk : Value → V
  | .none => .non
  | .bool b => .bl b
  | .int i _ => .int i
  | .str x _ => .str x
  | .bytes b _ => .byt b
  | .float b _ => .flt b
  | .ref a => .ref a
  | .type n => .ty n
  | _ => .non
theorem bk_rel : ∀ {y : V} {v : Value}, RelV y v → bk v = y
  | .non, _, h => by cases h; rfl
  | .bl _, _, h => by cases h; rfl
  | .int _, _, h => by obtain ⟨t, rfl⟩ := h; rfl
  | .str _, _, h => by obtain ⟨t, rfl⟩ := h; rfl
  | .byt _, _, h => by obtain ⟨t, rfl⟩ := h; rfl
  | .flt _, _, h => by obtain ⟨t, rfl⟩ := h; rfl
  | .ref _, _, h => by cases h; rfl
  | .ty _, _, h => by cases h; rfl
/-- a tuple that begins with an int (b) or with a tuple -/
structure KeyD (b : Bool) (d : PyData) : Prop where
  hd : ∃ d0 ds, d = .tuple (d0 :: ds) ∧ (if b = true then ∃ n, d0 = .int n else ∃ es, d0 = .tuple es)
  lay : d.canLay0 = true
  dep : d.depth ≤ 40
section
open PySem.SeqAt PySem.W
theorem lex_D {prog : Program} {w : World} {A : Around} {s : Shared} (b : Bool) {Q : Bool → Shared → Prop} : ∀ (xs ys : List PyData) (vs ws : List Value) (as bs : List Addr) (i : Nat), ReadsAll s.heap vs xs as → ReadsAll s.heap ws ys bs → PyData.canLayAll0 xs = true → PyData.canLayAll0 ys = true →
    okDs xs ys = true → A.units + min (PyData.depthAll xs) (PyData.depthAll ys) < cLine → (b = true → i = 0 → ∀ x r y r', xs = x :: r → ys = y :: r' → ∃ m n, x = .int m ∧ y = .int n) → Q (ltDs xs ys) s →
    KatLex prog w A b (decide (xs.length < ys.length)) Q (vs.zip ws) i s
  | [], [], _, _, _, _, _, ra, rb, _, _, _, _, _, q => by
    cases ra
    unfold ltDs at q
    exact kat_nil q
  | [], _ :: _, _, _, _, _, _, ra, rb, _, _, _, _, _, q => by
    cases ra
    unfold ltDs at q
    exact kat_nil q
  | _ :: _, [], _, _, _, _, _, ra, rb, _, _, _, _, _, q => by
    cases ra
    cases rb
    unfold ltDs at q
    exact kat_nil q
  | x :: xs, y :: ys, _, _, _, _, i, ra, rb, ca, cb, ho, hu, hb, q => by
    have c1 : x.canLay0 = true ∧ PyData.canLayAll0 xs = true := by simpa [PyData.canLayAll0] using ca
    have c2 : y.canLay0 = true ∧ PyData.canLayAll0 ys = true := by simpa [PyData.canLayAll0] using cb
    cases ra with
    | cons r rs =>
      cases rb with
      | cons r' rs' =>
        have el : decide ((x :: xs).length < (y :: ys).length) = decide (xs.length < ys.length) := by
          rw [List.length_cons, List.length_cons, decide_eq_decide]
          omega
        rw [el]
        unfold okDs at ho
        unfold ltDs at q
        refine kat_cons (eqAt_reads x y A s _ _ _ _ r r' c1.1 c2.1 (room_head hu) prog w _ _ ?_)
        refine kat_go (fun e => kat_yes ?_) (fun e => kat_no ?_)
        · rw [if_pos e] at ho q
          exact lex_D b xs ys _ _ _ _ (i + 1) rs rs' c1.2 c2.2 ho (room_tail hu) (fun _ z => by omega) q
        · rw [if_neg (by rw [e]; exact Bool.false_ne_true)] at ho q
          generalize hc : (b && i == 0) = c
          cases c with
          | true =>
            rw [Bool.and_eq_true] at hc
            obtain ⟨m, n, rfl, rfl⟩ := hb hc.1 (by simpa using hc.2) _ _ _ _ rfl rfl
            cases r
            cases r'
            refine TS.oneLt_ints true ?_
            unfold ltD at q
            exact q
          | false => exact kat_one _ _ (rcLt_D x y A s _ _ _ _ r r' c1.1 c2.1 ho (room_head hu) prog w _ _ q)
theorem key_lt {prog : Program} {w : World} {A : Around} {s : Shared} {b : Bool} {x y : PyData} {u v : Value} {as bs : List Addr} (kx : KeyD b x) (ky : KeyD b y) (rx : Reads s.heap u x as) (ry : Reads s.heap v y bs) (ho : okD x y = true) (hu : A.units + 64 < cLine) :
    wpAny (model prog w) A (keyLt' (tuples' b) u v) (fun r s' => s' = s ∧ r = ltD x y) (fun _ _ => False) s := by
  obtain ⟨d0, ds, rfl, h0⟩ := kx.hd
  obtain ⟨e0, es, rfl, g0⟩ := ky.hd
  have c1 : PyData.canLayAll0 (d0 :: ds) = true := by have := kx.lay; unfold PyData.canLay0 at this; exact this
  have c2 : PyData.canLayAll0 (e0 :: es) = true := by have := ky.lay; unfold PyData.canLay0 at this; exact this
  have dd := kx.dep
  unfold PyData.depth at dd
  unfold okD at ho
  cases rx with
  | @tuple p o vs n _ as1 a1 a2 a3 a4 =>
    cases ry with
    | @tuple q o' ws n' _ bs1 b1 b2 b3 b4 =>
      have l1 : vs.size = (d0 :: ds).length := by simpa using ReadsAll.length _ _ _ a4
      have l2 : ws.size = (e0 :: es).length := by simpa using ReadsAll.length _ _ _ b4
      refine kat_lt a1 a3 b1 b3 ?_
      rw [l1, l2]
      refine lex_D b _ _ _ _ _ _ 0 a4 b4 c1 c2 ho ?_ (fun hb _ x r y r' e1 e2 => ?_) ⟨rfl, ?_⟩
      · have : min (PyData.depthAll (d0 :: ds)) (PyData.depthAll (e0 :: es)) ≤ PyData.depthAll (d0 :: ds) := Nat.min_le_left _ _
        omega
      · cases e1
        cases e2
        rw [if_pos hb] at h0 g0
        obtain ⟨m, rfl⟩ := h0
        obtain ⟨n, rfl⟩ := g0
        exact ⟨m, n, rfl, rfl⟩
      · unfold ltD
        rfl
theorem key_kind {prog : Program} {w : World} {A : Around} {E : Value → Shared → Prop} {s : Shared} {b : Bool} {us : List Value} {Q : SortKind → Shared → Prop} (h2 : 0 < us.length) (h : ∀ u ∈ us, ∃ d as, Reads s.heap u d as ∧ KeyD b d) (q : Q (tuples' b) s) : wpAny (model prog w) A (keyKind' us.toArray) Q E s := by
  have mk : ∀ us : List Value, (∀ u ∈ us, ∃ d as, Reads s.heap u d as ∧ KeyD b d) → ∃ fs, fs.length = us.length ∧ KatTups s.heap us fs ∧ ∀ f ∈ fs, Looks (model prog w) s.heap (typeOf f) (.type (if b = true then "int" else "tuple")) := by
    intro us
    induction us with
    | nil => exact fun _ => ⟨[], rfl, KatTups.nil, fun _ h => by cases h⟩
    | cons u us ih =>
      intro h
      obtain ⟨fs, l1, l2, l3⟩ := ih fun x hx => h x (List.mem_cons_of_mem _ hx)
      obtain ⟨d, as, rd, kd⟩ := h u List.mem_cons_self
      obtain ⟨d0, ds, rfl, h0⟩ := kd.hd
      cases rd with
      | @tuple p o vs n _ as1 a1 a2 a3 a4 =>
        obtain ⟨vs⟩ := vs
        cases vs with
        | nil => cases a4
        | cons v0 vs =>
          cases a4 with
          | cons r rs =>
            refine ⟨v0 :: fs, by rw [List.length_cons, List.length_cons, l1], KatTups.cons a1 a2 a3 rfl l2, fun f hf => ?_⟩
            rcases List.mem_cons.mp hf with rfl | hf
            · cases b with
              | true =>
                rw [if_pos rfl] at h0
                obtain ⟨n, rfl⟩ := h0
                cases r
                exact Looks.now
              | false =>
                rw [if_neg Bool.false_ne_true] at h0
                obtain ⟨es, rfl⟩ := h0
                cases r with
                | @tuple p' o' vs' n' _ as2 c1 c2 c3 c4 =>
                  have z : Looks (model prog w) s.heap (typeOf (.ref p')) o'.cls := (Looks.ld c1).andThen .now
                  rw [c2] at z
                  exact z
            · exact l3 f hf
  obtain ⟨fs, l1, l2, l3⟩ := mk us h
  refine kat_kind (T := .type (if b = true then "int" else "tuple")) l2 (by omega) l3 (by cases b <;> rfl) ?_
  have e : ((Value.type (if b = true then "int" else "tuple")) != Value.type "tuple") = b := by
    cases b <;> first | rfl | decide +kernel
  rw [e]
  exact q
end
/-- all that H has, and the tuples of H2 -/
def Kp3 (H H2 H3 : Hp) : Prop := Same H H3 ∧ ∀ b o, (∃ xs, o = HO.tup xs) ∨ (∃ q u, o = HO.frz q u) → H2 b = some o → H3 b = some o
def rSortF (P : Program) (w : World) (K : PySem.W.Frag) (mg : Str → Option Value) (base : Heap) (k : Nat) : List V → List V → Hp → VK → Prop := fun vs zs H Q => ∃ (a f : Addr) (sp : Sp) (ys : List V) (kd : V → PyData) (b : Bool), vs = [.ref a] ∧ zs = [.ref f] ∧ SqL K H a ys ∧ Hd P w K mg base k f sp ∧
  (∀ y ∈ ys, ∀ (H1 : Hp) (R : VK), Same H H1 → (∀ u H2, Same H1 H2 → (∀ H3, Kp3 H H2 H3 → Dp K H3 u (kd y)) → R u H2) → sp [y] H1 R E0) ∧ (∀ y ∈ ys, KeyD b (kd y)) ∧ (∀ y ∈ ys, ∀ z ∈ ys, okD (kd y) (kd z) = true) ∧ SrtO.Swo (fun y z : V => ltD (kd y) (kd z)) ∧
  ∀ zs H' p, Same H H' → H p = none → SrtO.Srtd (fun y z => ltD (kd y) (kd z)) zs → SrtO.Stb (fun y z => ltD (kd y) (kd z)) zs ys → H' p = some (.lst zs) → Q (.ref p) H'
section
open PySem.SeqAt PySem.W
theorem push_keep {h : Heap} {o : Obj} : ∀ b u, h.get? b = some u → (h.push o).get? b = some u := fun b u e => Heap.get?_push_of_some _ e
set_option maxHeartbeats 4000000 in
/-- sorted of what can be collected, by keys that are data -/
theorem sort_of {X : Cx} {k j : Nat} (hr : Room j X.A) (hk : k + 2 ≤ j) (hu : X.A.units + 70 < cLine) {pins : List (Addr × Obj)} {s : Shared} {σ : L2.St} {H : Hp} {Q : VK} (I : Inv X pins σ H s) {a f : Addr} {sp : Sp} {ys : List V} {kd : V → PyData} {b : Bool} {its : List Value} (rv : Vals ys its) (hz : ys.length ≤ sizeLine)
    (hcol : ∀ (R : List Value → Shared → Prop) (E : Value → Shared → Prop), (∀ (h1 : Heap) (tk : Nat), (∀ b o, s.heap.get? b = some o → h1.get? b = some o) → s.heap.objs.size ≤ h1.objs.size → R its { s with heap := h1, toks := tk }) → wpAny (model X.prog X.w) X.A.in1 (collect (.ref a)) R E s)
    (hd : Hd X.prog X.w X.K X.mg X.base k f sp) (prom : ∀ y ∈ ys, ∀ (H1 : Hp) (R : VK), Same H H1 → (∀ u H2, Same H1 H2 → (∀ H3, Kp3 H H2 H3 → Dp X.K H3 u (kd y)) → R u H2) → sp [y] H1 R E0) (kok : ∀ y ∈ ys, KeyD b (kd y)) (cmp : ∀ y ∈ ys, ∀ z ∈ ys, okD (kd y) (kd z) = true) (O : SrtO.Swo (fun y z : V => ltD (kd y) (kd z)))
    (q : ∀ zs H' p, Same H H' → H p = none → SrtO.Srtd (fun y z => ltD (kd y) (kd z)) zs → SrtO.Stb (fun y z => ltD (kd y) (kd z)) zs ys → H' p = some (.lst zs) → Q (.ref p) H') :
    wpAny (model X.prog X.w) X.A (call (.builtin "sorted") [.ref a] ([Str.ofString "key"].zip [.ref f])) (EP X pins σ Q) X.xe s := by
  obtain ⟨fd, ps, F, kp, bnd⟩ := hd
  have lz : its.length = ys.length := rv.length.symm
  refine (call_function_entry_kw kind_sorted plain_sorted entry_sorted (ksk_s1 _ _) ?_)
  unfold Builtin.«sorted»
  refine (wpAny_bind (m := checkCount "sorted" 1 1 _) (wpAny_pure ?_))
  refine (wpAny_bind (hcol _ _ fun h1 tk k1 sz1 => ?_))
  refine (wpAny_bind (wpAny_newList ?_ (by rw [lz]; exact hz)))
  have I := I.tok tk
  have k1 : ∀ b o, ({ s with toks := tk } : Shared).heap.get? b = some o → h1.get? b = some o := k1
  have sz1 : ({ s with toks := tk } : Shared).heap.objs.size ≤ h1.objs.size := sz1
  generalize eD : h1.objs.size = D at sz1
  have oD : (h1.push (seqObj "list" its.toArray 0)).get? D = some (seqObj "list" its.toArray 0) := by
    rw [← eD]
    exact Heap.get?_push_size _ rfl
  show wpAny _ _ _ _ _ { ({ s with toks := tk } : Shared) with heap := h1.push (seqObj "list" its.toArray 0) }
  clear hcol
  generalize ({ s with toks := tk } : Shared) = s at I k1 sz1 ⊢
  show wpAny _ _ _ _ _ { s with heap := h1.push (seqObj "list" its.toArray 0) }
  refine (wpAny_bind (wpAny_holding (wpAny_call_entry_kw slot_list_sort ⟨_, oD, rfl⟩ entry_list_sort ?body (ksk_l1 _ _))))
  show wpAny (model X.prog X.w) X.A.in1.in1 (Builtin.«list.sort» ⟨[.ref D], [(Str.ofString "key", .ref f)]⟩) _ _ _
  rw [ksk_t1]
  -- the list emptied, its items held, the keys
  obtain ⟨ep, oD3⟩ : ∃ ep, ((h1.push (seqObj "list" its.toArray 0)).update D (Obj.mapSeq fun _ => #[])).get? D = some (seqObj "list" #[] ep) := ⟨_, get?_update_seq oD fun _ => #[]⟩
  have k3 : ∀ c o, s.heap.get? c = some o → ((h1.push (seqObj "list" its.toArray 0)).update D (Obj.mapSeq fun _ => #[])).get? c = some o := fun c o e => by
    have lt : c < s.heap.objs.size := Heap.lt_size e
    rw [Heap.get?_update_ne _ _ _ _ (Nat.ne_of_lt (Nat.lt_of_lt_of_le lt sz1))]
    exact push_keep _ _ (k1 _ _ e)
  unfold ksk_tree
  refine (wpAny_bind (listItems_at oD rfl ?_))
  refine (wpAny_bind (listUpdate_at oD rfl ?_ (by rw [List.size_toArray, lz]; exact hz) (Nat.zero_le _)))
  refine (wpAny_bind (seqEpoch_at oD3 rfl ?_))
  refine (wpAny_bind (wpAny_newTuple ?_ (by show its.length ≤ _; rw [lz]; exact hz)))
  refine (wpAny_bind (wpAny_newList ?_ (Nat.zero_le _)))
  refine wpAny_holding ?_
  generalize (h1.push (seqObj "list" its.toArray 0)).update D (Obj.mapSeq fun _ => #[]) = h3 at oD3 k3 ⊢
  have lD : D < h3.objs.size := Heap.lt_size oD3
  show wpAny _ _ _ _ _ { s with heap := (h3.push (seqObj "tuple" its.toArray 0)).push (seqObj "list" #[] 0) }
  generalize e4 : h3.push (seqObj "tuple" its.toArray 0) = h4
  have oD4 : h4.get? D = some (seqObj "list" #[] ep) := by rw [← e4]; exact push_keep _ _ oD3
  have k4 : ∀ c o, s.heap.get? c = some o → h4.get? c = some o := fun c o e => by rw [← e4]; exact push_keep _ _ (k3 _ _ e)
  have lD4 : D < h4.objs.size := Heap.lt_size oD4
  let φ : Heap → Prop := fun h => h.get? D = some (seqObj "list" #[] ep)
  have nD : H D = none := I.hok.fresh (by omega)
  have I4 : Inv X pins σ (upd H D (.ext φ)) { s with heap := h4 } := I.laid (t' := s.toks) k4 (by omega) ⟨oD4, ⟨_, oD4⟩, fun h1 h2 z g => g _ z⟩
  have nK : (upd H D (.ext φ)) h4.objs.size = none := I4.hok.fresh (Nat.le_refl _)
  have oK : (h4.push (seqObj "list" #[] 0)).get? h4.objs.size = some (seqObj "list" #[] 0) := Heap.get?_push_size _ rfl
  have I5 : Inv X pins σ (upd (upd H D (.ext φ)) h4.objs.size (.lst [])) { s with heap := h4.push (seqObj "list" #[] 0) } := I4.laid (t' := s.toks) (h' := h4.push (seqObj "list" #[] 0)) push_keep (Nat.le_refl _) ⟨Nat.zero_le _, [], 0, .nil, oK⟩
  generalize h4.objs.size = kS at lD4 nK oK I5 ⊢
  have nDk : D ≠ kS := by omega
  have nHk : H kS = none := by
    rw [upd_ne (Ne.symm nDk)] at nK
    exact nK
  have sm5 : Same H (upd (upd H D (.ext φ)) kS (.lst [])) := (same_upd nD).trans (same_upd nK)
  unfold ksk_rest
  refine (wpAny_bind (wpAny_rule ?_))
  rw [List.forIn_toArray]
  refine (wpAny_bind (ksk_fold (fun i s' => ∃ (Hi : Hp) (kvs : List V), Inv X pins σ Hi s' ∧ Same H Hi ∧ Hi D = some (.ext φ) ∧ Hi kS = some (.lst kvs) ∧ kvs.length = i ∧ ∀ H3, Kp3 H Hi H3 → DpAll X.K H3 kvs ((ys.take i).map kd)) its 0 _ ⟨_, [], I5, sm5, by rw [upd_ne nDk]; exact upd_same, upd_same, rfl, fun _ _ => .nil⟩ (fun j x s' hx hI => ?turn) (fun s' hI => ?done)))
  case turn =>
    rw [Nat.zero_add] at hI ⊢
    obtain ⟨Hi, kvs, Ii, si, eDi, eKi, lk, dpi⟩ := hI
    have hj : j < ys.length := by
      rw [← lz]
      exact (List.getElem?_eq_some_iff.mp hx).1
    obtain ⟨u0, hu0, rel⟩ := Vals.get rv (List.getElem?_eq_getElem hj)
    obtain rfl : u0 = x := Option.some.inj (hu0.symm.trans hx)
    have hy : ys[j] ∈ ys := List.getElem_mem hj
    have hyj := List.getElem?_eq_getElem hj
    generalize ys[j] = y at rel hy hyj
    have spy := prom y hy Hi (fun u H2 => Same Hi H2 ∧ ∀ H3, Kp3 H H2 H3 → Dp X.K H3 u (kd y)) si fun u H2 g1 g2 => ⟨g1, g2⟩
    have called : wpAny (model X.prog X.w) X.A.in1.in1 (call (.ref f) [u0]) (fun u s2 => ∃ v H2, Inv X pins σ H2 s2 ∧ RelV v u ∧ Same Hi H2 ∧ ∀ H3, Kp3 H H2 H3 → Dp X.K H3 v (kd y)) (fun _ _ => False) s' := by
      refine wpAny_call (codeAny_mono (F.run X.A.in1.in1 X.stack s' Hi ⟨[u0], []⟩ [u0] [y] _ E0 ((hr.mono hk).in1.in1) Ii.env0.in1.in1 (bnd s' [u0] Ii.kIn (by rw [← F.len _ _ _ _ spy]; rfl)) (.cons rel .nil) spy) fun r s2 hq => ?_)
      match r, hq with
      | .error _, hq => exact False.elim hq
      | .ok .next, hq => exact False.elim hq
      | .ok .brk, hq => exact False.elim hq
      | .ok .cont, hq => exact False.elim hq
      | .ok (.ret u), hq =>
        obtain ⟨v, H2, J, rvv, g1, g2⟩ := Ii.after hq
        exact ⟨v, H2, J, rvv, g1, g2⟩
    refine wpAny_bind (wpAny_attempt (wpAny_mono called (fun u s2 hu => ?_) fun _ _ z => z.elim))
    obtain ⟨v, H2, J, rvv, g1, g2⟩ := hu
    have eK2 := g1 _ _ eKi
    obtain ⟨_, kits, n2, kr, ok2⟩ := J.hok kS _ eK2
    have lkk : kits.length = j := by rw [← kr.length]; exact lk
    obtain ⟨n3, ok3⟩ : ∃ n3, (s2.heap.update kS (Obj.mapSeq (·.push u))).get? kS = some (seqObj "list" (kits ++ [u]).toArray n3) := ⟨_, by
      rw [show (kits ++ [u]).toArray = kits.toArray.push u by simp]
      exact get?_update_seq ok2 (·.push u)⟩
    dsimp only
    refine (wpAny_bind (listUpdate_at ok2 rfl ?_ (by rw [List.size_toArray]; omega) (by rw [Array.size_push, List.size_toArray]; omega)))
    have J3 : Inv X pins σ (upd H2 kS (.lst (kvs ++ [v]))) { s2 with heap := s2.heap.update kS (Obj.mapSeq (·.push u)) } := J.write (e := kS) (t' := s2.toks) (by rw [eK2]; trivial) (.inl rfl) (fun c o nc e => by rw [Heap.get?_update_ne _ _ _ _ nc]; exact e) ⟨_, ok3⟩
      ⟨by rw [List.length_append, lk]; show j + 1 ≤ _; omega, kits ++ [u], n3, kr.append (.cons rvv .nil), ok3⟩
    refine wpAny_pure ⟨rfl, _, kvs ++ [v], J3, fun c o e => ?_, by rw [upd_ne nDk]; exact g1 _ _ eDi, upd_same, by rw [List.length_append, lk]; rfl, fun H3 kp3 => ?_⟩
    · rw [upd_ne (ne_of_none e nHk)]
      exact g1 _ _ (si _ _ e)
    · have k2 : Kp3 H H2 H3 := ⟨kp3.1, fun c o ho e => kp3.2 c o ho (by
        rw [upd_ne (fun z => ?_)]
        · exact e
        · subst z
          rw [eK2] at e
          cases e
          rcases ho with ⟨xs, z⟩ | ⟨q', u', z⟩ <;> cases z)⟩
      have ki : Kp3 H Hi H3 := ⟨kp3.1, fun c o ho e => k2.2 c o ho (g1 _ _ e)⟩
      rw [List.take_add_one, hyj, List.map_append]
      exact DpAll.snoc (dpi H3 ki) (g2 H3 k2)
  case done =>
    rw [Nat.zero_add] at hI
    obtain ⟨Hn, kvs, In, sn, eDn, eKn, lk, dpn⟩ := hI
    have dpn := dpn Hn ⟨sn, fun _ _ _ e => e⟩
    rw [lz, List.take_of_length_le (Nat.le_refl _)] at dpn
    obtain ⟨_, kits, n2, kr, okK⟩ := In.hok kS _ eKn
    obtain ⟨okD, _⟩ := In.hok D _ eDn
    have okD : s'.heap.get? D = some (seqObj "list" #[] ep) := okD
    have lkk : kits.length = its.length := by rw [← kr.length]; exact lk
    refine (wpAny_bind (listItems_at okK rfl ?_))
    have ez : (kits.toArray.zip its.toArray).toList = kits.zip its := by simp
    have lt2 : SrtO.Swo (fun p q : Keyed => ltD (kd (bk p.2)) (kd (bk q.2))) := ⟨fun x y h => O.asym _ _ h, fun x y z h g => O.tr _ _ _ h g⟩
    let P : Keyed → Prop := fun p => (∃ as, Reads s'.heap p.1 (kd (bk p.2)) as) ∧ bk p.2 ∈ ys ∧ RelV (bk p.2) p.2
    have hP : ∀ p ∈ kits.zip its, P p := fun p hp => by
      obtain ⟨i, hi⟩ := List.getElem?_of_mem hp
      rw [List.getElem?_zip_eq_some] at hi
      obtain ⟨i1, i2⟩ := hi
      have li : i < ys.length := by
        rw [← lz]
        exact (List.getElem?_eq_some_iff.mp i2).1
      obtain ⟨u0, hu0, rel⟩ := Vals.get rv (List.getElem?_eq_getElem li)
      obtain rfl : u0 = p.2 := Option.some.inj (hu0.symm.trans i2)
      obtain ⟨v0, hv0, dv⟩ := DpAll.get dpn (show (ys.map kd)[i]? = some (kd ys[i]) by rw [List.getElem?_map, List.getElem?_eq_getElem li]; rfl)
      obtain ⟨u1, hu1, rel1⟩ := Vals.get kr hv0
      obtain rfl : u1 = p.1 := Option.some.inj (hu1.symm.trans i1)
      have eb := bk_rel rel
      refine ⟨?_, by rw [eb]; exact List.getElem_mem li, by rw [eb]; exact rel⟩
      rw [eb]
      exact Dp.reads In _ _ _ dv rel1
    have emap : (kits.zip its).map (fun p => bk p.2) = ys := by
      have e1 : (kits.zip its).map (fun p => bk p.2) = its.map bk := by
        rw [show (fun p : Value × Value => bk p.2) = bk ∘ Prod.snd from rfl, ← List.map_map, List.map_snd_zip (by omega)]
      rw [e1]
      have : ∀ {ys : List V} {its : List Value}, Vals ys its → its.map bk = ys := by
        intro ys its h
        induction h with
        | nil => rfl
        | cons a _ ih => rw [List.map_cons, ih, bk_rel a]
      exact this rv
    have fin : ∀ st' : SortSt, SrtO.Srtd (fun p q : Keyed => ltD (kd (bk p.2)) (kd (bk q.2))) (arrOf st').toList → SrtO.Stb (fun p q : Keyed => ltD (kd (bk p.2)) (kd (bk q.2))) (arrOf st').toList (kits.zip its) → failedOf st' = none →
        wpAny (model X.prog X.w) X.A.in1.in1 (ksk_tail D false ep (.ref kS) st') (fun fin s' => ∃ v, fin = PySem.Fin.done (Flow.ret v) ∧ wpAny (model X.prog X.w) X.A.in1 (ret (Value.ref D)) (fun fin s' => ∃ v, fin = PySem.Fin.done (Flow.ret v) ∧ EP X pins σ Q v s') X.xe s') X.xe s' := fun st' a1 a2 a3 => by
      have lo : (arrOf st').toList.length = its.length := by
        rw [a2.len, List.length_zip, lkk, Nat.min_self]
      have lo2 : ((arrOf st').map (·.2)).size = its.length := by
        rw [Array.size_map, ← lo, Array.length_toList]
      obtain ⟨n4, ok4⟩ : ∃ n4, (s'.heap.update kS (Obj.mapSeq fun _ => (#[] : Array Value))).get? kS = some (seqObj "list" #[] n4) := ⟨_, get?_update_seq okK fun _ => #[]⟩
      have okD4 : (s'.heap.update kS (Obj.mapSeq fun _ => (#[] : Array Value))).get? D = some (seqObj "list" #[] ep) := by
        rw [Heap.get?_update_ne _ _ _ _ nDk]
        exact okD
      have J1 : Inv X pins σ (upd Hn kS (.lst [])) { s' with heap := s'.heap.update kS (Obj.mapSeq fun _ => (#[] : Array Value)) } := In.write (e := kS) (t' := s'.toks) (by rw [eKn]; trivial) (.inl rfl) (fun c o nc e => by rw [Heap.get?_update_ne _ _ _ _ nc]; exact e) ⟨_, ok4⟩ ⟨Nat.zero_le _, [], n4, .nil, ok4⟩
      obtain ⟨n5, ok5⟩ : ∃ n5, ((s'.heap.update kS (Obj.mapSeq fun _ => (#[] : Array Value))).update D (Obj.mapSeq fun _ => (arrOf st').map (·.2))).get? D = some (seqObj "list" ((arrOf st').map (·.2)) n5) := ⟨_, get?_update_seq okD4 fun _ => (arrOf st').map (·.2)⟩
      have vv : Vals ((arrOf st').toList.map fun p => bk p.2) ((arrOf st').map (·.2)).toList := by
        rw [Array.toList_map]
        have hall : ∀ p ∈ (arrOf st').toList, RelV (bk p.2) p.2 := fun p hp => (hP p (a2.perm.mem_iff.mp hp)).2.2
        generalize (arrOf st').toList = l at hall
        induction l with
        | nil => exact .nil
        | cons p l ih => exact .cons (hall p List.mem_cons_self) (ih fun x hx => hall x (List.mem_cons_of_mem _ hx))
      have eD1 : (upd Hn kS (.lst [])) D = some (.ext φ) := by
        rw [upd_ne nDk]
        exact eDn
      have J2 : Inv X pins σ (upd (upd Hn kS (.lst [])) D (.lst ((arrOf st').toList.map fun p => bk p.2))) { s' with heap := (s'.heap.update kS (Obj.mapSeq fun _ => (#[] : Array Value))).update D (Obj.mapSeq fun _ => (arrOf st').map (·.2)) } := J1.write (e := D) (t' := s'.toks) (by rw [eD1]; trivial) (.inl rfl) (fun c o nc e => by
        show ((s'.heap.update kS (Obj.mapSeq fun _ => (#[] : Array Value))).update D _).get? c = _
        rw [Heap.get?_update_ne _ _ _ _ nc]
        exact e) ⟨_, ok5⟩ ⟨by rw [List.length_map, lo, lz]; exact hz, _, n5, vv, by rw [Array.toArray_toList]; exact ok5⟩
      unfold ksk_tail
      dsimp only
      refine (wpAny_bind (listUpdate_at okK rfl ?_ (by rw [List.size_toArray, lkk, lz]; exact hz) (Nat.zero_le _)))
      refine (wpAny_bind (wpAny_letGo ?_))
      refine (wpAny_bind (seqEpoch_at okD4 rfl ?_))
      refine (wpAny_bind (listUpdate_at okD4 rfl ?_ (Nat.zero_le _) (by
        rw [if_neg Bool.false_ne_true, lo2, lz]
        omega)))
      rw [a3]
      simp only [bne_self_eq_false, Bool.false_eq_true, if_false]
      refine wpAny_pure ⟨_, rfl, wpAny_pure ⟨_, rfl, .ref D, _, J2, rfl, ?_⟩⟩
      refine q _ _ D (fun c o e => ?_) nD (SrtO.srtd_map a1) (by rw [← emap]; exact SrtO.Stb.map O (fun p : Keyed => bk p.2) a2) upd_same
      rw [upd_ne (ne_of_none e nD), upd_ne (ne_of_none e nHk)]
      exact sn _ _ e
    unfold ksk_end
    dsimp only
    rw [if_neg Bool.false_ne_true]
    by_cases h2 : its.toArray.size < 2
    · rw [if_pos h2, if_pos h2]
      refine (wpAny_bind (wpAny_pure ?_))
      rw [StateT.run_pure]
      refine (wpAny_bind (wpAny_pure ?_))
      refine fin (SortSt.mk' general' (kits.toArray.zip its.toArray) #[] 7 none) ?_ ?_ rfl
      · show SrtO.Srtd _ (kits.toArray.zip its.toArray).toList
        rw [ez]
        have l2 : (kits.zip its).length < 2 := by
          rw [List.length_zip]
          rw [List.size_toArray] at h2
          omega
        match kits.zip its, l2 with
        | [], _ => exact List.Pairwise.nil
        | [x], _ => exact List.pairwise_singleton _ _
        | _ :: _ :: _, l2 => simp only [List.length_cons] at l2; omega
      · show SrtO.Stb _ (kits.toArray.zip its.toArray).toList _
        rw [ez]
        exact SrtO.Stb.refl _
    · rw [if_neg h2, if_neg h2]
      rw [List.size_toArray] at h2
      refine (wpAny_bind (key_kind (b := b) (by omega) (fun u hu => ?_) ?_))
      · obtain ⟨i, hi⟩ := List.getElem?_of_mem hu
        have li : i < kits.length := (List.getElem?_eq_some_iff.mp hi).1
        have hp := hP (kits[i], its[i]) (by
          refine List.mem_of_getElem? (i := i) ?_
          rw [List.getElem?_zip_eq_some]
          exact ⟨List.getElem?_eq_getElem li, List.getElem?_eq_getElem _⟩)
        obtain ⟨⟨as, g1⟩, g2, _⟩ := hp
        rw [List.getElem?_eq_getElem li] at hi
        cases hi
        exact ⟨_, as, g1, kok _ g2⟩
      · refine (wpAny_bind (wpAny_mono (SrtO.wpS_sortO (P := P) (st0 := SortSt.mk' (tuples' b) (kits.toArray.zip its.toArray) #[] 7 none) (lt := fun p q : Keyed => ltD (kd (bk p.2)) (kd (bk q.2)))
          (Q := fun _ st' => SrtO.Srtd (fun p q : Keyed => ltD (kd (bk p.2)) (kd (bk q.2))) (arrOf st').toList ∧ SrtO.Stb (fun p q : Keyed => ltD (kd (bk p.2)) (kd (bk q.2))) (arrOf st').toList (kits.zip its) ∧ failedOf st' = none) lt2 (fun p q hp hq => ?_) rfl (fun p hp => hP p (by rw [← ez]; exact hp)) rfl rfl fun st' g1 g2 g3 => ⟨g1, by rw [← ez]; exact g2, g3⟩) ?_ fun _ _ e => e))
        · obtain ⟨⟨as, g1⟩, g2, _⟩ := hp
          obtain ⟨⟨bs, g3⟩, g4, _⟩ := hq
          exact key_lt (kok _ g2) (kok _ g4) g1 g3 (cmp _ g2 _ g4) (by show X.A.units + 1 + 1 + 64 < _; omega)
        · rintro ⟨⟨⟩, st'⟩ s2 ⟨rfl, g1, g2, g3⟩
          exact fin st' g1 g2 g3
theorem cr_sortF {X : Cx} {k j : Nat} (hr : Room j X.A) (hk : k + 2 ≤ j) (hu : X.A.units + 70 < cLine) : CallRK X (.builtin "sorted") [Str.ofString "key"] (rSortF X.prog X.w X.K X.mg X.base k) := by
  intro pins s σ H vs zs us ws Q I r rz ask
  obtain ⟨a, f, sp, ys, kd, b, rfl, rfl, hs, hd, prom, kok, cmp, O, q⟩ := ask
  obtain rfl := Vals.ref1 r
  obtain ⟨w1, rfl, e1⟩ := vals1 rz
  obtain rfl : w1 = Value.ref f := e1
  obtain ⟨its, rv, pl, hz⟩ := I.list hs
  refine sort_of hr hk hu I rv hz (fun R E h => ?_) hd prom kok cmp O q
  refine collect_list pl.isList ?_ (by rw [← rv.length]; exact hz)
  refine h _ s.toks (fun b o e => ?_) ?_
  · rw [Heap.get?_update_ne _ _ _ _ (Nat.ne_of_lt (Heap.lt_size e))]
    exact push_keep _ _ e
  · rw [Heap.size_update]
    exact Nat.le_of_lt (by rw [size_push']; exact Nat.lt_succ_self _)
end

/-! ### min(xs, key=f, default=d), max likewise: keys that are data, any number of them -/
/-- what the best of the items seen so far holds -/
def bestV (bt : V → V → Bool) (xs : List V) (y : V) : Prop := y ∈ xs ∧ ∀ z ∈ xs, bt z y = false
def rMmF (P : Program) (w : World) (K : PySem.W.Frag) (mg : Str → Option Value) (base : Heap) (k : Nat) (gt : Bool) : List V → List V → Hp → VK → Prop := fun vs zs H Q => ∃ (a f : Addr) (sp : Sp) (ys : List V) (kd : V → PyData) (bt : V → V → Bool) (df : V), vs = [.ref a] ∧ zs = [.ref f, df] ∧ SqL K H a ys ∧ Hd P w K mg base k f sp ∧
  (∀ y ∈ ys, ∀ (H1 : Hp) (R : VK), Same H H1 → (∀ u H2, Same H1 H2 → (∀ H3, Kp3 H H2 H3 → Dp K H3 u (kd y)) → R u H2) → sp [y] H1 R E0) ∧ (∀ y ∈ ys, SeqAt.shaped (kd y) = true) ∧ (∀ y ∈ ys, ∀ z ∈ ys, okD (kd y) (kd z) = true) ∧
  (∀ y z, bt y z = if gt = true then gtD (kd y) (kd z) else ltD (kd y) (kd z)) ∧ SrtO.Swo bt ∧
  ∀ H', Same H H' → (ys = [] → Q df H') ∧ (∀ y, bestV bt ys y → Q y H')
def stA (st : Option (V × Value × V × Value)) : Array Value := match st with
  | none => #[]
  | some (_, v, _, u) => #[v, u]
theorem SqL.same {K : PySem.W.Frag} {H H' : Hp} {a : Addr} {xs : List V} (e : Same H H') (h : SqL K H a xs) : SqL K H' a xs := by
  rcases h with (h | ⟨o, h⟩) | h
  · exact .inl (.inl (e _ _ h))
  · exact .inl (.inr ⟨o, e _ _ h⟩)
  · exact .inr h

section
open PySem.SeqAt PySem.W
theorem min_loopF {X : Cx} {k j : Nat} (hr : Room j X.A) (hk : k + 2 ≤ j) (hu : X.A.units + 70 < cLine) (hc : X.calm = true) {pins : List (Addr × Obj)} {σ : L2.St} {H : Hp} {Q : VK} {a f : Addr} {sp : Sp} {ys : List V} {kd : V → PyData} {bt : V → V → Bool} {df : V} {dv : Value} {E : Value → Shared → Prop}
    (HD : Hd X.prog X.w X.K X.mg X.base k f sp) (prom : ∀ y ∈ ys, ∀ (H1 : Hp) (R : VK), Same H H1 → (∀ u H2, Same H1 H2 → (∀ H3, Kp3 H H2 H3 → Dp X.K H3 u (kd y)) → R u H2) → sp [y] H1 R E0)
    (shp : ∀ y ∈ ys, SeqAt.shaped (kd y) = true) (cmp : ∀ y ∈ ys, ∀ z ∈ ys, okD (kd y) (kd z) = true) (hbt : ∀ y z, bt y z = ltD (kd y) (kd z)) (O : SrtO.Swo bt) (sq : SqL X.K H a ys) (rd : RelV df dv)
    (q : ∀ H', Same H H' → (ys = [] → Q df H') ∧ (∀ y, bestV bt ys y → Q y H')) {I S : Addr} (fp0 : FpOk X pins H I) (nS : H S = none) (nIS : I ≠ S) (naI : a ≠ I) (naS : a ≠ S) :
    ∀ (r i : Nat), i + r = ys.length → ∀ (s : Shared) (Hi : Hp) (c : Nat) (st : Option (V × Value × V × Value)), Inv X pins σ Hi s → Same H Hi → Hi I = none → s.heap.IsListIter I a i →
      Hi S = some (.ext fun h => h.get? S = some (seqObj "list" (stA st) c)) →
      (match st with | none => i = 0 | some (y, v, x, u) => RelV y v ∧ RelV x u ∧ y ∈ ys ∧ bestV bt (ys.take i) y ∧ ∀ H3, Kp3 H Hi H3 → Dp X.K H3 x (kd y)) →
      codeAny (model X.prog X.w) X.A (.builtin "min.loop" ⟨[.ref I, .ref f, .ref S], [(Str.ofString "default", dv)]⟩) (fun r s' => match r with | .ok (.ret v) => EP X pins σ Q v s' | .ok _ => False | .error e => E e s') s := by
  obtain ⟨fd, ps, F, kp, bnd⟩ := HD.ex
  have hname : (toString "min" ++ toString ".loop" : String) = "min.loop" := by decide
  intro r
  induction r with
  | zero =>
    intro i hi s Hi c st Ii si nIi hit eS hst
    obtain ⟨oS, _⟩ := Ii.hok S _ eS
    have oS : s.heap.get? S = some (seqObj "list" (stA st) c) := oS
    obtain ⟨its, rv, pl, hz⟩ := Ii.list (SqL.same si sq)
    have lz : its.length = ys.length := rv.length.symm
    have W := Walks.list (prog := X.prog) (w := X.w) (A := X.A.in1) (Ii.ok.hd hc) I a naI its.toArray
    refine codeAny_builtin PySem.F.entry_min_loop ?_
    rw [Around.under_plainId PySem.F.plain_min_loop _]
    show wpAny _ X.A.in1 (seqItems? (.ref S) >>= _) _ _ s
    refine (wpAny_bind (wpAny_seqItems oS rfl ?_))
    show wpAny _ X.A.in1 (tryCatch (pyNext (.ref I)) _ >>= _) _ _ s
    refine (wpAny_bind (wpAny_tryCatch (W.done s _ _ ⟨by rw [List.size_toArray, lz, ← hi, Nat.add_zero]; exact hit, pl.isList⟩ fun h' tk hk2 => ?_)))
    have I2 : Inv X pins σ Hi { s with heap := h', toks := tk } := Ii.turned (it := I) (t' := tk) (fun b o hb e => hk2 b o (fun z => hb (List.mem_singleton.mp z)) e) nIi fp0.2.1 fp0.2.2.2.1 fp0.2.2.2.2.1 fp0.2.2.2.2.2
    have oS2 := hk2 S _ (fun z => nIS (List.mem_singleton.mp z).symm) oS
    cases st with
    | none =>
      refine (wpAny_bind (wpAny_rule ?_))
      refine wpAny_pure ?_
      have e0 : ys = [] := by
        subst hst
        exact List.eq_nil_of_length_eq_zero (by omega)
      exact ⟨df, _, I2, rd, (q _ si).1 e0⟩
    | some t =>
      obtain ⟨y, v, x, u⟩ := t
      obtain ⟨ryv, rxu, hy, hb, _⟩ := hst
      have oS2 : h'.get? S = some (seqObj "list" #[v, u] c) := oS2
      show wpAny _ X.A.in1 (updateSeq S (fun _ => #[]) >>= _) _ _ _
      refine (wpAny_bind (wpAny_updateSeq oS2 rfl (wpAny_bind (wpAny_letGo (wpAny_pure ?_)))))
      have hb : bestV bt ys y := by
        have hb := hb
        rw [List.take_of_length_le (by omega)] at hb
        exact hb
      have I3 := I2.write (x := S) (e := S) (o := .ext fun h => ∃ o, h.get? S = some o) (h' := h'.update S (Obj.mapSeq fun _ => (#[] : Array Value))) (t' := tk) (by rw [eS]; trivial) (.inl rfl) (fun b o nb e => by rw [Heap.get?_update_ne _ _ _ _ nb]; exact e) ⟨_, get?_update_seq oS2 fun _ => #[]⟩ ⟨⟨_, get?_update_seq oS2 fun _ => #[]⟩, ⟨_, get?_update_seq oS2 fun _ => #[]⟩, fun h1 h2 z g => by obtain ⟨o, z⟩ := z; exact ⟨o, g _ z⟩⟩
      exact ⟨y, _, I3, ryv, (q _ (fun b o e => by rw [upd_ne (ne_of_none e nS)]; exact si _ _ e)).2 y hb⟩
  | succ r ih =>
    intro i hi s Hi c st Ii si nIi hit eS hst
    have lti : i < ys.length := by omega
    obtain ⟨oS, _⟩ := Ii.hok S _ eS
    have oS : s.heap.get? S = some (seqObj "list" (stA st) c) := oS
    obtain ⟨its, rv, pl, hz⟩ := Ii.list (SqL.same si sq)
    have lz : its.length = ys.length := rv.length.symm
    have W := Walks.list (prog := X.prog) (w := X.w) (A := X.A.in1) (Ii.ok.hd hc) I a naI its.toArray
    refine codeAny_builtin PySem.F.entry_min_loop ?_
    rw [Around.under_plainId PySem.F.plain_min_loop _]
    show wpAny _ X.A.in1 (seqItems? (.ref S) >>= _) _ _ s
    refine (wpAny_bind (wpAny_seqItems oS rfl ?_))
    show wpAny _ X.A.in1 (tryCatch (pyNext (.ref I)) _ >>= _) _ _ s
    refine (wpAny_bind (wpAny_tryCatch (W.item i s _ _ (by rw [List.size_toArray, lz]; exact lti) ⟨hit, pl.isList⟩ fun v h' tk hx hst2 hk2 => ?_)))
    obtain ⟨hit2, _⟩ := hst2
    have hx : its[i]? = some v := by simpa using hx
    obtain ⟨v0, hv0, rel⟩ := Vals.get rv (List.getElem?_eq_getElem lti)
    obtain rfl : v0 = v := Option.some.inj (hv0.symm.trans hx)
    have hy : ys[i] ∈ ys := List.getElem_mem lti
    have hyi := List.getElem?_eq_getElem lti
    generalize ys[i] = y at rel hy hyi
    have I2 : Inv X pins σ Hi { s with heap := h', toks := tk } := Ii.turned (it := I) (t' := tk) (fun b o hb e => hk2 b o (fun z => hb (List.mem_singleton.mp z)) e) nIi fp0.2.1 fp0.2.2.2.1 fp0.2.2.2.2.1 fp0.2.2.2.2.2
    obtain ⟨oi, hoi, coi, doi⟩ := id hit2
    have Ip := I2.pinned (fp := [I]) (fun b hb => by rw [List.mem_singleton.mp hb]; exact ⟨nIi, fp0.2⟩) (fun b hb => by rw [List.mem_singleton.mp hb]; exact ⟨oi, hoi, fun v z => by rw [doi] at z; cases z⟩)
    have spy := prom y hy Hi (fun u H4 => Same Hi H4 ∧ ∀ H3, Kp3 H H4 H3 → Dp X.K H3 u (kd y)) si fun u H4 g1 g2 => ⟨g1, g2⟩
    have called : wpAny (model X.prog X.w) X.A.in1 (call (.ref f) [v0]) (fun u s2 => ∃ x H4, Inv X pins σ H4 s2 ∧ H4 I = none ∧ s2.heap.IsListIter I a (i + 1) ∧ RelV x u ∧ Same Hi H4 ∧ ∀ H3, Kp3 H H4 H3 → Dp X.K H3 x (kd y)) (fun _ _ => False) { s with heap := h', toks := tk } := by
      refine wpAny_call (codeAny_mono (F.run X.A.in1 X.stack _ Hi ⟨[v0], []⟩ [v0] [y] _ E0 ((hr.mono (Nat.le_of_succ_le hk)).in1) Ip.env0.in1 (bnd _ [v0] Ip.kIn (by rw [← F.len _ _ _ _ spy]; rfl)) (.cons rel .nil) spy) fun r s2 hq => ?_)
      match r, hq with
      | .error _, hq => exact False.elim hq
      | .ok .next, hq => exact False.elim hq
      | .ok .brk, hq => exact False.elim hq
      | .ok .cont, hq => exact False.elim hq
      | .ok (.ret u), hq =>
        obtain ⟨x, H4, J, rxv, g1, g2⟩ := Ip.after hq
        have pp := J.pin (I, oi) (List.mem_append_right _ (List.mem_append_right _ (mem_pinsAt (List.mem_singleton.mpr rfl) hoi)))
        exact ⟨x, H4, (J.unpinned (pins := [])).pins_of (fun p hp => J.pin p (List.mem_append_right _ (List.mem_append_left _ hp))), pp.2.1, ⟨oi, pp.1, coi, doi⟩, rxv, g1, g2⟩
    show wpAny _ X.A.in1 (tryCatch (holding [v0] (call (.ref f) [v0])) _ >>= _) _ _ _
    refine (wpAny_bind (wpAny_tryCatch (wpAny_holding (wpAny_mono called (fun u s2 hu2 => ?_) fun _ _ z => z.elim))))
    obtain ⟨x, H4, J, nI4, hit4, rxu, g1, g2⟩ := hu2
    have eS4 := g1 _ _ eS
    have si4 : Same H H4 := si.trans g1
    obtain ⟨oS4, _⟩ := J.hok S _ eS4
    have oS4 : s2.heap.get? S = some (seqObj "list" (stA st) c) := oS4
    have kp4 : ∀ H3, Kp3 H H4 H3 → Kp3 H Hi H3 := fun H3 z => ⟨z.1, fun b o ho e => z.2 b o ho (g1 _ _ e)⟩
    -- the best so far is written down
    have wr : ∀ {c' : Nat} (o' : s2.heap.update S (Obj.mapSeq fun _ => #[v0, u]) = s2.heap.update S (Obj.mapSeq fun _ => #[v0, u])), (s2.heap.update S (Obj.mapSeq fun _ => #[v0, u])).get? S = some (seqObj "list" #[v0, u] c') → bestV bt (ys.take (i + 1)) y →
        codeAny (model X.prog X.w) X.A (.builtin "min.loop" ⟨[.ref I, .ref f, .ref S], [(Str.ofString "default", dv)]⟩) (fun r s' => match r with | .ok (.ret v) => EP X pins σ Q v s' | .ok _ => False | .error e => E e s') { s2 with heap := s2.heap.update S (Obj.mapSeq fun _ => #[v0, u]) } := fun {c'} _ e hb => by
      have J2 := J.write (x := S) (e := S) (o := .ext fun h => h.get? S = some (seqObj "list" #[v0, u] c')) (t' := s2.toks) (by rw [eS4]; trivial) (.inl rfl) (fun b o nb z => by rw [Heap.get?_update_ne _ _ _ _ nb]; exact z) ⟨_, e⟩ ⟨e, ⟨_, e⟩, fun h1 h2 z g => g _ z⟩
      refine ih (i + 1) (by omega) _ _ c' (some (y, v0, x, u)) J2 (fun b o z => ?_) ?_ ?_ upd_same ⟨rel, rxu, hy, hb, fun H3 z => g2 H3 ⟨z.1, fun b o ho e9 => z.2 b o ho ?_⟩⟩
      · rw [upd_ne (ne_of_none z nS)]
        exact si4 _ _ z
      · rw [upd_ne nIS]
        exact nI4
      · exact hit4.at fun o e => by rw [Heap.get?_update_ne _ _ _ _ nIS]; exact e
      · rw [upd_ne (fun z => ?_)]
        · exact e9
        · subst z
          rw [eS4] at e9
          cases e9
          rcases ho with ⟨xs, z⟩ | ⟨q', u', z⟩ <;> cases z
    have tk1 : ys.take (i + 1) = ys.take i ++ [y] := by rw [List.take_add_one, hyi]; rfl
    cases st with
    | none =>
      have i0 : i = 0 := hst
      have oS4 : s2.heap.get? S = some (seqObj "list" #[] c) := oS4
      subst i0
      show wpAny _ X.A.in1 (updateSeq S (fun _ => #[v0, u]) >>= _) _ _ _
      refine (wpAny_bind (wpAny_updateSeq oS4 rfl ?_))
      rw [hname]
      refine wpAny_pure ⟨plainId_quiet PySem.F.plain_min_loop _, wr rfl (get?_update_seq oS4 fun _ => #[v0, u]) ?_⟩
      rw [tk1]
      refine ⟨List.mem_singleton.mpr rfl, fun z hz => ?_⟩
      rw [List.mem_singleton.mp hz]
      exact O.refl _
    | some t =>
      obtain ⟨y', v', x', u'⟩ := t
      obtain ⟨ryv, rxu', hy', hb, dp'⟩ := hst
      have oS4 : s2.heap.get? S = some (seqObj "list" #[v', u'] c) := oS4
      obtain ⟨as, r1⟩ := Dp.reads J _ _ _ (g2 H4 ⟨si4, fun _ _ _ e => e⟩) rxu
      obtain ⟨bs, r2⟩ := Dp.reads J _ _ _ (dp' H4 (kp4 H4 ⟨si4, fun _ _ _ e => e⟩)) rxu'
      have go := rcLt_D (kd y) (kd y') X.A.in1 s2 u u' as bs r1 r2 (SeqAt.canLay_of_shaped (shp _ hy)) (SeqAt.canLay_of_shaped (shp _ hy')) (cmp _ hy _ hy') (SeqAt.room_of_shaped (shp _ hy) (by show X.A.units + 1 + 64 < _; omega))
      show wpAny _ X.A.in1 (tryCatch (holding [v0, u] (richCompare .Lt u u' >>= _)) _ >>= _) _ _ _
      refine (wpAny_bind (wpAny_tryCatch (wpAny_holding (wpAny_bind (go X.prog X.w _ _ ?_)))))
      refine (wpAny_bind (wpAny_holding (wpAny_truthy_bool ?_)))
      refine (wpAny_bind (wpAny_letGo (wpAny_pure ?_)))
      rw [← hbt]
      cases hb' : bt y y' with
      | true =>
        simp only [if_true]
        refine (wpAny_bind (wpAny_updateSeq oS4 rfl (wpAny_bind (wpAny_letGo ?_))))
        rw [hname]
        refine wpAny_pure ⟨plainId_quiet PySem.F.plain_min_loop _, wr rfl (get?_update_seq oS4 fun _ => #[v0, u]) ?_⟩
        rw [tk1]
        refine ⟨List.mem_append_right _ (List.mem_singleton.mpr rfl), fun z hz => ?_⟩
        rcases List.mem_append.mp hz with hz | hz
        · exact O.tr _ _ _ (O.asym _ _ hb') (hb.2 z hz)
        · rw [List.mem_singleton.mp hz]
          exact O.refl _
      | false =>
        simp only [Bool.false_eq_true, if_false]
        refine (wpAny_bind (wpAny_letGo ?_))
        rw [hname]
        refine wpAny_pure ⟨plainId_quiet PySem.F.plain_min_loop _, ih (i + 1) (by omega) _ _ c (some (y', v', x', u')) J si4 nI4 hit4 eS4 ⟨ryv, rxu', hy', ?_, fun H3 z => dp' H3 (kp4 H3 z)⟩⟩
        rw [tk1]
        refine ⟨List.mem_append_left _ hb.1, fun z hz => ?_⟩
        rcases List.mem_append.mp hz with hz | hz
        · exact hb.2 z hz
        · rw [List.mem_singleton.mp hz]
          exact hb'
theorem cr_minF {X : Cx} {k j : Nat} (hr : Room j X.A) (hk : k + 2 ≤ j) (hu : X.A.units + 70 < cLine) (hc : X.calm = true) : CallRK X (.builtin "min") [Str.ofString "key", Str.ofString "default"] (rMmF X.prog X.w X.K X.mg X.base k false) := by
  intro pins s σ H vs zs us ws Q I r rz ask
  obtain ⟨a, f, sp, ys, kd, bt, df, rfl, rfl, hs, HD, prom, shp, cmp, hbt, O, q⟩ := ask
  obtain rfl := Vals.ref1 r
  cases rz with
  | cons e1 rz =>
    cases rz with
    | @cons _ dv _ _ e2 rz =>
      cases rz
      obtain rfl : _ = Value.ref f := e1
      obtain ⟨its, rv, pl, hz⟩ := I.list hs
      have lt : a < s.heap.objs.size := by obtain ⟨o, ho, _⟩ := pl.isList; exact Heap.lt_size ho
      refine kmk_tree PySem.F.kind_min PySem.F.plain_min PySem.F.entry_min (args_min_key_default _ _ _) ?_
      show wpAny _ X.A.in1 (Builtin.Builtins.bindParams "min" ["key", "default"] 0 ⟨[], [(Str.ofString "key", .ref f), (Str.ofString "default", dv)]⟩ >>= _) _ _ s
      refine (wpAny_bind (wpAny_of_eq (show Builtin.Builtins.bindParams "min" ["key", "default"] 0 ⟨[], [(Str.ofString "key", .ref f), (Str.ofString "default", dv)]⟩ = pure [some (.ref f), some dv] from rfl) ?_))
      refine (wpAny_bind (wpAny_pure ?_))
      refine (wpAny_bind (wpAny_pyIter_list pl.isList ?_))
      refine (wpAny_bind (wpAny_newList ?_ (Nat.zero_le _)))
      show wpAny _ X.A.in1 (pure _) _ _ _
      refine wpAny_pure ⟨plainId_quiet PySem.F.plain_min_loop _, ?_⟩
      have gI : (s.heap.push { cls := .type "list_iterator", data := .fields #[.ref a, .int 0 0] }).get? s.heap.objs.size = some { cls := .type "list_iterator", data := .fields #[.ref a, .int 0 0] } := Heap.get?_push_size _ rfl
      have nI : H s.heap.objs.size = none := I.hok.fresh (Nat.le_refl _)
      have fp0 : FpOk X pins H s.heap.objs.size := I.fpOk (Nat.le_refl _) nI
      have I1 : Inv X pins σ H { s with heap := s.heap.push { cls := .type "list_iterator", data := .fields #[.ref a, .int 0 0] } } := I.kept (t' := s.toks) push_keep
      have sz := size_push' s.heap { cls := .type "list_iterator", data := .fields #[.ref a, .int 0 0] }
      have nS0 : H (s.heap.push { cls := .type "list_iterator", data := .fields #[.ref a, .int 0 0] }).objs.size = none := I1.hok.fresh (Nat.le_refl _)
      have nIS : s.heap.objs.size ≠ (s.heap.push { cls := .type "list_iterator", data := .fields #[.ref a, .int 0 0] }).objs.size := by rw [sz]; exact Nat.ne_of_lt (Nat.lt_succ_self _)
      have I2 := I1.laid (o := .ext fun h => h.get? (s.heap.push { cls := .type "list_iterator", data := .fields #[.ref a, .int 0 0] }).objs.size = some (seqObj "list" (stA none) 0)) (h' := (s.heap.push { cls := .type "list_iterator", data := .fields #[.ref a, .int 0 0] }).push (seqObj "list" #[] 0)) (t' := s.toks) push_keep (Nat.le_refl _) ⟨Heap.get?_push_size _ rfl, ⟨_, Heap.get?_push_size _ rfl⟩, fun h1 h2 z g => g _ z⟩
      have naS : a ≠ (s.heap.push { cls := .type "list_iterator", data := .fields #[.ref a, .int 0 0] }).objs.size := by rw [sz]; exact Nat.ne_of_lt (Nat.lt_succ_of_lt lt)
      have naI : a ≠ s.heap.objs.size := Nat.ne_of_lt lt
      refine min_loopF hr hk hu hc HD prom shp cmp (fun y z => hbt y z) O hs e2 q fp0 nS0 nIS naI naS ys.length 0 (Nat.zero_add _) _ _ 0 none I2 (fun b o e => ?_) ?_ ?_ upd_same rfl
      · rw [upd_ne (ne_of_none e nS0)]
        exact e
      · rw [upd_ne nIS]
        exact nI
      · exact ⟨_, push_keep _ _ gI, rfl, rfl⟩
end
section
open PySem.SeqAt PySem.W
theorem max_loopF {X : Cx} {k j : Nat} (hr : Room j X.A) (hk : k + 2 ≤ j) (hu : X.A.units + 70 < cLine) (hc : X.calm = true) {pins : List (Addr × Obj)} {σ : L2.St} {H : Hp} {Q : VK} {a f : Addr} {sp : Sp} {ys : List V} {kd : V → PyData} {bt : V → V → Bool} {df : V} {dv : Value} {E : Value → Shared → Prop}
    (HD : Hd X.prog X.w X.K X.mg X.base k f sp) (prom : ∀ y ∈ ys, ∀ (H1 : Hp) (R : VK), Same H H1 → (∀ u H2, Same H1 H2 → (∀ H3, Kp3 H H2 H3 → Dp X.K H3 u (kd y)) → R u H2) → sp [y] H1 R E0)
    (shp : ∀ y ∈ ys, SeqAt.shaped (kd y) = true) (cmp : ∀ y ∈ ys, ∀ z ∈ ys, okD (kd y) (kd z) = true) (hbt : ∀ y z, bt y z = gtD (kd y) (kd z)) (O : SrtO.Swo bt) (sq : SqL X.K H a ys) (rd : RelV df dv)
    (q : ∀ H', Same H H' → (ys = [] → Q df H') ∧ (∀ y, bestV bt ys y → Q y H')) {I S : Addr} (fp0 : FpOk X pins H I) (nS : H S = none) (nIS : I ≠ S) (naI : a ≠ I) (naS : a ≠ S) :
    ∀ (r i : Nat), i + r = ys.length → ∀ (s : Shared) (Hi : Hp) (c : Nat) (st : Option (V × Value × V × Value)), Inv X pins σ Hi s → Same H Hi → Hi I = none → s.heap.IsListIter I a i →
      Hi S = some (.ext fun h => h.get? S = some (seqObj "list" (stA st) c)) →
      (match st with | none => i = 0 | some (y, v, x, u) => RelV y v ∧ RelV x u ∧ y ∈ ys ∧ bestV bt (ys.take i) y ∧ ∀ H3, Kp3 H Hi H3 → Dp X.K H3 x (kd y)) →
      codeAny (model X.prog X.w) X.A (.builtin "max.loop" ⟨[.ref I, .ref f, .ref S], [(Str.ofString "default", dv)]⟩) (fun r s' => match r with | .ok (.ret v) => EP X pins σ Q v s' | .ok _ => False | .error e => E e s') s := by
  obtain ⟨fd, ps, F, kp, bnd⟩ := HD.ex
  have hname : (toString "max" ++ toString ".loop" : String) = "max.loop" := by decide
  intro r
  induction r with
  | zero =>
    intro i hi s Hi c st Ii si nIi hit eS hst
    obtain ⟨oS, _⟩ := Ii.hok S _ eS
    have oS : s.heap.get? S = some (seqObj "list" (stA st) c) := oS
    obtain ⟨its, rv, pl, hz⟩ := Ii.list (SqL.same si sq)
    have lz : its.length = ys.length := rv.length.symm
    have W := Walks.list (prog := X.prog) (w := X.w) (A := X.A.in1) (Ii.ok.hd hc) I a naI its.toArray
    refine codeAny_builtin PySem.F.entry_max_loop ?_
    rw [Around.under_plainId PySem.F.plain_max_loop _]
    show wpAny _ X.A.in1 (seqItems? (.ref S) >>= _) _ _ s
    refine (wpAny_bind (wpAny_seqItems oS rfl ?_))
    show wpAny _ X.A.in1 (tryCatch (pyNext (.ref I)) _ >>= _) _ _ s
    refine (wpAny_bind (wpAny_tryCatch (W.done s _ _ ⟨by rw [List.size_toArray, lz, ← hi, Nat.add_zero]; exact hit, pl.isList⟩ fun h' tk hk2 => ?_)))
    have I2 : Inv X pins σ Hi { s with heap := h', toks := tk } := Ii.turned (it := I) (t' := tk) (fun b o hb e => hk2 b o (fun z => hb (List.mem_singleton.mp z)) e) nIi fp0.2.1 fp0.2.2.2.1 fp0.2.2.2.2.1 fp0.2.2.2.2.2
    have oS2 := hk2 S _ (fun z => nIS (List.mem_singleton.mp z).symm) oS
    cases st with
    | none =>
      refine (wpAny_bind (wpAny_rule ?_))
      refine wpAny_pure ?_
      have e0 : ys = [] := by
        subst hst
        exact List.eq_nil_of_length_eq_zero (by omega)
      exact ⟨df, _, I2, rd, (q _ si).1 e0⟩
    | some t =>
      obtain ⟨y, v, x, u⟩ := t
      obtain ⟨ryv, rxu, hy, hb, _⟩ := hst
      have oS2 : h'.get? S = some (seqObj "list" #[v, u] c) := oS2
      show wpAny _ X.A.in1 (updateSeq S (fun _ => #[]) >>= _) _ _ _
      refine (wpAny_bind (wpAny_updateSeq oS2 rfl (wpAny_bind (wpAny_letGo (wpAny_pure ?_)))))
      have hb : bestV bt ys y := by
        have hb := hb
        rw [List.take_of_length_le (by omega)] at hb
        exact hb
      have I3 := I2.write (x := S) (e := S) (o := .ext fun h => ∃ o, h.get? S = some o) (h' := h'.update S (Obj.mapSeq fun _ => (#[] : Array Value))) (t' := tk) (by rw [eS]; trivial) (.inl rfl) (fun b o nb e => by rw [Heap.get?_update_ne _ _ _ _ nb]; exact e) ⟨_, get?_update_seq oS2 fun _ => #[]⟩ ⟨⟨_, get?_update_seq oS2 fun _ => #[]⟩, ⟨_, get?_update_seq oS2 fun _ => #[]⟩, fun h1 h2 z g => by obtain ⟨o, z⟩ := z; exact ⟨o, g _ z⟩⟩
      exact ⟨y, _, I3, ryv, (q _ (fun b o e => by rw [upd_ne (ne_of_none e nS)]; exact si _ _ e)).2 y hb⟩
  | succ r ih =>
    intro i hi s Hi c st Ii si nIi hit eS hst
    have lti : i < ys.length := by omega
    obtain ⟨oS, _⟩ := Ii.hok S _ eS
    have oS : s.heap.get? S = some (seqObj "list" (stA st) c) := oS
    obtain ⟨its, rv, pl, hz⟩ := Ii.list (SqL.same si sq)
    have lz : its.length = ys.length := rv.length.symm
    have W := Walks.list (prog := X.prog) (w := X.w) (A := X.A.in1) (Ii.ok.hd hc) I a naI its.toArray
    refine codeAny_builtin PySem.F.entry_max_loop ?_
    rw [Around.under_plainId PySem.F.plain_max_loop _]
    show wpAny _ X.A.in1 (seqItems? (.ref S) >>= _) _ _ s
    refine (wpAny_bind (wpAny_seqItems oS rfl ?_))
    show wpAny _ X.A.in1 (tryCatch (pyNext (.ref I)) _ >>= _) _ _ s
    refine (wpAny_bind (wpAny_tryCatch (W.item i s _ _ (by rw [List.size_toArray, lz]; exact lti) ⟨hit, pl.isList⟩ fun v h' tk hx hst2 hk2 => ?_)))
    obtain ⟨hit2, _⟩ := hst2
    have hx : its[i]? = some v := by simpa using hx
    obtain ⟨v0, hv0, rel⟩ := Vals.get rv (List.getElem?_eq_getElem lti)
    obtain rfl : v0 = v := Option.some.inj (hv0.symm.trans hx)
    have hy : ys[i] ∈ ys := List.getElem_mem lti
    have hyi := List.getElem?_eq_getElem lti
    generalize ys[i] = y at rel hy hyi
    have I2 : Inv X pins σ Hi { s with heap := h', toks := tk } := Ii.turned (it := I) (t' := tk) (fun b o hb e => hk2 b o (fun z => hb (List.mem_singleton.mp z)) e) nIi fp0.2.1 fp0.2.2.2.1 fp0.2.2.2.2.1 fp0.2.2.2.2.2
    obtain ⟨oi, hoi, coi, doi⟩ := id hit2
    have Ip := I2.pinned (fp := [I]) (fun b hb => by rw [List.mem_singleton.mp hb]; exact ⟨nIi, fp0.2⟩) (fun b hb => by rw [List.mem_singleton.mp hb]; exact ⟨oi, hoi, fun v z => by rw [doi] at z; cases z⟩)
    have spy := prom y hy Hi (fun u H4 => Same Hi H4 ∧ ∀ H3, Kp3 H H4 H3 → Dp X.K H3 u (kd y)) si fun u H4 g1 g2 => ⟨g1, g2⟩
    have called : wpAny (model X.prog X.w) X.A.in1 (call (.ref f) [v0]) (fun u s2 => ∃ x H4, Inv X pins σ H4 s2 ∧ H4 I = none ∧ s2.heap.IsListIter I a (i + 1) ∧ RelV x u ∧ Same Hi H4 ∧ ∀ H3, Kp3 H H4 H3 → Dp X.K H3 x (kd y)) (fun _ _ => False) { s with heap := h', toks := tk } := by
      refine wpAny_call (codeAny_mono (F.run X.A.in1 X.stack _ Hi ⟨[v0], []⟩ [v0] [y] _ E0 ((hr.mono (Nat.le_of_succ_le hk)).in1) Ip.env0.in1 (bnd _ [v0] Ip.kIn (by rw [← F.len _ _ _ _ spy]; rfl)) (.cons rel .nil) spy) fun r s2 hq => ?_)
      match r, hq with
      | .error _, hq => exact False.elim hq
      | .ok .next, hq => exact False.elim hq
      | .ok .brk, hq => exact False.elim hq
      | .ok .cont, hq => exact False.elim hq
      | .ok (.ret u), hq =>
        obtain ⟨x, H4, J, rxv, g1, g2⟩ := Ip.after hq
        have pp := J.pin (I, oi) (List.mem_append_right _ (List.mem_append_right _ (mem_pinsAt (List.mem_singleton.mpr rfl) hoi)))
        exact ⟨x, H4, (J.unpinned (pins := [])).pins_of (fun p hp => J.pin p (List.mem_append_right _ (List.mem_append_left _ hp))), pp.2.1, ⟨oi, pp.1, coi, doi⟩, rxv, g1, g2⟩
    show wpAny _ X.A.in1 (tryCatch (holding [v0] (call (.ref f) [v0])) _ >>= _) _ _ _
    refine (wpAny_bind (wpAny_tryCatch (wpAny_holding (wpAny_mono called (fun u s2 hu2 => ?_) fun _ _ z => z.elim))))
    obtain ⟨x, H4, J, nI4, hit4, rxu, g1, g2⟩ := hu2
    have eS4 := g1 _ _ eS
    have si4 : Same H H4 := si.trans g1
    obtain ⟨oS4, _⟩ := J.hok S _ eS4
    have oS4 : s2.heap.get? S = some (seqObj "list" (stA st) c) := oS4
    have kp4 : ∀ H3, Kp3 H H4 H3 → Kp3 H Hi H3 := fun H3 z => ⟨z.1, fun b o ho e => z.2 b o ho (g1 _ _ e)⟩
    -- the best so far is written down
    have wr : ∀ {c' : Nat} (o' : s2.heap.update S (Obj.mapSeq fun _ => #[v0, u]) = s2.heap.update S (Obj.mapSeq fun _ => #[v0, u])), (s2.heap.update S (Obj.mapSeq fun _ => #[v0, u])).get? S = some (seqObj "list" #[v0, u] c') → bestV bt (ys.take (i + 1)) y →
        codeAny (model X.prog X.w) X.A (.builtin "max.loop" ⟨[.ref I, .ref f, .ref S], [(Str.ofString "default", dv)]⟩) (fun r s' => match r with | .ok (.ret v) => EP X pins σ Q v s' | .ok _ => False | .error e => E e s') { s2 with heap := s2.heap.update S (Obj.mapSeq fun _ => #[v0, u]) } := fun {c'} _ e hb => by
      have J2 := J.write (x := S) (e := S) (o := .ext fun h => h.get? S = some (seqObj "list" #[v0, u] c')) (t' := s2.toks) (by rw [eS4]; trivial) (.inl rfl) (fun b o nb z => by rw [Heap.get?_update_ne _ _ _ _ nb]; exact z) ⟨_, e⟩ ⟨e, ⟨_, e⟩, fun h1 h2 z g => g _ z⟩
      refine ih (i + 1) (by omega) _ _ c' (some (y, v0, x, u)) J2 (fun b o z => ?_) ?_ ?_ upd_same ⟨rel, rxu, hy, hb, fun H3 z => g2 H3 ⟨z.1, fun b o ho e9 => z.2 b o ho ?_⟩⟩
      · rw [upd_ne (ne_of_none z nS)]
        exact si4 _ _ z
      · rw [upd_ne nIS]
        exact nI4
      · exact hit4.at fun o e => by rw [Heap.get?_update_ne _ _ _ _ nIS]; exact e
      · rw [upd_ne (fun z => ?_)]
        · exact e9
        · subst z
          rw [eS4] at e9
          cases e9
          rcases ho with ⟨xs, z⟩ | ⟨q', u', z⟩ <;> cases z
    have tk1 : ys.take (i + 1) = ys.take i ++ [y] := by rw [List.take_add_one, hyi]; rfl
    cases st with
    | none =>
      have i0 : i = 0 := hst
      have oS4 : s2.heap.get? S = some (seqObj "list" #[] c) := oS4
      subst i0
      show wpAny _ X.A.in1 (updateSeq S (fun _ => #[v0, u]) >>= _) _ _ _
      refine (wpAny_bind (wpAny_updateSeq oS4 rfl ?_))
      rw [hname]
      refine wpAny_pure ⟨plainId_quiet PySem.F.plain_max_loop _, wr rfl (get?_update_seq oS4 fun _ => #[v0, u]) ?_⟩
      rw [tk1]
      refine ⟨List.mem_singleton.mpr rfl, fun z hz => ?_⟩
      rw [List.mem_singleton.mp hz]
      exact O.refl _
    | some t =>
      obtain ⟨y', v', x', u'⟩ := t
      obtain ⟨ryv, rxu', hy', hb, dp'⟩ := hst
      have oS4 : s2.heap.get? S = some (seqObj "list" #[v', u'] c) := oS4
      obtain ⟨as, r1⟩ := Dp.reads J _ _ _ (g2 H4 ⟨si4, fun _ _ _ e => e⟩) rxu
      obtain ⟨bs, r2⟩ := Dp.reads J _ _ _ (dp' H4 (kp4 H4 ⟨si4, fun _ _ _ e => e⟩)) rxu'
      have go := rcGt_D (kd y) (kd y') X.A.in1 s2 u u' as bs r1 r2 (SeqAt.canLay_of_shaped (shp _ hy)) (SeqAt.canLay_of_shaped (shp _ hy')) (cmp _ hy _ hy') (SeqAt.room_of_shaped (shp _ hy) (by show X.A.units + 1 + 64 < _; omega))
      show wpAny _ X.A.in1 (tryCatch (holding [v0, u] (richCompare .Gt u u' >>= _)) _ >>= _) _ _ _
      refine (wpAny_bind (wpAny_tryCatch (wpAny_holding (wpAny_bind (go X.prog X.w _ _ ?_)))))
      refine (wpAny_bind (wpAny_holding (wpAny_truthy_bool ?_)))
      refine (wpAny_bind (wpAny_letGo (wpAny_pure ?_)))
      rw [← hbt]
      cases hb' : bt y y' with
      | true =>
        simp only [if_true]
        refine (wpAny_bind (wpAny_updateSeq oS4 rfl (wpAny_bind (wpAny_letGo ?_))))
        rw [hname]
        refine wpAny_pure ⟨plainId_quiet PySem.F.plain_max_loop _, wr rfl (get?_update_seq oS4 fun _ => #[v0, u]) ?_⟩
        rw [tk1]
        refine ⟨List.mem_append_right _ (List.mem_singleton.mpr rfl), fun z hz => ?_⟩
        rcases List.mem_append.mp hz with hz | hz
        · exact O.tr _ _ _ (O.asym _ _ hb') (hb.2 z hz)
        · rw [List.mem_singleton.mp hz]
          exact O.refl _
      | false =>
        simp only [Bool.false_eq_true, if_false]
        refine (wpAny_bind (wpAny_letGo ?_))
        rw [hname]
        refine wpAny_pure ⟨plainId_quiet PySem.F.plain_max_loop _, ih (i + 1) (by omega) _ _ c (some (y', v', x', u')) J si4 nI4 hit4 eS4 ⟨ryv, rxu', hy', ?_, fun H3 z => dp' H3 (kp4 H3 z)⟩⟩
        rw [tk1]
        refine ⟨List.mem_append_left _ hb.1, fun z hz => ?_⟩
        rcases List.mem_append.mp hz with hz | hz
        · exact hb.2 z hz
        · rw [List.mem_singleton.mp hz]
          exact hb'
theorem cr_maxF {X : Cx} {k j : Nat} (hr : Room j X.A) (hk : k + 2 ≤ j) (hu : X.A.units + 70 < cLine) (hc : X.calm = true) : CallRK X (.builtin "max") [Str.ofString "key", Str.ofString "default"] (rMmF X.prog X.w X.K X.mg X.base k true) := by
  intro pins s σ H vs zs us ws Q I r rz ask
  obtain ⟨a, f, sp, ys, kd, bt, df, rfl, rfl, hs, HD, prom, shp, cmp, hbt, O, q⟩ := ask
  obtain rfl := Vals.ref1 r
  cases rz with
  | cons e1 rz =>
    cases rz with
    | @cons _ dv _ _ e2 rz =>
      cases rz
      obtain rfl : _ = Value.ref f := e1
      obtain ⟨its, rv, pl, hz⟩ := I.list hs
      have lt : a < s.heap.objs.size := by obtain ⟨o, ho, _⟩ := pl.isList; exact Heap.lt_size ho
      refine kmk_tree PySem.F.kind_max PySem.F.plain_max PySem.F.entry_max (args_max_key_default _ _ _) ?_
      show wpAny _ X.A.in1 (Builtin.Builtins.bindParams "max" ["key", "default"] 0 ⟨[], [(Str.ofString "key", .ref f), (Str.ofString "default", dv)]⟩ >>= _) _ _ s
      refine (wpAny_bind (wpAny_of_eq (show Builtin.Builtins.bindParams "max" ["key", "default"] 0 ⟨[], [(Str.ofString "key", .ref f), (Str.ofString "default", dv)]⟩ = pure [some (.ref f), some dv] from rfl) ?_))
      refine (wpAny_bind (wpAny_pure ?_))
      refine (wpAny_bind (wpAny_pyIter_list pl.isList ?_))
      refine (wpAny_bind (wpAny_newList ?_ (Nat.zero_le _)))
      show wpAny _ X.A.in1 (pure _) _ _ _
      refine wpAny_pure ⟨plainId_quiet PySem.F.plain_max_loop _, ?_⟩
      have gI : (s.heap.push { cls := .type "list_iterator", data := .fields #[.ref a, .int 0 0] }).get? s.heap.objs.size = some { cls := .type "list_iterator", data := .fields #[.ref a, .int 0 0] } := Heap.get?_push_size _ rfl
      have nI : H s.heap.objs.size = none := I.hok.fresh (Nat.le_refl _)
      have fp0 : FpOk X pins H s.heap.objs.size := I.fpOk (Nat.le_refl _) nI
      have I1 : Inv X pins σ H { s with heap := s.heap.push { cls := .type "list_iterator", data := .fields #[.ref a, .int 0 0] } } := I.kept (t' := s.toks) push_keep
      have sz := size_push' s.heap { cls := .type "list_iterator", data := .fields #[.ref a, .int 0 0] }
      have nS0 : H (s.heap.push { cls := .type "list_iterator", data := .fields #[.ref a, .int 0 0] }).objs.size = none := I1.hok.fresh (Nat.le_refl _)
      have nIS : s.heap.objs.size ≠ (s.heap.push { cls := .type "list_iterator", data := .fields #[.ref a, .int 0 0] }).objs.size := by rw [sz]; exact Nat.ne_of_lt (Nat.lt_succ_self _)
      have I2 := I1.laid (o := .ext fun h => h.get? (s.heap.push { cls := .type "list_iterator", data := .fields #[.ref a, .int 0 0] }).objs.size = some (seqObj "list" (stA none) 0)) (h' := (s.heap.push { cls := .type "list_iterator", data := .fields #[.ref a, .int 0 0] }).push (seqObj "list" #[] 0)) (t' := s.toks) push_keep (Nat.le_refl _) ⟨Heap.get?_push_size _ rfl, ⟨_, Heap.get?_push_size _ rfl⟩, fun h1 h2 z g => g _ z⟩
      have naS : a ≠ (s.heap.push { cls := .type "list_iterator", data := .fields #[.ref a, .int 0 0] }).objs.size := by rw [sz]; exact Nat.ne_of_lt (Nat.lt_succ_of_lt lt)
      have naI : a ≠ s.heap.objs.size := Nat.ne_of_lt lt
      refine max_loopF hr hk hu hc HD prom shp cmp (fun y z => hbt y z) O hs e2 q fp0 nS0 nIS naI naS ys.length 0 (Nat.zero_add _) _ _ 0 none I2 (fun b o e => ?_) ?_ ?_ upd_same rfl
      · rw [upd_ne (ne_of_none e nS0)]
        exact e
      · rw [upd_ne nIS]
        exact nI
      · exact ⟨_, push_keep _ _ gI, rfl, rfl⟩
end
section
variable {P : Program} {w : World} {K : PySem.W.Frag} {mg : Str → Option Value} {base : Heap} {X : Cx} {k j : Nat}
theorem hu70 {A : Around} (hr : Room j A) : A.units + 70 < cLine := by have := hr.un; omega
theorem cr_minFK (hr : Room j X.A) (hk : k + 2 ≤ j) (h1 : X.prog = P := by rfl) (h2 : X.w = w := by rfl) (h3 : X.K = K := by rfl) (h4 : X.mg = mg := by rfl) (h5 : X.base = base := by rfl) (hc : X.calm = true := by rfl) : CallRK X (.builtin "min") [Str.ofString "key", Str.ofString "default"] (rMmF P w K mg base k false) := by
  subst h1 h2 h3 h4 h5
  exact cr_minF hr hk (hu70 hr) hc
theorem cr_maxFK (hr : Room j X.A) (hk : k + 2 ≤ j) (h1 : X.prog = P := by rfl) (h2 : X.w = w := by rfl) (h3 : X.K = K := by rfl) (h4 : X.mg = mg := by rfl) (h5 : X.base = base := by rfl) (hc : X.calm = true := by rfl) : CallRK X (.builtin "max") [Str.ofString "key", Str.ofString "default"] (rMmF P w K mg base k true) := by
  subst h1 h2 h3 h4 h5
  exact cr_maxF hr hk (hu70 hr) hc
theorem cr_sortFK (hr : Room j X.A) (hk : k + 2 ≤ j) (h1 : X.prog = P := by rfl) (h2 : X.w = w := by rfl) (h3 : X.K = K := by rfl) (h4 : X.mg = mg := by rfl) (h5 : X.base = base := by rfl) : CallRK X (.builtin "sorted") [Str.ofString "key"] (rSortF P w K mg base k) := by
  subst h1 h2 h3 h4 h5
  exact cr_sortF hr hk (hu70 hr)
end

/-! ### a set of numbers and texts, made by a comprehension without tests; its length -/
section
open PpSet
variable {X : Cx}
/-- the new set is at D; W tells of the turn, of a measure, of the heap -/
def tScK (P : Program) (w : World) (wi : TI) (g : TG) (te : TE) (vs : List Nat) : TE := fun σ H Q =>
  wi σ H fun J Hi => ∀ D, Hi D = none → ∃ W : Nat → Nat → Hp → Prop,
    (∃ m, W 0 m (upd Hi D (SetK P w D (fun _ => false) 0))) ∧
    ∀ i m Hw, W i m Hw →
      (J.stop i Hw ∧ Q (.ref D) Hw) ∨
      (J.go i Hw ∧ ∃ Nx : Hp → Prop, (∀ Hn, Nx Hn → ∃ m2, m2 < m ∧ W (i + 1) m2 Hn) ∧
        ∀ x Hy, J.yld i Hw x Hy → g x (wipe σ vs) Hy fun τ Hz => wipe τ vs = wipe σ vs ∧
          te τ Hz fun y Ha => ∃ (k : Key) (S : Key → Bool) (n : Nat), y = kV k ∧ Ha D = some (SetK P w D S n) ∧ n + 1 < scanBound ∧
            Nx (upd Ha D (SetK P w D (fun j => S j || decide (j = k)) (if S k = true then n else n + 1))))
theorem pe_scK {elt tg iter : Expr} {scope : Scope} {own : List (PySem.Str × Nat)} {pos : Pos} {wi : TI} {g : TG} {te : TE} (hc : X.calm = true) (hN : X.N.Nodup) (hi : PI X tg iter wi) (ok : BlkOk X.N X.env.scope scope own)
    (hg : ∀ s0 H0 C0 cl0 fp0, PG (X.blk s0 H0 scope (compEnvC scope cl0 C0 X.env) fp0) tg g)
    (he : ∀ s0 H0 C0 cl0 fp0, PE (X.blk s0 H0 scope (compEnvC scope cl0 C0 X.env) fp0) elt te)
    (hs : ∀ x, foldedSetIterable iter X.env x = pure x := by intro _; rfl) : PE X (.SetComp elt [⟨tg, iter, [], 0⟩] scope pos) (tScK X.prog X.w wi g te (own.map (·.2))) := by
  refine ⟨fun pins s σ H Q I q0 => ?_⟩
  rw [eval_SetComp]
  have cellsThere : ∀ nk ∈ scope.names, nk.2 = .free → ∃ c, X.env.cells.lookup nk.1 = some c := by
    intro nk hm hk
    cases ok.free nk hm hk with
    | inl z => exact I.ok.has _ (.inl z)
    | inr z => exact I.ok.has _ (.inr z)
  refine wpAny_comprehension_free (use := none) rfl hs (closure_ok cellsThere) ok.kind
    (fun nk hm hk => by rw [ok.uniq nk hm, hk])
    (thn (hi.run pins s σ H _ I q0) fun v0 t1 w1 => thn w1 fun itv t2 w2 => ?_)
  obtain ⟨ia, fp, tn, J, Hj, e0, Ij, T, sj, fj, qj⟩ := w2
  subst e0
  refine newSet_ok (newEnv_comp ?_)
  generalize eD : t2.heap.objs.size = D
  have nD : Hj D = none := Ij.hok.fresh (Nat.le_of_eq eD)
  obtain ⟨W, ⟨m0, w0⟩, turn⟩ := qj D nD
  generalize et3 : ({ t2 with heap := t2.heap.push { cls := .type "set", dict := none, data := .set #[] 0 (.fresh 0 0 (!X.w.params.followText "set-order")) } } : Shared) = t3
  have heap3 : t3.heap = t2.heap.push { cls := .type "set", dict := none, data := .set #[] 0 (.fresh 0 0 (!X.w.params.followText "set-order")) } := by
    rw [← et3]
  have Id : Inv X pins σ (upd Hj D (SetK X.prog X.w D (fun _ => false) 0)) t3 := by
    rw [← et3]
    refine Ij.laid (t' := t2.toks) (fun bb oo ee => Heap.get?_push_of_some _ ee) (Nat.le_of_eq eD) ?_
    rw [← eD]
    exact setK_new ⟨_, #[], 0, _, Heap.get?_push_size _ rfl, ⟨rfl, rfl, rfl⟩, rfl, (fun e he => by simp at he), (fun k => by simp), (by decide), (by rfl), rfl⟩
  have below : ∀ b ∈ fp, b < t2.heap.objs.size := by
    intro b hb
    obtain ⟨oo, ee, _⟩ := T.obj _ _ sj b hb
    exact Heap.lt_size ee
  have fd3 : ∀ b ∈ fp, FpOk X pins (upd Hj D (SetK X.prog X.w D (fun _ => false) 0)) b ∧ b < t3.heap.objs.size := by
    intro b hb
    have lt := below b hb
    constructor
    · refine ⟨?_, (fj b hb).2⟩
      rw [upd_ne (by rw [← eD]; exact Nat.ne_of_lt lt)]
      exact (fj b hb).1
    · rw [heap3, Heap.size_push]
      exact Nat.lt_succ_of_lt lt
  have sj3 : tn 0 t3.heap := T.keep _ _ _ sj fun b _ oo ee => by
    rw [heap3]
    exact Heap.get?_push_of_some _ ee
  have Ib := block_start Id ok hN fd3
  have G := hg t3 (upd Hj D (SetK X.prog X.w D (fun _ => false) 0)) t3.heap.objs.size
    (cellsFrom (t3.heap.objs.size + 1) scope.names (cloFrom X.env.cells scope.names [])) fp
  have EE := he t3 (upd Hj D (SetK X.prog X.w D (fun _ => false) 0)) t3.heap.objs.size
    (cellsFrom (t3.heap.objs.size + 1) scope.names (cloFrom X.env.cells scope.names [])) fp
  have off : ∀ b ∈ fp, (upd Hj D (SetK X.prog X.w D (fun _ => false) 0)) b = none := fun b hb => (fd3 b hb).1.1
  show codeAny _ _ (.compStart (.SetComp elt [⟨tg, iter, [], 0⟩] scope pos) 0 (.ref ia) (.ref D)
    (compEnvC scope (cellsFrom (t3.heap.objs.size + 1) scope.names (cloFrom X.env.cells scope.names [])) t3.heap.objs.size X.env)) _
    { t3 with heap := pushCells (t3.heap.push { cls := .type "dict", data := .dict #[] }) scope.names }
  generalize ece : compEnvC scope (cellsFrom (t3.heap.objs.size + 1) scope.names (cloFrom X.env.cells scope.names []))
    t3.heap.objs.size X.env = ce at Ib G EE ⊢
  have locC : ce.locals = t3.heap.objs.size := by
    subst ece
    rfl
  generalize eHd : upd Hj D (SetK X.prog X.w D (fun _ => false) 0) = Hd at Id Ib G EE w0 off fd3
  generalize et4 : ({ t3 with heap := pushCells (t3.heap.push { cls := .type "dict", data := .dict #[] }) scope.names } : Shared) = t4 at Ib ⊢
  have sj4 : tn 0 t4.heap := T.keep _ _ _ sj3 fun b _ oo ee => by
    rw [← et4]
    exact pushCells_keeps _ _ _ _ (Heap.get?_push_of_some _ ee)
  have iterOk : ∀ {τ : L2.St} {Hx : Hp} {sx : Shared}, Inv (X.blk t3 Hd scope ce fp) [] τ Hx sx → (∀ b ∈ fp, Hx b = none) →
      ∀ b ∈ fp, FpOk (X.blk t3 Hd scope ce fp) [] Hx b := by
    intro τ Hx sx Ix hx b hb
    refine ⟨hx b hb, (Ix.ok.exf b hb).1, Ix.ok.exfs b hb, .inl hb, fun y c ee => (Ix.ok.exf b hb).2 y c ee, fun pp hpp => ?_⟩
    exact absurd (show pp ∈ ([] : List (Addr × Obj)) ++ [] from hpp) (by simp)
  refine codeAny_compStart_set ?lp (T.self X.A 0 _ _ _ sj4 ?lp)
  refine compLoopS_any (fun n sx => ∃ i Hx, Inv (X.blk t3 Hd scope ce fp) [] (wipe σ (own.map (·.2))) Hx sx ∧ tn i sx.heap ∧ (∀ b ∈ fp, Hx b = none) ∧ W i n Hx)
    ?_ m0 ⟨0, Hd, Ib, sj4, off, w0⟩
  rintro n t5 ⟨i, H5, I5, sj5, off5, w5⟩
  rcases turn i n H5 w5 with ⟨stop, fin⟩ | ⟨go, Nx, hNx, step⟩
  · have done := T.done (X.blk t3 Hd scope ce fp) rfl rfl rfl hc i [] t5 _ H5 (fun _ _ => False) I5 (iterOk I5 off5) sj5 stop
    refine thnF done fun r t6 ⟨er, I6⟩ => ?_
    subst er
    have Iout : Inv X pins σ H5 t6 := Id.call' (ch := fp) I6.os I6.base I6.hok I6.bare fun b hb =>
      ⟨(fd3 b hb).1.2.2.2.1, (fd3 b hb).1.2.1, (fd3 b hb).1.2.2.2.2.1, (fd3 b hb).1.2.2.2.2.2⟩
    have freeC : H5 t3.heap.objs.size = none := by
      have z : H5 ce.locals = none := I6.free
      rwa [locC] at z
    obtain ⟨mm, hns, _⟩ := I6.loc
    have hns : t6.heap.Ns ce.locals mm := hns
    rw [locC] at hns
    obtain ⟨f0, f1, f2, f3, f4, f5⟩ := Id.fpOk (Nat.le_refl _) freeC
    exact ⟨mm, hns, fun h'' sb => ⟨.ref D, H5, Iout.turned (t' := t6.toks) (fun bb oo hb ee => (sb.2 bb hb).trans ee) f0 f1 f3 f4 f5, rfl, fin⟩⟩
  · have item := T.item (X.blk t3 Hd scope ce fp) rfl rfl rfl hc i [] t5 _ H5 (fun _ _ => False) I5 (iterOk I5 off5) sj5 go
    refine thnF item fun r t6 ⟨u, er, w6⟩ => ?_
    subst er
    refine thnF w6 fun _ t7 ⟨y, H7, I7, r7, y7, sj7, off7⟩ => ?_
    have I7p := I7.pinned (iterOk I7 off7) (T.obj _ _ sj7)
    refine thnF (G.run _ t7 _ H7 y u _ I7p r7 (step y H7 y7)) fun _ t8 ⟨τ, H8, I8, hw, q8⟩ => ?_
    refine wpAny_tests_nil ?_
    rw [if_pos rfl]
    refine thnF (EE.run _ t8 τ H8 _ I8 q8) fun z t9 ⟨yv, H9, I9, r9, k, S, m, ey, eD9, room, nx⟩ => ?_
    subst ey
    refine thnF (mt_saddK (X := X.blk t3 Hd scope ce fp) _ t9 τ H9 (.ref D) [kV k] (.ref D) [z] (fun _ Hx => Nx Hx) I9 rfl (.cons r9 .nil) ⟨D, k, S, m, rfl, rfl, eD9, room, nx⟩) fun _ t10 ⟨_, H10, I10, _, nx10⟩ => ?_
    obtain ⟨m2, lt, w10⟩ := hNx H10 nx10
    have kept : ∀ b ∈ fp, ∀ oo, t7.heap.get? b = some oo → t10.heap.get? b = some oo ∧ H10 b = none := by
      intro b hb oo ee
      have pp := I10.pin (b, oo) (List.mem_append_right _ (List.mem_append_right _ (mem_pinsAt hb ee)))
      exact ⟨pp.1, pp.2.1⟩
    have len8 : (wipe σ (own.map (·.2))).length = τ.length := by rw [← hw, wipe_length]
    refine ⟨m2, lt, i + 1, H10, (I10.unpinned (pins := [])).weak len8 (fun j v ee => ?_), T.keep _ _ _ sj7 fun b hb oo ee => (kept b hb oo ee).1, fun b hb => ?_, w10⟩
    · rw [← hw] at ee
      exact (wipe_some ee).1
    · obtain ⟨oo, ee, _⟩ := T.obj _ _ sj7 b hb
      exact (kept b hb oo ee).2
end
/-- a walk over a list that fills a set of numbers and texts -/
theorem sck_list {P : Program} {w : World} {K : PySem.W.Frag} {a D : Addr} {xs : List V} {g : TG} {te : TE} {vs : List Nat} {σ : L2.St} {H1 : Hp} {Qd : Hp → Prop} (Pv : Nat → Hp → Prop) (h0 : Pv 0 (upd H1 D (SetK P w D (fun _ => false) 0)))
    (hl : ∀ i H, i ≤ xs.length → Pv i H → SqL K H a xs)
    (hs : ∀ i x H, xs[i]? = some x → Pv i H → g x (wipe σ vs) H fun τ Hz => wipe τ vs = wipe σ vs ∧ te τ Hz fun y Ha => ∃ (k : Key) (S : Key → Bool) (n : Nat), y = kV k ∧ Ha D = some (SetK P w D S n) ∧ n + 1 < scanBound ∧
      Pv (i + 1) (upd Ha D (SetK P w D (fun j => S j || decide (j = k)) (if S k = true then n else n + 1))))
    (hd : ∀ H, Pv xs.length H → Qd H) :
    ∃ W : Nat → Nat → Hp → Prop, (∃ m, W 0 m (upd H1 D (SetK P w D (fun _ => false) 0))) ∧
    ∀ i m Hw, W i m Hw →
      ((Itl K a).stop i Hw ∧ Qd Hw) ∨
      ((Itl K a).go i Hw ∧ ∃ Nx : Hp → Prop, (∀ Hn, Nx Hn → ∃ m2, m2 < m ∧ W (i + 1) m2 Hn) ∧
        ∀ x Hy, (Itl K a).yld i Hw x Hy → g x (wipe σ vs) Hy fun τ Hz => wipe τ vs = wipe σ vs ∧
          te τ Hz fun y Ha => ∃ (k : Key) (S : Key → Bool) (n : Nat), y = kV k ∧ Ha D = some (SetK P w D S n) ∧ n + 1 < scanBound ∧
            Nx (upd Ha D (SetK P w D (fun j => S j || decide (j = k)) (if S k = true then n else n + 1)))) := by
  refine ⟨fun i m H => m = xs.length - i ∧ i ≤ xs.length ∧ Pv i H, ⟨xs.length, rfl, Nat.zero_le _, h0⟩, ?_⟩
  rintro i m H ⟨em, hi, pv⟩
  subst em
  have sq := hl i H hi pv
  by_cases lt : i < xs.length
  · right
    refine ⟨⟨xs, xs[i], sq, by simp [lt]⟩, Pv (i + 1), fun Hn pn => ⟨xs.length - (i + 1), by omega, rfl, lt, pn⟩, fun x Hy yl => ?_⟩
    obtain ⟨e, yl⟩ := yl
    subst e
    exact hs i x _ (yl xs sq) pv
  · left
    have e : i = xs.length := by omega
    subst e
    exact ⟨⟨xs, sq, Nat.le_refl _⟩, hd H pv⟩
/-- len(s), s a set of numbers and texts -/
def rLenK (P : Program) (w : World) : List V → Hp → VK → Prop := fun xs H Q => ∃ (p : Addr) (S : Key → Bool) (n : Nat), xs = [.ref p] ∧ H p = some (SetK P w p S n) ∧ Q (.int (n : Nat)) H
theorem len_setK {X : Cx} {P : Program} {w : World} (h1 : X.prog = P := by rfl) (h2 : X.w = w := by rfl) : CallR X (.builtin "len") (rLenK P w) := by
  subst h1 h2
  intro pins s σ H xs us Q I r h
  obtain ⟨p, S, n, rfl, hp, q⟩ := h
  obtain rfl := Vals.ref1 r
  obtain ⟨o, es, ep, t, ho, hex, hd, _, _, hb, hf, rfl⟩ := setK_get I hp
  refine call_len_set ho hex hd hf (by have : scanBound = 4096 := rfl; omega) ?_
  exact ⟨.int ((es.size : Nat) : Int), H, I.tok _, ⟨_, rfl⟩, q⟩

/-! ### what is made of tuples stands where all tuples stand -/
theorem SqT.tsn {K : PySem.W.Frag} {H H' : Hp} {a : Addr} {xs : List V} (e : ∀ b o, (∃ ys, o = HO.tup ys) ∨ (∃ q u, o = HO.frz q u) → H b = some o → H' b = some o) (h : SqT K H a xs) : SqT K H' a xs := by
  rcases h with (h | ⟨o, h⟩) | h
  · exact .inl (.inl (e _ _ (.inl ⟨_, rfl⟩) h))
  · exact .inl (.inr ⟨o, e _ _ (.inr ⟨_, _, rfl⟩) h⟩)
  · exact .inr h
mutual
/-- what is made of tuples stands where all tuples stand -/
theorem Dp.tsn {K : PySem.W.Frag} {H H' : Hp} (e : ∀ b o, (∃ ys, o = HO.tup ys) ∨ (∃ q u, o = HO.frz q u) → H b = some o → H' b = some o) : ∀ (d : PyData) (v : V), tupOnly d = true → Dp K H v d → Dp K H' v d
  | .none, _, _, h => by cases h; exact .non
  | .bool b, _, _, h => by cases h; exact .bl b
  | .int i, _, _, h => by cases h; exact .int i
  | .str x, _, _, h => by cases h; exact .str x
  | .list ds, _, e', _ => by unfold tupOnly at e'; cases e'
  | .tuple ds, _, e', h => by
    unfold tupOnly at e'
    cases h with
    | tup hs ha => exact .tup (SqT.tsn e hs) (DpAll.tsn e ds _ e' ha)
  | .dict _, _, _, h => by cases h
theorem DpAll.tsn {K : PySem.W.Frag} {H H' : Hp} (e : ∀ b o, (∃ ys, o = HO.tup ys) ∨ (∃ q u, o = HO.frz q u) → H b = some o → H' b = some o) : ∀ (ds : List PyData) (vs : List V), tupOnlys ds = true → DpAll K H vs ds → DpAll K H' vs ds
  | [], _, _, h => by cases h; exact .nil
  | d :: ds, _, e', h => by
    unfold tupOnlys at e'
    rw [Bool.and_eq_true] at e'
    cases h with
    | cons h1 h2 => exact .cons (Dp.tsn e d _ e'.1 h1) (DpAll.tsn e ds _ e'.2 h2)
end

/-! ### totals of values -/
/-- the value that the heap's value is -/
def toVl : V → Vl
  | .int k => .i k
  | .str x => .s x.cps.toList
  | _ => .n
theorem toVl_v : ∀ v : Vl, toVl v.v = v
  | .n => rfl
  | .i _ => rfl
  | .s l => by
    show Vl.s (⟨l.toArray⟩ : Str).cps.toList = _
    simp
theorem bf_tri : ∀ {a b : Vl}, bf a b = false → bf b a = false → a = b
  | .n, .n, _, _ => rfl
  | .n, .i _, h, _ => by cases h
  | .n, .s _, h, _ => by cases h
  | .i _, .n, _, h => by cases h
  | .s _, .n, _, h => by cases h
  | .i _, .s _, h, _ => by cases h
  | .s _, .i _, _, h => by cases h
  | .i a, .i b, h, g => by
    have h := of_decide_eq_false h
    have g := of_decide_eq_false g
    have e : a = b := by omega
    rw [e]
  | .s l, .s m, h, g => by
    have h : decide (l < m) = false := h
    have g : decide (m < l) = false := g
    have := lt_tri l m
    rw [h, g] at this
    have e := of_decide_eq_true this.symm
    rw [e]
theorem bf_asym : ∀ a b : Vl, bf a b = true → bf b a = false
  | .n, .n, h => by cases h
  | .n, .i _, _ => rfl
  | .n, .s _, _ => rfl
  | .i _, .n, h => by cases h
  | .s _, .n, h => by cases h
  | .i _, .s _, _ => rfl
  | .s _, .i _, h => by cases h
  | .i a, .i b, h => by
    have h := of_decide_eq_true h
    exact decide_eq_false (by omega)
  | .s l, .s m, h => by
    have h : l < m := of_decide_eq_true h
    exact decide_eq_false (List.lt_asymm h)
theorem bf_tr : ∀ a b c : Vl, bf b a = false → bf c b = false → bf c a = false
  | .n, .n, .n, _, _ => rfl
  | .n, .n, .i _, _, h => h
  | .n, .n, .s _, _, h => h
  | .n, .i _, .n, _, h => by cases h
  | .n, .s _, .n, _, h => by cases h
  | .n, .i _, .i _, _, _ => rfl
  | .n, .i _, .s _, _, _ => rfl
  | .n, .s _, .i _, _, _ => rfl
  | .n, .s _, .s _, _, _ => rfl
  | .i _, .n, _, h, _ => by cases h
  | .s _, .n, _, h, _ => by cases h
  | .i _, .i _, .n, _, h => by cases h
  | .i _, .s _, .n, _, h => by cases h
  | .s _, .i _, _, h, _ => by cases h
  | .s _, .s _, .n, _, h => by cases h
  | .i a, .i b, .i c, h, g => by
    have h := of_decide_eq_false h
    have g := of_decide_eq_false g
    exact decide_eq_false (by omega)
  | .i _, .i _, .s _, _, _ => rfl
  | .i _, .s _, .s _, _, _ => rfl
  | .i _, .s _, .i _, _, h => by cases h
  | .s _, .s _, .i _, _, h => by cases h
  | .s l, .s m, .s k, h, g => by
    have h : ¬ m < l := of_decide_eq_false h
    have g : ¬ k < m := of_decide_eq_false g
    exact decide_eq_false (List.not_lt.mpr (List.le_trans (List.not_lt.mp h) (List.not_lt.mp g)))
theorem bf_swo : SrtO.Swo (fun x y : V => bf (toVl x) (toVl y)) := ⟨fun _ _ h => bf_asym _ _ h, fun _ _ _ h g => bf_tr _ _ _ h g⟩
theorem fb_swo : SrtO.Swo (fun x y : V => bf (toVl y) (toVl x)) := ⟨fun _ _ h => bf_asym _ _ h, fun _ _ _ h g => bf_tr _ _ _ g h⟩
theorem lk_lt (v w : Vl) : ltD v.lk w.lk = bf v w := by
  cases v <;> cases w <;> simp [Vl.lk, ltD, ltDs, PyData.eqv, PyData.eqvAll, bf]
  · omega
  · exact fun h e => by subst e; exact List.lt_irrefl _ h
theorem lk_ok (v w : Vl) : okD v.lk w.lk = true := by
  cases v <;> cases w <;> simp [Vl.lk, okD, okDs, PyData.eqv, PyData.eqvAll]
theorem small1 {n : Nat} (h : n ≤ 1000) : n < sizeLine := Nat.lt_of_le_of_lt h (by decide)

theorem gt_d (v w : Vl) : gtD v.d w.d = bf w v := by
  cases v <;> cases w <;> simp [Vl.d, gtD, gtDs, PyData.eqv, PyData.eqvAll, bf]
  · omega
  · exact fun h e => by subst e; exact List.lt_irrefl _ h
/-- those that are known -/
def kn0 (l : List Vl) : List Vl := l.filter fun v => !v.isN
/-- each once -/
def dist (l : List Vl) : List Vl := l.foldl (fun a x => if x ∈ a then a else a ++ [x]) []
theorem dist_snoc (l : List Vl) (x : Vl) : dist (l ++ [x]) = if x ∈ dist l then dist l else dist l ++ [x] := by
  unfold dist
  rw [List.foldl_append]
  rfl
theorem mem_dist (l : List Vl) : ∀ x, x ∈ dist l ↔ x ∈ l := by
  have go : ∀ (l a : List Vl) (x : Vl), x ∈ l.foldl (fun a x => if x ∈ a then a else a ++ [x]) a ↔ x ∈ a ∨ x ∈ l := by
    intro l
    induction l with
    | nil => exact fun a x => ⟨.inl, fun h => h.elim id (fun z => by cases z)⟩
    | cons y l ih =>
      intro a x
      rw [List.foldl_cons, ih]
      by_cases h : y ∈ a
      · rw [if_pos h]
        constructor
        · exact fun z => z.elim .inl (fun z => .inr (List.mem_cons_of_mem _ z))
        · intro z
          rcases z with z | z
          · exact .inl z
          · rcases List.mem_cons.mp z with rfl | z
            · exact .inl h
            · exact .inr z
      · rw [if_neg h]
        constructor
        · intro z
          rcases z with z | z
          · rcases List.mem_append.mp z with z | z
            · exact .inl z
            · exact .inr (by rw [List.mem_singleton.mp z]; exact List.mem_cons_self)
          · exact .inr (List.mem_cons_of_mem _ z)
        · intro z
          rcases z with z | z
          · exact .inl (List.mem_append_left _ z)
          · rcases List.mem_cons.mp z with rfl | z
            · exact .inl (List.mem_append_right _ (List.mem_singleton.mpr rfl))
            · exact .inr z
  intro x
  unfold dist
  rw [go]
  exact ⟨fun h => h.elim (fun z => by cases z) id, .inr⟩
theorem dist_len (l : List Vl) : (dist l).length ≤ l.length := by
  have go : ∀ (l a : List Vl), (l.foldl (fun a x => if x ∈ a then a else a ++ [x]) a).length ≤ a.length + l.length := by
    intro l
    induction l with
    | nil => exact fun a => Nat.le_refl _
    | cons y l ih =>
      intro a
      rw [List.foldl_cons, List.length_cons]
      by_cases h : y ∈ a
      · rw [if_pos h]
        have := ih a
        omega
      · rw [if_neg h]
        have := ih (a ++ [y])
        rw [List.length_append, List.length_singleton] at this
        omega
  have := go l []
  simpa [dist] using this
/-- the integers -/
def ints0 : List Vl → List Int
  | [] => []
  | .i k :: l => k :: ints0 l
  | _ :: l => ints0 l
theorem ints0_map : ∀ l : List Vl, (l.filter Vl.isI).map Vl.v = (ints0 l).map V.int
  | [] => rfl
  | .n :: l => ints0_map l
  | .s _ :: l => ints0_map l
  | .i k :: l => by
    show V.int k :: (l.filter Vl.isI).map Vl.v = V.int k :: (ints0 l).map V.int
    rw [ints0_map l]
/-- the least and the greatest one -/
def mn (l : List Vl) : Vl := (l.find? fun y => l.all fun z => !bf z y).getD .n
def mx (l : List Vl) : Vl := (l.find? fun y => l.all fun z => !bf y z).getD .n
theorem mn_eq {l : List Vl} {y : Vl} (h : y ∈ l) (g : ∀ z ∈ l, bf z y = false) : mn l = y := by
  unfold mn
  cases e : l.find? fun y => l.all fun z => !bf z y with
  | none =>
    have := List.find?_eq_none.mp e y h
    exact absurd (List.all_eq_true.mpr fun z hz => by rw [g z hz]; rfl) this
  | some y' =>
    have h1 := List.find?_some e
    have h2 := List.mem_of_find?_eq_some e
    have h3 := List.all_eq_true.mp h1 y h
    rw [Bool.not_eq_true'] at h3
    exact (bf_tri h3 (g y' h2)).symm
theorem mx_eq {l : List Vl} {y : Vl} (h : y ∈ l) (g : ∀ z ∈ l, bf y z = false) : mx l = y := by
  unfold mx
  cases e : l.find? fun y => l.all fun z => !bf y z with
  | none =>
    have := List.find?_eq_none.mp e y h
    exact absurd (List.all_eq_true.mpr fun z hz => by rw [g z hz]; rfl) this
  | some y' =>
    have h1 := List.find?_some e
    have h2 := List.mem_of_find?_eq_some e
    have h3 := List.all_eq_true.mp h1 y h
    rw [Bool.not_eq_true'] at h3
    exact (bf_tri (g y' h2) h3).symm
/-- the key that a set keeps of a value -/
def kOf : Vl → Key
  | .i k => .inl k
  | .s l => .inr ⟨l.toArray⟩
  | .n => .inl 0
theorem kOf_v : ∀ {v : Vl}, v.isN = false → kV (kOf v) = v.v
  | .i _, _ => rfl
  | .s _, _ => rfl
  | .n, h => by cases h
theorem kOf_inj : ∀ {v u : Vl}, v.isN = false → u.isN = false → kOf v = kOf u → v = u
  | .i _, .i _, _, _, e => by rw [Sum.inl.inj e]
  | .s _, .s _, _, _, e => by rw [mk_inj (Sum.inr.inj e)]
  | .i _, .s _, _, _, e => by cases e
  | .s _, .i _, _, _, e => by cases e
  | .n, _, h, _, _ => by cases h
  | .i _, .n, _, h, _ => by cases h
  | .s _, .n, _, h, _ => by cases h
theorem upd_same' {H : Hp} {a : Addr} {o o' : HO} (h : o = o') : upd H a o a = some o' := by rw [upd_same, h]
theorem d_tup : ∀ v : Vl, tupOnly v.d = true
  | .n => rfl
  | .i _ => rfl
  | .s _ => rfl
theorem lk_tup : ∀ v : Vl, tupOnly v.lk = true
  | .n => rfl
  | .i _ => rfl
  | .s _ => rfl
/-! the forms -/
inductive Fw where
  | dis | sum | lea | gre
def Fw.s : Fw → String
  | dis => "distinct"
  | sum => "sum"
  | lea => "least"
  | gre => "greatest"
def Fw.ev : Fw → List Vl → Vl
  | dis, l => .i (dist l).length
  | sum, l => if ints0 l = [] then .n else bnd (ints0 l).sum
  | lea, l => mn l
  | gre, l => mx l
inductive Fm where
  | cnt
  | ex (w : Fw) (e : Ep)
def Fm.d : Fm → PyData
  | cnt => .tuple [.str "count"]
  | ex w e => .tuple [.str (Str.ofString w.s), e.d]
def Fm.ev (rs : List (List Vl)) : Fm → Vl
  | cnt => .i rs.length
  | ex w e => w.ev (kn0 (rs.map fun r => e.ev r))
def Fm.ok (n : Nat) : Fm → Prop
  | cnt => True
  | ex _ e => e.ok n ∧ e.ht < 5
/-- rows in a list -/
def Rws (K : PySem.W.Frag) (H : Hp) (p : Addr) (as : List Addr) (rs : List (List Vl)) : Prop := SqL K H p (as.map V.ref) ∧ as.length = rs.length ∧ ∀ (i : Nat) (a : Addr) (r : List Vl), as[i]? = some a → rs[i]? = some r → SqT K H a (r.map Vl.v)
theorem Rws.ext {K : PySem.W.Frag} {H H' : Hp} {p : Addr} {as : List Addr} {rs : List (List Vl)} (e : Same H H') (h : Rws K H p as rs) : Rws K H' p as rs := ⟨SqL.same e h.1, h.2.1, fun i a r h1 h2 => SqT.ext e (h.2.2 i a r h1 h2)⟩
def sp_total (K : PySem.W.Frag) : Sp := fun vs H Q _ => ∃ (p : V) (ra : Addr) (as : List Addr) (fm : Fm) (rs : List (List Vl)) (n : Nat), vs = [p, .ref ra] ∧ Dp K H p fm.d ∧ Rws K H ra as rs ∧ fm.ok n ∧ (∀ r ∈ rs, r.length = n ∧ ∀ v ∈ r, v.ok) ∧ rs.length ≤ 1000 ∧ ∀ H', Same H H' → Q (fm.ev rs).v H'
def sp_xsum (K : PySem.W.Frag) : Sp := fun vs H Q _ => ∃ (p : Addr) (l : List Vl), vs = [.ref p] ∧ SqL K H p (l.map Vl.v) ∧ l.length ≤ 1000 ∧ ∀ H', Same H H' → Q (Fw.sum.ev l).v H'

section
variable {P : Program} {w : World} {K : PySem.W.Frag} {mg : Str → Option Value} {base : Heap}
theorem flt_snoc (f : Vl → Bool) {l : List Vl} {j : Nat} {v : Vl} (h : l[j]? = some v) : (l.take (j + 1)).filter f = (l.take j).filter f ++ if f v = true then [v] else [] := by
  rw [List.take_add_one, h, List.filter_append]
  show _ ++ List.filter _ [v] = _
  rw [List.filter_cons, List.filter_nil]
theorem flt_len (f : Vl → Bool) {l : List Vl} {j n : Nat} (h : l.length ≤ n) : (((l.take j).filter f).map Vl.v).length ≤ n := by
  rw [List.length_map]
  have h1 : ((l.take j).filter f).length ≤ (l.take j).length := List.length_filter_le _ _
  rw [List.length_take] at h1
  omega
theorem ok_xsum {f : Addr} {fd : FuncData} (F : Fun K "exact_sum" "exact_sum" s_exact_sum f fd) (M : Mg mg) (c_bounded : Cl P w K mg base 1 "bounded" sp_bnd) : FnOk P w K mg base CX0 2 f fd ["values"] (sp_xsum K) := by
  refine F.ok sc_exact_sum (fun vs H Q E h => ?_) (fun cdv A outer s H vs Q E hr h => ?_)
  · obtain ⟨p, l, rfl, _⟩ := h
    rfl
  · obtain ⟨p, l, rfl, hS, hl, q⟩ := h
    refine ⟨_, (pss_cons (ps_setLc (i := 1) (own := [("value", 2)]) (g := gName 2) rfl sc_exact_sum.nd rfl rfl (sw_true rfl rfl rfl (by decide +kernel)) (pi_list (pv 0)) (blkOk_by (N := N_exact_sum) (sc := defScope s_exact_sum) (by decide +kernel)) (fun _ _ _ _ _ => (pg_name (i := 2) sc_exact_sum.nd rfl (.inl rfl))) (fun _ _ _ _ _ => (pts_one (pt_val (pe_callB (isiK K) (by rfl) M.isinstance (by decide +kernel) (pa_cons (pv 2) (pa_cons (pe_bltn (v := .ty "int") (by rfl) M.int (by decide +kernel) rfl) pa_nil)))))) (fun _ _ _ _ _ => (pv 2)))
      (pss_cons (ps_if (pt_not (pt_truthK K (pv 1) (by intro _; rfl))) (pss_one (ps_ret pe_non)) pss_nil)
      (pss_one (ps_ret (pe_u c_bounded hr (by first | decide | omega) (by rfl) (pa_cons (pe_callB (cr_sum rfl) (by rfl) M.sum (by decide +kernel) (pa_cons (pv 1) pa_nil)) pa_nil)))))), ?_⟩
    refine ⟨_, rfl, p, rfl, ⟨_, hS⟩, fun D nD => ?_⟩
    refine lc_list (K := K) (a := p) (xs := l.map Vl.v) (fun j Hj => Same H Hj ∧ Hj D = some (.lst (((l.take j).filter Vl.isI).map Vl.v))) ⟨same_upd nD, upd_same⟩ (fun j Hj _ hp => SqL.same hp.1 hS) (fun j y Hj hy hp => ?_) (fun H1 hp => ?_)
    · obtain ⟨sj, eD⟩ := hp
      rw [List.getElem?_map] at hy
      obtain ⟨v, hv, rfl⟩ := Option.map_eq_some_iff.mp hy
      refine ⟨rfl, ?_⟩
      refine ⟨_, rfl, _, _, _, _, _, rfl, .ty _, v.ty, kit_ty v.kI, _, rfl, ?_⟩
      refine ite2 (fun hc => ?_) (fun hc => ?_)
      · refine ⟨_, rfl, _, eD, small1 (flt_len _ hl), fun b o e => ?_, ?_⟩
        · rw [upd_ne (ne_of_none e nD)]
          exact sj _ _ e
        · rw [upd_same, flt_snoc _ hv, if_pos hc, List.map_append]
          rfl
      · refine ⟨sj, ?_⟩
        rw [flt_snoc _ hv, if_neg hc, List.append_nil]
        exact eD
    obtain ⟨s1, eD⟩ := hp
    rw [List.length_map, List.take_of_length_le (Nat.le_refl _), ints0_map] at eD
    have q : ∀ H', Same H H' → Q (if ints0 l = [] then Vl.n else bnd (ints0 l).sum).v H' := q
    refine ⟨_, rfl, _, .inl ⟨_, .of eD, rfl⟩, ?_⟩
    generalize ints0 l = is at eD q
    cases is with
    | nil => exact iteT (q H1 s1)
    | cons k is =>
      refine iteF ⟨_, rfl, D, k :: is, rfl, .of eD, ?_⟩
      have := q H1 s1
      rw [if_neg (fun z => by cases z)] at this
      exact ⟨_, rfl, this⟩
theorem rws_at {K : PySem.W.Frag} {H : Hp} {p : Addr} {as : List Addr} {rs : List (List Vl)} (h : Rws K H p as rs) {j : Nat} {y : V} (hy : (as.map V.ref)[j]? = some y) : ∃ a r, y = .ref a ∧ rs[j]? = some r ∧ SqT K H a (r.map Vl.v) ∧ r ∈ rs := by
  rw [List.getElem?_map] at hy
  obtain ⟨a, ha, rfl⟩ := Option.map_eq_some_iff.mp hy
  have hj : j < rs.length := by
    rw [← h.2.1]
    exact (List.getElem?_eq_some_iff.mp ha).1
  exact ⟨a, rs[j], rfl, List.getElem?_eq_getElem hj, h.2.2 j a _ ha (List.getElem?_eq_getElem hj), List.getElem_mem hj⟩
theorem ok_total {f : Addr} {fd : FuncData} (F : Fun K "total" "total" s_total f fd) (M : Mg mg) (c_evaluate : Cl P w K mg base 7 "evaluate" (sp_eval K 5)) (c_exact_sum : Cl P w K mg base 2 "exact_sum" (sp_xsum K)) (c_value_key : Cl P w K mg base 1 "value_key" (sp_key K)) : FnOk P w K mg base CX0 8 f fd ["form", "rows"] (sp_total K) := by
  obtain ⟨fk, hm_value_key, hdk⟩ := c_value_key.hd
  refine F.ok sc_total (fun vs H Q E h => ?_) (fun cdv A outer s H vs Q E hr h => ?_)
  · obtain ⟨p, ra, as, fm, rs, n, rfl, _⟩ := h
    rfl
  · obtain ⟨p, ra, as, fm, rs, n, rfl, dp, hR, okf, okr, hl, q⟩ := h
    refine ⟨_, (pss_cons (ps_set (i := 2) sc_total.nd rfl (.inl rfl) (pe_ix (ix_tupK K) (pv 0) pe_int (fun _ _ => rfl)))
      (pss_cons (ps_if (pt_cmpR op_eq (pv 2) pe_str (nomark _)) (pss_one (ps_ret (pe_callB (len_seqK K) (by rfl) M.len PySem.boot_len (pa_cons (pv 1) pa_nil)))) pss_nil)
      (pss_cons (ps_setLc (i := 3) (own := [("row", 5)]) (g := gName 5) (tt := tYes) rfl sc_total.nd rfl rfl (sw_true rfl rfl rfl (by decide +kernel)) (pi_list (pv 1)) (blkOk_by (N := N_total) (sc := defScope s_total) (by decide +kernel)) (fun _ _ _ _ _ => (pg_name (i := 5) sc_total.nd rfl (.inl rfl))) (fun _ _ _ _ _ => pts_nil) (fun _ _ _ _ _ => (pe_u c_evaluate hr (by first | decide | omega) (by rfl) (pa_cons (pe_ix (ix_tupK K) (pv 0) pe_int (fun _ _ => rfl)) (pa_cons (pv 5) pa_nil)))))
      (pss_cons (ps_setLc (i := 4) (own := [("value", 6)]) (g := gName 6) rfl sc_total.nd rfl rfl (sw_true rfl rfl rfl (by decide +kernel)) (pi_list (pv 3)) (blkOk_by (N := N_total) (sc := defScope s_total) (by decide +kernel)) (fun _ _ _ _ _ => (pg_name (i := 6) sc_total.nd rfl (.inl rfl))) (fun _ _ _ _ _ => (pts_one (pt_cmpR op_notN (pv 6) pe_non (nomark _)))) (fun _ _ _ _ _ => (pv 6)))
      (pss_cons (ps_if (pt_cmpR op_eq (pv 2) pe_str (nomark _)) (pss_one (ps_ret (pe_callB (len_setK (P := P) (w := w)) (by rfl) M.len PySem.boot_len (pa_cons (pe_scK (own := [("value", 6)]) (g := gName 6) rfl sc_total.nd (pi_list (pv 4)) (blkOk_by (N := N_total) (sc := defScope s_total) (by decide +kernel)) (fun _ _ _ _ _ => (pg_name (i := 6) sc_total.nd rfl (.inl rfl))) (fun _ _ _ _ _ => (pv 6))) pa_nil)))) pss_nil)
      (pss_cons (ps_if (pt_cmpR op_eq (pv 2) pe_str (nomark _)) (pss_one (ps_ret (pe_u c_exact_sum hr (by first | decide | omega) (by rfl) (pa_cons (pv 4) pa_nil)))) pss_nil)
      (pss_cons (ps_if (pt_cmpR op_eq (pv 2) pe_str (nomark _)) (pss_one (ps_ret (pe_callBK (cr_minFK (P := P) (w := w) (K := K) (mg := mg) (base := base) (k := 1) hr (by first | decide | omega)) (by rfl) M.min (by decide +kernel) (pa_cons (pv 4) pa_nil) (pk_cons (C8.pe_gc (v := .ref _) (by rfl) ⟨_, hm_value_key, rfl⟩) (pk_cons pe_non pk_nil))))) pss_nil)
      (pss_one (ps_ret (pe_callBK (cr_maxFK (P := P) (w := w) (K := K) (mg := mg) (base := base) (k := 1) hr (by first | decide | omega)) (by rfl) M.max (by decide +kernel) (pa_cons (pv 4) pa_nil) (pk_cons (C8.pe_gc (v := .ref _) (by rfl) ⟨_, hm_value_key, rfl⟩) (pk_cons pe_non pk_nil)))))))))))), ?_⟩
    cases fm with
    | cnt =>
      obtain ⟨b, xs, rfl, hb, hx⟩ := dp_tup dp
      obtain rfl : xs = [.str "count"] := by
        cases hx with
        | cons h1 h2 =>
          cases h1
          cases h2
          rfl
      refine ⟨_, rfl, b, _, _, _, rfl, rfl, hb, atI_nat (j := 0) rfl, ?_⟩
      refine ⟨_, rfl, rfl, _, rfl, ?_⟩
      rw [weq]
      refine iteT ⟨_, rfl, ra, _, rfl, .inl hR.1, ?_⟩
      rw [List.length_map, hR.2.1]
      exact q H (.refl H)
    | ex o e =>
      obtain ⟨b, xs, rfl, hb, hx⟩ := dp_tup dp
      obtain ⟨u, rfl, hu⟩ := dp_two hx
      refine ⟨_, rfl, b, _, _, _, rfl, rfl, hb, atI_nat (j := 0) rfl, ?_⟩
      refine ⟨_, rfl, rfl, _, rfl, ?_⟩
      rw [wne _ "count" (by cases o <;> decide +kernel)]
      refine iteF ?_
      refine ⟨_, rfl, ra, rfl, ⟨_, hR.1⟩, fun D nD => ?_⟩
      refine lc_list (K := K) (a := ra) (xs := as.map V.ref) (fun j Hj => Same H Hj ∧ Hj D = some (.lst (((rs.take j).map fun r => e.ev r).map Vl.v))) ⟨same_upd nD, upd_same⟩ (fun j Hj _ hp => SqL.same hp.1 hR.1) (fun j y Hj hy hp => ?_) (fun H1 hp => ?_)
      · obtain ⟨sj, eD⟩ := hp
        obtain ⟨a, r, rfl, hr1, hT, hm⟩ := rws_at hR hy
        refine ⟨rfl, ?_⟩
        refine ⟨_, rfl, b, _, _, _, rfl, rfl, SqT.ext sj hb, atI_nat (j := 1) rfl, ?_⟩
        refine ⟨_, rfl, u, a, e, r, rfl, Dp.ext sj _ _ hu, SqT.ext sj hT, by rw [(okr r hm).1]; exact okf.1, (okr r hm).2, okf.2, fun H' s' => ?_⟩
        refine ⟨_, s' _ _ eD, ?_, fun b o eb => ?_, ?_⟩
        · rw [List.length_map, List.length_map, List.length_take]
          exact small1 (by omega)
        · rw [upd_ne (ne_of_none eb nD)]
          exact s' _ _ (sj _ _ eb)
        · rw [upd_same, List.take_add_one, hr1, List.map_append, List.map_append]
          rfl
      obtain ⟨s1, eD⟩ := hp
      rw [List.length_map, hR.2.1, List.take_of_length_le (Nat.le_refl _)] at eD
      have lok : ∀ v ∈ rs.map fun r => e.ev r, v.ok := fun v hv => by
        obtain ⟨r, hr1, rfl⟩ := List.mem_map.mp hv
        exact Ep.ev_ok (okr r hr1).2 (by rw [(okr r hr1).1]; exact okf.1)
      have lv : (rs.map fun r => e.ev r).length ≤ 1000 := by rw [List.length_map]; exact hl
      have q : ∀ H', Same H H' → Q (o.ev (kn0 (rs.map fun r => e.ev r))).v H' := q
      have sD : SqL K H1 D ((rs.map fun r => e.ev r).map Vl.v) := .of eD
      generalize (rs.map fun r => e.ev r) = l at eD lv q sD lok
      refine ⟨_, rfl, D, rfl, ⟨_, sD⟩, fun D2 nD2 => ?_⟩
      refine lc_list (K := K) (a := D) (xs := l.map Vl.v) (fun j Hj => Same H1 Hj ∧ Hj D2 = some (.lst (((l.take j).filter fun v => !v.isN).map Vl.v))) ⟨same_upd nD2, upd_same⟩ (fun j Hj _ hp => SqL.same hp.1 sD) (fun j y Hj hy hp => ?_) (fun H2 hp => ?_)
      · obtain ⟨sj, eD⟩ := hp
        rw [List.getElem?_map] at hy
        obtain ⟨v, hv, rfl⟩ := Option.map_eq_some_iff.mp hy
        refine ⟨rfl, ?_⟩
        refine ⟨_, rfl, rfl, _, rfl, ?_⟩
        rw [v.eN]
        refine ite2 (fun hc => ?_) (fun hc => ?_)
        · refine ⟨_, rfl, _, eD, small1 (flt_len _ lv), fun b o e => ?_, ?_⟩
          · rw [upd_ne (ne_of_none e nD2)]
            exact sj _ _ e
          · rw [upd_same, flt_snoc _ hv, if_pos hc, List.map_append]
            rfl
        · refine ⟨sj, ?_⟩
          rw [flt_snoc _ hv, if_neg hc, List.append_nil]
          exact eD
      obtain ⟨s2, eD2⟩ := hp
      rw [List.length_map, List.take_of_length_le (Nat.le_refl _)] at eD2
      have lk : (kn0 l).length ≤ 1000 := Nat.le_trans (List.length_filter_le _ _) lv
      have kno : ∀ v ∈ kn0 l, v.isN = false := fun v hv => by
        have := (List.mem_filter.mp hv).2
        simpa using this
      have sK : SqL K H2 D2 ((kn0 l).map Vl.v) := .of eD2
      have q : ∀ H', Same H2 H' → Q (o.ev (kn0 l)).v H' := fun H' s' => q H' ((s1.trans s2).trans s')
      have kok : ∀ v ∈ kn0 l, v.ok := fun v hv => lok v (List.mem_filter.mp hv).1
      generalize kn0 l = ks at lk kno sK q kok
      clear eD2 sD eD
      refine ⟨_, rfl, rfl, _, rfl, ?_⟩
      cases o with
      | dis =>
        rw [show decide (V.str (Str.ofString Fw.dis.s) = V.str (Str.ofString "distinct")) = true from decide_eq_true rfl]
        refine iteT ?_
        refine ⟨_, rfl, D2, rfl, ⟨_, sK⟩, fun D3 nD3 => ?_⟩
        refine sck_list (P := P) (w := w) (K := K) (a := D2) (D := D3) (xs := ks.map Vl.v) (fun j Hj => Same H2 Hj ∧ ∃ S : Key → Bool, Hj D3 = some (SetK P w D3 S (dist (ks.take j)).length) ∧ ∀ k, S k = true ↔ ∃ v ∈ dist (ks.take j), kOf v = k) ⟨same_upd nD3, fun _ => false, upd_same, fun k => Iff.intro (fun z => by cases z) (fun z => by obtain ⟨v, hv, _⟩ := z; exact absurd ((mem_dist _ _).mp hv) List.not_mem_nil)⟩ (fun j Hj _ hp => SqL.same hp.1 sK) (fun j y Hj hy hp => ?_) (fun H3 hp => ?_)
        · obtain ⟨sj, S, eS, hS⟩ := hp
          rw [List.getElem?_map] at hy
          obtain ⟨v, hv, rfl⟩ := Option.map_eq_some_iff.mp hy
          have hvn := kno v (List.mem_of_getElem? hv)
          have etk : dist (ks.take (j + 1)) = if v ∈ dist (ks.take j) then dist (ks.take j) else dist (ks.take j) ++ [v] := by
            rw [List.take_add_one, hv]
            exact dist_snoc _ _
          have hd1 : (dist (ks.take j)).length ≤ 1000 := by
            have h1 := dist_len (ks.take j)
            rw [List.length_take] at h1
            omega
          have hSv : S (kOf v) = true ↔ v ∈ dist (ks.take j) := by
            rw [hS]
            constructor
            · rintro ⟨v', h1, h2⟩
              have := kno v' (List.mem_of_mem_take ((mem_dist _ _).mp h1))
              rw [← kOf_inj this hvn h2]
              exact h1
            · exact fun h => ⟨v, h, rfl⟩
          refine ⟨rfl, ?_⟩
          refine ⟨_, rfl, kOf v, S, _, (kOf_v hvn).symm, eS, ?_, fun b o eb => ?_, fun j => S j || decide (j = kOf v), upd_same' (congrArg (SetK P w D3 fun j => S j || decide (j = kOf v)) ?_), fun k => ?_⟩
          · show _ + 1 < 4096
            omega
          · rw [upd_ne (ne_of_none eb nD3)]
            exact sj _ _ eb
          · rw [etk]
            by_cases h : v ∈ dist (ks.take j)
            · rw [if_pos h, if_pos (hSv.mpr h)]
            · rw [if_neg h, if_neg (fun z => h (hSv.mp z)), List.length_append, List.length_singleton]
          · rw [Bool.or_eq_true, hS, decide_eq_true_iff, etk]
            by_cases h : v ∈ dist (ks.take j)
            · rw [if_pos h]
              exact ⟨fun z => z.elim id fun z => ⟨v, h, z.symm⟩, .inl⟩
            · rw [if_neg h]
              constructor
              · intro z
                rcases z with ⟨v', h1, h2⟩ | z
                · exact ⟨v', List.mem_append_left _ h1, h2⟩
                · exact ⟨v, List.mem_append_right _ (List.mem_singleton.mpr rfl), z.symm⟩
              · rintro ⟨v', h1, h2⟩
                rcases List.mem_append.mp h1 with h1 | h1
                · exact .inl ⟨v', h1, h2⟩
                · rw [List.mem_singleton.mp h1] at h2
                  exact .inr h2.symm
        obtain ⟨s3, S, eS, _⟩ := hp
        rw [List.length_map, List.take_of_length_le (Nat.le_refl _)] at eS
        exact ⟨D3, S, _, rfl, eS, q H3 s3⟩
      | sum =>
        rw [wne Fw.sum.s "distinct" (by decide +kernel)]
        refine iteF ⟨_, rfl, rfl, _, rfl, ?_⟩
        rw [show decide (V.str (Str.ofString Fw.sum.s) = V.str (Str.ofString "sum")) = true from decide_eq_true rfl]
        exact iteT ⟨_, rfl, D2, ks, rfl, sK, lk, q⟩
      | lea =>
        rw [wne Fw.lea.s "distinct" (by decide +kernel)]
        refine iteF ⟨_, rfl, rfl, _, rfl, ?_⟩
        rw [wne Fw.lea.s "sum" (by decide +kernel)]
        refine iteF ⟨_, rfl, rfl, _, rfl, ?_⟩
        rw [show decide (V.str (Str.ofString Fw.lea.s) = V.str (Str.ofString "least")) = true from decide_eq_true rfl]
        refine iteT ⟨_, rfl, ?_⟩
        refine ⟨D2, fk, sp_key K, ks.map Vl.v, fun y => (toVl y).d, fun y z => bf (toVl y) (toVl z), .non, rfl, rfl, sK, hdk, fun y hy Hx R sx k => ?_, fun y hy => ?_, fun y _ z _ => ok_d _ _, fun y z => (lt_d _ _).symm, bf_swo, fun H' s' => ⟨fun e => ?_, fun y hb => ?_⟩⟩
        · rw [List.mem_map] at hy
          obtain ⟨v, hv, rfl⟩ := hy
          refine ⟨v, rfl, fun H' p' s' dp' => k _ _ s' fun H3 kp3 => ?_⟩
          show Dp K H3 (.ref p') (toVl v.v).d
          rw [toVl_v]
          exact Dp.tsn kp3.2 _ _ (d_tup v) dp'
        · rw [List.mem_map] at hy
          obtain ⟨v, hv, rfl⟩ := hy
          show SeqAt.shaped (toVl v.v).d = true
          rw [toVl_v]
          exact key_shaped v (kok v hv)
        · have e : ks = [] := by cases ks with
            | nil => rfl
            | cons a b => cases e
          subst e
          exact q H' s'
        · obtain ⟨h1, h2⟩ := hb
          rw [List.mem_map] at h1
          obtain ⟨v, hv, rfl⟩ := h1
          have e : mn ks = v := mn_eq hv fun z hz => by
            have : bf (toVl z.v) (toVl v.v) = false := h2 z.v (List.mem_map.mpr ⟨z, hz, rfl⟩)
            rw [toVl_v, toVl_v] at this
            exact this
          have := q H' s'
          rw [show (Fw.lea).ev ks = v from e] at this
          exact this
      | gre =>
        rw [wne Fw.gre.s "distinct" (by decide +kernel)]
        refine iteF ⟨_, rfl, rfl, _, rfl, ?_⟩
        rw [wne Fw.gre.s "sum" (by decide +kernel)]
        refine iteF ⟨_, rfl, rfl, _, rfl, ?_⟩
        rw [wne Fw.gre.s "least" (by decide +kernel)]
        refine iteF ⟨_, rfl, ?_⟩
        refine ⟨D2, fk, sp_key K, ks.map Vl.v, fun y => (toVl y).d, fun y z => bf (toVl z) (toVl y), .non, rfl, rfl, sK, hdk, fun y hy Hx R sx k => ?_, fun y hy => ?_, fun y _ z _ => ok_d _ _, fun y z => (gt_d _ _).symm, fb_swo, fun H' s' => ⟨fun e => ?_, fun y hb => ?_⟩⟩
        · rw [List.mem_map] at hy
          obtain ⟨v, hv, rfl⟩ := hy
          refine ⟨v, rfl, fun H' p' s' dp' => k _ _ s' fun H3 kp3 => ?_⟩
          show Dp K H3 (.ref p') (toVl v.v).d
          rw [toVl_v]
          exact Dp.tsn kp3.2 _ _ (d_tup v) dp'
        · rw [List.mem_map] at hy
          obtain ⟨v, hv, rfl⟩ := hy
          show SeqAt.shaped (toVl v.v).d = true
          rw [toVl_v]
          exact key_shaped v (kok v hv)
        · have e : ks = [] := by cases ks with
            | nil => rfl
            | cons a b => cases e
          subst e
          exact q H' s'
        · obtain ⟨h1, h2⟩ := hb
          rw [List.mem_map] at h1
          obtain ⟨v, hv, rfl⟩ := h1
          have e : mx ks = v := mx_eq hv fun z hz => by
            have : bf (toVl v.v) (toVl z.v) = false := h2 z.v (List.mem_map.mpr ⟨z, hz, rfl⟩)
            rw [toVl_v, toVl_v] at this
            exact this
          have := q H' s'
          rw [show (Fw.gre).ev ks = v from e] at this
          exact this
end

/-! ### x in l of data -/
theorem hu65 {k : Nat} {A : Around} (hr : Room k A) : A.units + 65 < cLine := by have := hr.un; omega
theorem inDK {X : Cx} (K : PySem.W.Frag) (hu : X.A.units + 65 < cLine) (h : X.K = K := by rfl) : OpR X (compareOp .In) (rInD K) := by subst h; exact op_inD hu
theorem notInDK {X : Cx} (K : PySem.W.Frag) (hu : X.A.units + 65 < cLine) (h : X.K = K := by rfl) : OpR X (compareOp .NotIn) (rNotInD K) := by subst h; exact op_notInD hu

theorem lay_all : ∀ {ds : List PyData}, (∀ d ∈ ds, d.canLay0 = true ∧ d.depth ≤ 40) → PyData.canLayAll0 ds = true ∧ PyData.depthAll ds ≤ 40
  | [], _ => ⟨rfl, by show 0 ≤ 40; omega⟩
  | d :: ds, h => by
    obtain ⟨h1, h2⟩ := lay_all (ds := ds) fun x hx => h x (List.mem_cons_of_mem _ hx)
    obtain ⟨g1, g2⟩ := h d List.mem_cons_self
    exact ⟨by unfold PyData.canLayAll0; rw [g1, h1]; rfl, by unfold PyData.depthAll; omega⟩
theorem shaped_list {ds : List PyData} (h : ∀ d ∈ ds, d.canLay0 = true ∧ d.depth ≤ 40) : SeqAt.shaped (.list ds) = true := by
  obtain ⟨h1, h2⟩ := lay_all h
  unfold SeqAt.shaped
  rw [Bool.and_eq_true]
  refine ⟨by unfold PyData.canLay0; exact h1, decide_eq_true (by unfold PyData.depth; omega)⟩
theorem shaped_one {d : PyData} (h : d.canLay0 = true ∧ d.depth ≤ 40) : SeqAt.shaped d = true := by
  unfold SeqAt.shaped
  rw [Bool.and_eq_true]
  exact ⟨h.1, decide_eq_true (by omega)⟩

/-! ### the law's totals -/
/-- each once, of values with what they are -/
def distP (l : List (V × PyData)) : List (V × PyData) := l.foldl (fun a x => if (a.any fun z => PyData.eqv z.2 x.2) = true then a else a ++ [x]) []
theorem distP_snoc (l : List (V × PyData)) (x : V × PyData) : distP (l ++ [x]) = if ((distP l).any fun z => PyData.eqv z.2 x.2) = true then distP l else distP l ++ [x] := by
  unfold distP
  rw [List.foldl_append]
  rfl
theorem distP_sub (l : List (V × PyData)) : ∀ x ∈ distP l, x ∈ l := by
  have go : ∀ (l a : List (V × PyData)), ∀ x ∈ l.foldl (fun a x => if (a.any fun z => PyData.eqv z.2 x.2) = true then a else a ++ [x]) a, x ∈ a ∨ x ∈ l := by
    intro l
    induction l with
    | nil => exact fun a x h => .inl h
    | cons y l ih =>
      intro a x h
      rw [List.foldl_cons] at h
      rcases ih _ x h with h | h
      · by_cases e : (a.any fun z => PyData.eqv z.2 y.2) = true
        · rw [if_pos e] at h
          exact .inl h
        · rw [if_neg e] at h
          rcases List.mem_append.mp h with h | h
          · exact .inl h
          · exact .inr (by rw [List.mem_singleton.mp h]; exact List.mem_cons_self)
      · exact .inr (List.mem_cons_of_mem _ h)
  intro x h
  exact (go l [] x h).elim (fun z => by cases z) id
theorem distP_len (l : List (V × PyData)) : (distP l).length ≤ l.length := by
  have go : ∀ (l a : List (V × PyData)), (l.foldl (fun a x => if (a.any fun z => PyData.eqv z.2 x.2) = true then a else a ++ [x]) a).length ≤ a.length + l.length := by
    intro l
    induction l with
    | nil => exact fun a => Nat.le_refl _
    | cons y l ih =>
      intro a
      rw [List.foldl_cons, List.length_cons]
      by_cases e : (a.any fun z => PyData.eqv z.2 y.2) = true
      · rw [if_pos e]
        have := ih a
        omega
      · rw [if_neg e]
        have := ih (a ++ [y])
        rw [List.length_append, List.length_singleton] at this
        omega
  have := go l []
  simpa [distP] using this
theorem p_lay : ∀ v : Vl, v.ok → v.p.canLay0 = true ∧ v.p.depth ≤ 40
  | .n, _ => ⟨rfl, by show 0 ≤ 40; omega⟩
  | .i _, _ => ⟨rfl, by show 0 ≤ 40; omega⟩
  | .s l, h => ⟨strOk_ab h, by show 0 ≤ 40; omega⟩
theorem dpa_of {K : PySem.W.Frag} {H : Hp} : ∀ {l : List (V × PyData)}, (∀ x ∈ l, Dp K H x.1 x.2) → DpAll K H (l.map Prod.fst) (l.map Prod.snd)
  | [], _ => .nil
  | x :: l, h => .cons (h x List.mem_cons_self) (dpa_of fun y hy => h y (List.mem_cons_of_mem _ hy))
def sp_ldist (K : PySem.W.Frag) : Sp := fun vs H Q _ => ∃ (p : Addr) (l : List (V × PyData)), vs = [.ref p] ∧ SqL K H p (l.map Prod.fst) ∧ (∀ x ∈ l, Dp K H x.1 x.2) ∧ (∀ x ∈ l, x.2.canLay0 = true ∧ x.2.depth ≤ 40) ∧ l.length ≤ 1000 ∧ ∀ H' p', Same H H' → H p' = none → H' p' = some (.lst ((distP l).map Prod.fst)) → Q (.ref p') H'
section
variable {P : Program} {w : World} {K : PySem.W.Frag} {mg : Str → Option Value} {base : Heap}
theorem ok_ldist {f : Addr} {fd : FuncData} (F : Fun K "_law_distinct" "_law_distinct" s__law_distinct f fd) (M : Mg mg) : FnOk P w K mg base CX0 1 f fd ["rows"] (sp_ldist K) := by
  refine F.ok sc__law_distinct (fun vs H Q E h => ?_) (fun cdv A outer s H vs Q E hr h => ?_)
  · obtain ⟨p, l, rfl, _⟩ := h
    rfl
  · obtain ⟨p, l, rfl, hS, hD, hL, hl, q⟩ := h
    refine ⟨_, (pss_cons (ps_set (i := 1) sc__law_distinct.nd rfl (.inl rfl) (pe_lst pa_nil))
      (pss_cons (ps_for PassesOwn.never rfl (pi_list (pv 0)) (pg_name (i := 2) sc__law_distinct.nd rfl (.inl rfl)) (pss_one (ps_if (pt_cmpR (notInDK K (hu65 hr)) (pv 2) (pv 1) (by rfl)) (pss_one (ps_expr (pe_bmK K PySem.F.plainAttrs_list PySem.F.slot_list_append PySem.F.type_list_append mt_append (pv 1) (pa_cons (pv 2) pa_nil)))) pss_nil)))
      (pss_one (ps_ret (pv 1))))), ?_⟩
    refine ⟨by show 0 ≤ sizeLine; decide, fun D nD => ?_⟩
    refine ⟨_, rfl, p, rfl, ⟨_, SqL.same (same_upd nD) hS⟩, ?_⟩
    refine for_list (K := K) (a := p) (xs := l.map Prod.fst) (fun j σ Hj => Same H Hj ∧ Hj D = some (.lst ((distP (l.take j)).map Prod.fst)) ∧ ∃ z, σ = [some (.ref p), some (.ref D), z]) ⟨same_upd nD, upd_same, none, rfl⟩ (fun j σ Hj _ hp => SqL.same hp.1 hS) (fun j x σ Hj hx hp => ?_) (fun σ Hj hp => ?_)
    · obtain ⟨sj, eD, z, rfl⟩ := hp
      rw [List.getElem?_map] at hx
      obtain ⟨⟨v, d⟩, hv, rfl⟩ := Option.map_eq_some_iff.mp hx
      have hm := List.mem_of_getElem? hv
      have etk : distP (l.take (j + 1)) = if ((distP (l.take j)).any fun z => PyData.eqv z.2 d) = true then distP (l.take j) else distP (l.take j) ++ [(v, d)] := by
        rw [List.take_add_one, hv]
        exact distP_snoc _ _
      have sub : ∀ x ∈ distP (l.take j), x ∈ l := fun x hx => List.mem_of_mem_take (distP_sub _ x hx)
      have hd1 : (distP (l.take j)).length ≤ 1000 := by
        have h1 := distP_len (l.take j)
        rw [List.length_take] at h1
        omega
      refine ⟨_, rfl, _, rfl, d, (distP (l.take j)).map Prod.snd, Dp.ext sj _ _ (hD _ hm), .lst (.of eD) (dpa_of fun x hx => Dp.ext sj _ _ (hD x (sub x hx))), shaped_one (hL _ hm), shaped_list (fun y hy => by
        obtain ⟨x, hx, rfl⟩ := List.mem_map.mp hy
        exact hL x (sub x hx)), _, rfl, ?_⟩
      rw [List.any_map]
      refine ite2 (fun hc => ?_) (fun hc => ?_)
      · refine ⟨_, rfl, .inl ⟨rfl, _, .inl (.inl eD)⟩, _, rfl, D, _, _, rfl, rfl, eD, by rw [List.length_map]; exact small1 hd1, fun b o eb => ?_, ?_, _, rfl⟩
        · rw [upd_ne (ne_of_none eb nD)]
          exact sj _ _ eb
        · rw [upd_same, etk, if_neg (by
            intro z
            rw [show ((distP (l.take j)).any ((fun z => PyData.eqv z d) ∘ Prod.snd)) = true from z] at hc
            cases hc), List.map_append]
          rfl
      · refine ⟨sj, ?_, _, rfl⟩
        rw [etk, if_pos (by
          cases e : ((distP (l.take j)).any fun z => PyData.eqv z.2 d) with
          | true => rfl
          | false =>
            exact absurd (by rw [show ((distP (l.take j)).any ((fun z => PyData.eqv z d) ∘ Prod.snd)) = false from e]; rfl) hc)]
        exact eD
    · obtain ⟨sj, eD, z, rfl⟩ := hp
      rw [List.length_map, List.take_of_length_le (Nat.le_refl _)] at eD
      exact ⟨_, rfl, q Hj D sj nD eD⟩
end

theorem bf_irr : ∀ v : Vl, bf v v = false
  | .n => rfl
  | .i k => decide_eq_false (by omega)
  | .s l => decide_eq_false (List.lt_irrefl l)
theorem lk_swo : SrtO.Swo (fun y z : V => ltD (toVl y).lk (toVl z).lk) := by
  rw [show (fun y z : V => ltD (toVl y).lk (toVl z).lk) = fun y z => bf (toVl y) (toVl z) from funext fun y => funext fun z => lk_lt _ _]
  exact bf_swo
theorem lk_key (v : Vl) (h : v.ok) : KeyD true v.lk := by
  refine ⟨?_, ?_, ?_⟩
  · cases v with
    | n => exact ⟨_, _, rfl, by rw [if_pos rfl]; exact ⟨_, rfl⟩⟩
    | i k => exact ⟨_, _, rfl, by rw [if_pos rfl]; exact ⟨_, rfl⟩⟩
    | s l => exact ⟨_, _, rfl, by rw [if_pos rfl]; exact ⟨_, rfl⟩⟩
  · cases v with
    | n => decide +kernel
    | i k => show (true && (true && (_ && true))) = true; decide +kernel
    | s l => show (true && (true && (PyData.strOk ⟨l.toArray⟩ && true))) = true; rw [strOk_ab h]; rfl
  · cases v <;> simp [Vl.lk, PyData.depth, PyData.depthAll]
theorem eqv_p (v u : Vl) : PyData.eqv v.p u.p = decide (v = u) := by
  cases v <;> cases u <;> simp [Vl.p, PyData.eqv, S_dec]
  rw [Bool.eq_iff_iff]
  simp
theorem distP_vl (l : List Vl) : distP (l.map fun v => (v.v, v.p)) = (dist l).map fun v => (v.v, v.p) := by
  have go : ∀ (l a : List Vl), (l.map fun v => (v.v, v.p)).foldl (fun a x => if (a.any fun z => PyData.eqv z.2 x.2) = true then a else a ++ [x]) (a.map fun v => (v.v, v.p)) = (l.foldl (fun a x => if x ∈ a then a else a ++ [x]) a).map fun v => (v.v, v.p) := by
    intro l
    induction l with
    | nil => exact fun a => rfl
    | cons y l ih =>
      intro a
      rw [List.map_cons, List.foldl_cons, List.foldl_cons]
      have e : ((a.map fun v => (v.v, v.p)).any fun z => PyData.eqv z.2 y.p) = decide (y ∈ a) := by
        rw [List.any_map, Bool.eq_iff_iff, decide_eq_true_iff, List.any_eq_true]
        constructor
        · rintro ⟨x, hx, e⟩
          have e : PyData.eqv x.p y.p = true := e
          rw [eqv_p] at e
          rw [← of_decide_eq_true e]
          exact hx
        · intro h
          exact ⟨y, h, by show PyData.eqv y.p y.p = true; rw [eqv_p]; exact decide_eq_true rfl⟩
      by_cases h : y ∈ a
      · rw [if_pos (by show _ = true; rw [e]; exact decide_eq_true h), if_pos h]
        exact ih a
      · rw [if_neg (by show ¬ _ = true; rw [e]; exact fun z => h (of_decide_eq_true z)), if_neg h]
        have := ih (a ++ [y])
        rw [List.map_append] at this
        exact this
  exact go l []
section
variable {P : Program} {w : World} {K : PySem.W.Frag} {mg : Str → Option Value} {base : Heap}
theorem ok_ltotal {f : Addr} {fd : FuncData} (F : Fun K "_law_total" "_law_total" s__law_total f fd) (M : Mg mg) (c__law_due : Cl P w K mg base 8 "_law_due" (sp_eval K 5)) (c__law_distinct : Cl P w K mg base 1 "_law_distinct" (sp_ldist K)) (c__law_bounded : Cl P w K mg base 1 "_law_bounded" sp_bnd) (c__law_key : Cl P w K mg base 1 "_law_key" (sp_lkey K)) : FnOk P w K mg base CX0 9 f fd ["form", "rows"] (sp_total K) := by
  obtain ⟨fk, hm__law_key, hdk⟩ := c__law_key.hd
  refine F.ok sc__law_total (fun vs H Q E h => ?_) (fun cdv A outer s H vs Q E hr h => ?_)
  · obtain ⟨p, ra, as, fm, rs, n, rfl, _⟩ := h
    rfl
  · obtain ⟨p, ra, as, fm, rs, n, rfl, dp, hR, okf, okr, hl, q⟩ := h
    refine ⟨_, (pss_cons (ps_if (pt_cmpR op_eq (pe_ix (ix_tupK K) (pv 0) pe_int (fun _ _ => rfl)) pe_str (nomark _)) (pss_one (ps_ret (pe_callB (len_seqK K) (by rfl) M.len PySem.boot_len (pa_cons (pv 1) pa_nil)))) pss_nil)
      (pss_cons (ps_setLc (i := 2) (own := [("row", 5)]) (g := gName 5) (tt := tYes) rfl sc__law_total.nd rfl rfl (sw_true rfl rfl rfl (by decide +kernel)) (pi_list (pv 1)) (blkOk_by (N := N__law_total) (sc := defScope s__law_total) (by decide +kernel)) (fun _ _ _ _ _ => (pg_name (i := 5) sc__law_total.nd rfl (.inl rfl))) (fun _ _ _ _ _ => pts_nil) (fun _ _ _ _ _ => (pe_u c__law_due hr (by first | decide | omega) (by rfl) (pa_cons (pe_ix (ix_tupK K) (pv 0) pe_int (fun _ _ => rfl)) (pa_cons (pv 5) pa_nil)))))
      (pss_cons (ps_setLc (i := 2) (own := [("value", 6)]) (g := gName 6) rfl sc__law_total.nd rfl rfl (sw_true rfl rfl rfl (by decide +kernel)) (pi_list (pv 2)) (blkOk_by (N := N__law_total) (sc := defScope s__law_total) (by decide +kernel)) (fun _ _ _ _ _ => (pg_name (i := 6) sc__law_total.nd rfl (.inl rfl))) (fun _ _ _ _ _ => (pts_one (pt_cmpR op_notN (pv 6) pe_non (nomark _)))) (fun _ _ _ _ _ => (pv 6)))
      (pss_cons (ps_if (pt_cmpR op_eq (pe_ix (ix_tupK K) (pv 0) pe_int (fun _ _ => rfl)) pe_str (nomark _)) (pss_one (ps_ret (pe_callB (len_seqK K) (by rfl) M.len PySem.boot_len (pa_cons (pe_u c__law_distinct hr (by first | decide | omega) (by rfl) (pa_cons (pv 2) pa_nil)) pa_nil)))) pss_nil)
      (pss_cons (ps_if (pt_cmpR op_eq (pe_ix (ix_tupK K) (pv 0) pe_int (fun _ _ => rfl)) pe_str (nomark _)) (pss_cons (ps_setLc (i := 3) (own := [("value", 6)]) (g := gName 6) rfl sc__law_total.nd rfl rfl (sw_true rfl rfl rfl (by decide +kernel)) (pi_list (pv 2)) (blkOk_by (N := N__law_total) (sc := defScope s__law_total) (by decide +kernel)) (fun _ _ _ _ _ => (pg_name (i := 6) sc__law_total.nd rfl (.inl rfl))) (fun _ _ _ _ _ => (pts_one (pt_val (pe_callB (isiK K) (by rfl) M.isinstance (by decide +kernel) (pa_cons (pv 6) (pa_cons (pe_bltn (v := .ty "int") (by rfl) M.int (by decide +kernel) rfl) pa_nil)))))) (fun _ _ _ _ _ => (pv 6)))
      (pss_one (ps_ret (pe_ifExp (pt_truthK K (pv 3) (by intro _; rfl)) (pe_u c__law_bounded hr (by first | decide | omega) (by rfl) (pa_cons (pe_callB (cr_sum rfl) (by rfl) M.sum (by decide +kernel) (pa_cons (pv 3) pa_nil)) pa_nil)) pe_non)))) pss_nil)
      (pss_cons (ps_if (pt_not (pt_truthK K (pv 2) (by intro _; rfl))) (pss_one (ps_ret pe_non)) pss_nil)
      (pss_cons (ps_set (i := 4) sc__law_total.nd rfl (.inl rfl) (pe_callBK (cr_sortFK (P := P) (w := w) (K := K) (mg := mg) (base := base) (k := 1) hr (by first | decide | omega)) (by rfl) M.sorted (by decide +kernel) (pa_cons (pv 2) pa_nil) (pk_cons (C8.pe_gc (v := .ref _) (by rfl) ⟨_, hm__law_key, rfl⟩) pk_nil)))
      (pss_one (ps_ret (pe_ifExp (pt_cmpR op_eq (pe_ix (ix_tupK K) (pv 0) pe_int (fun _ _ => rfl)) pe_str (nomark _)) (pe_ix (ix_listK K) (pv 4) pe_int (fun _ _ => rfl)) (pe_ix (ix_listK K) (pv 4) (pe_un un_neg pe_int) (fun _ _ => rfl)))))))))))), ?_⟩
    cases fm with
    | cnt =>
      obtain ⟨b, xs, rfl, hb, hx⟩ := dp_tup dp
      obtain rfl : xs = [.str "count"] := by
        cases hx with
        | cons h1 h2 =>
          cases h1
          cases h2
          rfl
      refine ⟨_, rfl, b, _, _, _, rfl, rfl, hb, atI_nat (j := 0) rfl, rfl, _, rfl, ?_⟩
      rw [weq]
      refine iteT ⟨_, rfl, ra, _, rfl, .inl hR.1, ?_⟩
      rw [List.length_map, hR.2.1]
      exact q H (.refl H)
    | ex o e =>
      obtain ⟨b, xs, rfl, hb, hx⟩ := dp_tup dp
      obtain ⟨u, rfl, hu⟩ := dp_two hx
      refine ⟨_, rfl, b, _, _, _, rfl, rfl, hb, atI_nat (j := 0) rfl, rfl, _, rfl, ?_⟩
      rw [wne _ "count" (by cases o <;> decide +kernel)]
      refine iteF ?_
      refine ⟨_, rfl, ra, rfl, ⟨_, hR.1⟩, fun D nD => ?_⟩
      refine lc_list (K := K) (a := ra) (xs := as.map V.ref) (fun j Hj => Same H Hj ∧ Hj D = some (.lst (((rs.take j).map fun r => e.ev r).map Vl.v))) ⟨same_upd nD, upd_same⟩ (fun j Hj _ hp => SqL.same hp.1 hR.1) (fun j y Hj hy hp => ?_) (fun H1 hp => ?_)
      · obtain ⟨sj, eD⟩ := hp
        obtain ⟨a, r, rfl, hr1, hT, hm⟩ := rws_at hR hy
        refine ⟨rfl, ?_⟩
        refine ⟨_, rfl, b, _, _, _, rfl, rfl, SqT.ext sj hb, atI_nat (j := 1) rfl, ?_⟩
        refine ⟨_, rfl, u, a, e, r, rfl, Dp.ext sj _ _ hu, SqT.ext sj hT, by rw [(okr r hm).1]; exact okf.1, (okr r hm).2, okf.2, fun H' s' => ?_⟩
        refine ⟨_, s' _ _ eD, ?_, fun b o eb => ?_, ?_⟩
        · rw [List.length_map, List.length_map, List.length_take]
          exact small1 (by omega)
        · rw [upd_ne (ne_of_none eb nD)]
          exact s' _ _ (sj _ _ eb)
        · rw [upd_same, List.take_add_one, hr1, List.map_append, List.map_append]
          rfl
      obtain ⟨s1, eD⟩ := hp
      rw [List.length_map, hR.2.1, List.take_of_length_le (Nat.le_refl _)] at eD
      have lok : ∀ v ∈ rs.map fun r => e.ev r, v.ok := fun v hv => by
        obtain ⟨r, hr1, rfl⟩ := List.mem_map.mp hv
        exact Ep.ev_ok (okr r hr1).2 (by rw [(okr r hr1).1]; exact okf.1)
      have lv : (rs.map fun r => e.ev r).length ≤ 1000 := by rw [List.length_map]; exact hl
      have q : ∀ H', Same H H' → Q (o.ev (kn0 (rs.map fun r => e.ev r))).v H' := q
      have sD : SqL K H1 D ((rs.map fun r => e.ev r).map Vl.v) := .of eD
      generalize (rs.map fun r => e.ev r) = l at eD lv q sD lok
      refine ⟨_, rfl, D, rfl, ⟨_, sD⟩, fun D2 nD2 => ?_⟩
      refine lc_list (K := K) (a := D) (xs := l.map Vl.v) (fun j Hj => Same H1 Hj ∧ Hj D2 = some (.lst (((l.take j).filter fun v => !v.isN).map Vl.v))) ⟨same_upd nD2, upd_same⟩ (fun j Hj _ hp => SqL.same hp.1 sD) (fun j y Hj hy hp => ?_) (fun H2 hp => ?_)
      · obtain ⟨sj, eD⟩ := hp
        rw [List.getElem?_map] at hy
        obtain ⟨v, hv, rfl⟩ := Option.map_eq_some_iff.mp hy
        refine ⟨rfl, ?_⟩
        refine ⟨_, rfl, rfl, _, rfl, ?_⟩
        rw [v.eN]
        refine ite2 (fun hc => ?_) (fun hc => ?_)
        · refine ⟨_, rfl, _, eD, small1 (flt_len _ lv), fun b o e => ?_, ?_⟩
          · rw [upd_ne (ne_of_none e nD2)]
            exact sj _ _ e
          · rw [upd_same, flt_snoc _ hv, if_pos hc, List.map_append]
            rfl
        · refine ⟨sj, ?_⟩
          rw [flt_snoc _ hv, if_neg hc, List.append_nil]
          exact eD
      obtain ⟨s2, eD2⟩ := hp
      rw [List.length_map, List.take_of_length_le (Nat.le_refl _)] at eD2
      have lk : (kn0 l).length ≤ 1000 := Nat.le_trans (List.length_filter_le _ _) lv
      have kno : ∀ v ∈ kn0 l, v.isN = false := fun v hv => by
        have := (List.mem_filter.mp hv).2
        simpa using this
      have sK : SqL K H2 D2 ((kn0 l).map Vl.v) := .of eD2
      have q : ∀ H', Same H2 H' → Q (o.ev (kn0 l)).v H' := fun H' s' => q H' ((s1.trans s2).trans s')
      have kok : ∀ v ∈ kn0 l, v.ok := fun v hv => lok v (List.mem_filter.mp hv).1
      generalize kn0 l = ks at lk kno sK q kok
      clear eD2 sD eD
      have hb2 := SqT.ext (s1.trans s2) hb
      cases o with
      | dis =>
        refine ⟨_, rfl, b, _, _, _, rfl, rfl, hb2, atI_nat (j := 0) rfl, rfl, _, rfl, ?_⟩
        rw [show decide (V.str (Str.ofString Fw.dis.s) = V.str (Str.ofString "distinct")) = true from decide_eq_true rfl]
        refine iteT ⟨_, rfl, D2, ks.map fun v => (v.v, v.p), rfl, by rw [List.map_map]; exact sK, fun x hx => ?_, fun x hx => ?_, by rw [List.length_map]; exact lk, fun H' p' s' np e => ⟨p', _, rfl, .inl (.of e), ?_⟩⟩
        · obtain ⟨v, hv, rfl⟩ := List.mem_map.mp hx
          exact v.dp
        · obtain ⟨v, hv, rfl⟩ := List.mem_map.mp hx
          exact p_lay v (kok v hv)
        · rw [List.length_map, distP_vl, List.length_map]
          exact q H' s'
      | sum =>
        refine ⟨_, rfl, b, _, _, _, rfl, rfl, hb2, atI_nat (j := 0) rfl, rfl, _, rfl, ?_⟩
        rw [wne Fw.sum.s "distinct" (by decide +kernel)]
        refine iteF ⟨_, rfl, b, _, _, _, rfl, rfl, hb2, atI_nat (j := 0) rfl, rfl, _, rfl, ?_⟩
        rw [show decide (V.str (Str.ofString Fw.sum.s) = V.str (Str.ofString "sum")) = true from decide_eq_true rfl]
        refine iteT ⟨_, rfl, D2, rfl, ⟨_, sK⟩, fun D3 nD3 => ?_⟩
        refine lc_list (K := K) (a := D2) (xs := ks.map Vl.v) (fun j Hj => Same H2 Hj ∧ Hj D3 = some (.lst (((ks.take j).filter Vl.isI).map Vl.v))) ⟨same_upd nD3, upd_same⟩ (fun j Hj _ hp => SqL.same hp.1 sK) (fun j y Hj hy hp => ?_) (fun H3 hp => ?_)
        · obtain ⟨sj, eD⟩ := hp
          rw [List.getElem?_map] at hy
          obtain ⟨v, hv, rfl⟩ := Option.map_eq_some_iff.mp hy
          refine ⟨rfl, ?_⟩
          refine ⟨_, rfl, _, _, _, _, _, rfl, .ty _, v.ty, kit_ty v.kI, _, rfl, ?_⟩
          refine ite2 (fun hc => ?_) (fun hc => ?_)
          · refine ⟨_, rfl, _, eD, small1 (flt_len _ lk), fun b o e => ?_, ?_⟩
            · rw [upd_ne (ne_of_none e nD3)]
              exact sj _ _ e
            · rw [upd_same, flt_snoc _ hv, if_pos hc, List.map_append]
              rfl
          · refine ⟨sj, ?_⟩
            rw [flt_snoc _ hv, if_neg hc, List.append_nil]
            exact eD
        obtain ⟨s3, eD⟩ := hp
        rw [List.length_map, List.take_of_length_le (Nat.le_refl _), ints0_map] at eD
        have q : ∀ H', Same H2 H' → Q (if ints0 ks = [] then Vl.n else bnd (ints0 ks).sum).v H' := q
        refine ⟨_, rfl, _, .inl ⟨_, .of eD, rfl⟩, ?_⟩
        generalize ints0 ks = is at eD q
        cases is with
        | nil => exact iteF (q H3 s3)
        | cons k is =>
          refine iteT ⟨_, rfl, D3, k :: is, rfl, .of eD, ?_⟩
          have := q H3 s3
          rw [if_neg (fun z => by cases z)] at this
          exact ⟨_, rfl, this⟩
      | lea =>
        refine ⟨_, rfl, b, _, _, _, rfl, rfl, hb2, atI_nat (j := 0) rfl, rfl, _, rfl, ?_⟩
        rw [wne Fw.lea.s "distinct" (by decide +kernel)]
        refine iteF ⟨_, rfl, b, _, _, _, rfl, rfl, hb2, atI_nat (j := 0) rfl, rfl, _, rfl, ?_⟩
        rw [wne Fw.lea.s "sum" (by decide +kernel)]
        refine iteF ?_
        have ex : ∃ k r, ks = k :: r ∨ ks = [] := by cases ks with
          | nil => exact ⟨.n, [], .inr rfl⟩
          | cons k r => exact ⟨k, r, .inl rfl⟩
        obtain ⟨k0, r0, ex⟩ := ex
        rcases ex with ex | ex
        · have tr0 : (!(ks.map Vl.v).isEmpty) = true := by rw [ex]; rfl
          refine ⟨_, rfl, _, .inl ⟨_, sK, rfl⟩, ?_⟩
          rw [tr0]
          refine iteF ⟨_, rfl, ?_⟩
          refine ⟨D2, fk, sp_lkey K, ks.map Vl.v, fun y => (toVl y).lk, true, rfl, rfl, sK, hdk, fun y hy Hx R sx k => ?_, fun y hy => ?_, fun y _ z _ => lk_ok _ _, lk_swo, fun zs H' p' s' np so st ep => ?_⟩
          · rw [List.mem_map] at hy
            obtain ⟨v, hv, rfl⟩ := hy
            refine ⟨v, rfl, fun H' p' s' dp' => k _ _ s' fun H3 kp3 => ?_⟩
            show Dp K H3 (.ref p') (toVl v.v).lk
            rw [toVl_v]
            exact Dp.tsn kp3.2 _ _ (lk_tup v) dp'
          · rw [List.mem_map] at hy
            obtain ⟨v, hv, rfl⟩ := hy
            show KeyD true (toVl v.v).lk
            rw [toVl_v]
            exact lk_key v (kok v hv)
          · have lz : zs.length = ks.length := by rw [st.perm.length_eq, List.length_map]
            have hb3 := SqT.ext s' hb2
            refine ⟨_, rfl, b, _, _, _, rfl, rfl, hb3, atI_nat (j := 0) rfl, rfl, _, rfl, ?_⟩
            rw [show decide (V.str (Str.ofString Fw.lea.s) = V.str (Str.ofString "least")) = true from decide_eq_true rfl]
            cases zs with
            | nil =>
              rw [ex] at lz
              cases lz
            | cons z0 zr =>
              refine iteT ⟨_, rfl, p', _, _, _, rfl, rfl, .of ep, atI_nat (j := 0) rfl, ?_⟩
              obtain ⟨v, hv, rfl⟩ := List.mem_map.mp (st.perm.mem_iff.mp List.mem_cons_self)
              have e : mn ks = v := mn_eq hv fun z hz => by
                have hz2 : z.v ∈ v.v :: zr := st.perm.mem_iff.mpr (List.mem_map.mpr ⟨z, hz, rfl⟩)
                rcases List.mem_cons.mp hz2 with e | hz2
                · have := congrArg toVl e
                  rw [toVl_v, toVl_v] at this
                  rw [this]
                  exact bf_irr v
                · have : ltD (toVl z.v).lk (toVl v.v).lk = false := List.rel_of_pairwise_cons so hz2
                  rw [lk_lt, toVl_v, toVl_v] at this
                  exact this
              have := q H' s'
              rw [show Fw.lea.ev ks = v from e] at this
              exact this
        · have tr0 : (!(ks.map Vl.v).isEmpty) = false := by rw [ex]; rfl
          refine ⟨_, rfl, _, .inl ⟨_, sK, rfl⟩, ?_⟩
          rw [tr0]
          subst ex
          exact iteT (q H2 (.refl H2))
      | gre =>
        refine ⟨_, rfl, b, _, _, _, rfl, rfl, hb2, atI_nat (j := 0) rfl, rfl, _, rfl, ?_⟩
        rw [wne Fw.gre.s "distinct" (by decide +kernel)]
        refine iteF ⟨_, rfl, b, _, _, _, rfl, rfl, hb2, atI_nat (j := 0) rfl, rfl, _, rfl, ?_⟩
        rw [wne Fw.gre.s "sum" (by decide +kernel)]
        refine iteF ?_
        have ex : ∃ k r, ks = k :: r ∨ ks = [] := by cases ks with
          | nil => exact ⟨.n, [], .inr rfl⟩
          | cons k r => exact ⟨k, r, .inl rfl⟩
        obtain ⟨k0, r0, ex⟩ := ex
        rcases ex with ex | ex
        · have tr0 : (!(ks.map Vl.v).isEmpty) = true := by rw [ex]; rfl
          refine ⟨_, rfl, _, .inl ⟨_, sK, rfl⟩, ?_⟩
          rw [tr0]
          refine iteF ⟨_, rfl, ?_⟩
          refine ⟨D2, fk, sp_lkey K, ks.map Vl.v, fun y => (toVl y).lk, true, rfl, rfl, sK, hdk, fun y hy Hx R sx k => ?_, fun y hy => ?_, fun y _ z _ => lk_ok _ _, lk_swo, fun zs H' p' s' np so st ep => ?_⟩
          · rw [List.mem_map] at hy
            obtain ⟨v, hv, rfl⟩ := hy
            refine ⟨v, rfl, fun H' p' s' dp' => k _ _ s' fun H3 kp3 => ?_⟩
            show Dp K H3 (.ref p') (toVl v.v).lk
            rw [toVl_v]
            exact Dp.tsn kp3.2 _ _ (lk_tup v) dp'
          · rw [List.mem_map] at hy
            obtain ⟨v, hv, rfl⟩ := hy
            show KeyD true (toVl v.v).lk
            rw [toVl_v]
            exact lk_key v (kok v hv)
          · have lz : zs.length = ks.length := by rw [st.perm.length_eq, List.length_map]
            have hb3 := SqT.ext s' hb2
            refine ⟨_, rfl, b, _, _, _, rfl, rfl, hb3, atI_nat (j := 0) rfl, rfl, _, rfl, ?_⟩
            rw [wne Fw.gre.s "least" (by decide +kernel)]
            obtain ⟨ini, z0, rfl⟩ : ∃ ini z0, zs = ini ++ [z0] := by
              refine ⟨zs.dropLast, zs.getLast ?_, (List.dropLast_concat_getLast _).symm⟩
              rintro rfl
              rw [ex] at lz
              cases lz
            refine iteF ⟨_, rfl, _, rfl, p', _, _, _, rfl, rfl, .of ep, atI_last _ _, ?_⟩
            obtain ⟨v, hv, rfl⟩ := List.mem_map.mp (st.perm.mem_iff.mp (List.mem_append_right ini (List.mem_singleton.mpr rfl)))
            have e : mx ks = v := mx_eq hv fun z hz => by
              have hz2 : z.v ∈ ini ++ [v.v] := st.perm.mem_iff.mpr (List.mem_map.mpr ⟨z, hz, rfl⟩)
              rcases List.mem_append.mp hz2 with hz2 | e
              · have : ltD (toVl v.v).lk (toVl z.v).lk = false := (List.pairwise_append.mp so).2.2 _ hz2 _ (List.mem_singleton.mpr rfl)
                rw [lk_lt, toVl_v, toVl_v] at this
                exact this
              · have := congrArg toVl (List.mem_singleton.mp e)
                rw [toVl_v, toVl_v] at this
                rw [this]
                exact bf_irr v
            have := q H' s'
            rw [show Fw.gre.ev ks = v from e] at this
            exact this
        · have tr0 : (!(ks.map Vl.v).isEmpty) = false := by rw [ex]; rfl
          refine ⟨_, rfl, _, .inl ⟨_, sK, rfl⟩, ?_⟩
          rw [tr0]
          subst ex
          exact iteT (q H2 (.refl H2))
end

/-! ### rows of values: their order, their keys, sorting them -/
def rlt : List Vl → List Vl → Bool
  | _, [] => false
  | [], _ :: _ => true
  | x :: xs, y :: ys => if x = y then rlt xs ys else bf x y
theorem rlt_nil (a : List Vl) : rlt a [] = false := by
  cases a <;> rfl
theorem rlt_tri : ∀ {a b : List Vl}, rlt a b = false → rlt b a = false → a = b
  | [], [], _, _ => rfl
  | [], _ :: _, h, _ => by cases h
  | _ :: _, [], _, h => by cases h
  | x :: xs, y :: ys, h, g => by
    unfold rlt at h g
    by_cases e : x = y
    · rw [if_pos e] at h
      rw [if_pos e.symm] at g
      rw [e, rlt_tri h g]
    · rw [if_neg e] at h
      rw [if_neg (fun z => e z.symm)] at g
      exact absurd (bf_tri h g) e
theorem rlt_asym : ∀ a b : List Vl, rlt a b = true → rlt b a = false
  | _, [], h => by rw [rlt_nil] at h; cases h
  | [], _ :: _, _ => rlt_nil _
  | x :: xs, y :: ys, h => by
    unfold rlt at h ⊢
    by_cases e : x = y
    · rw [if_pos e] at h
      rw [if_pos e.symm]
      exact rlt_asym xs ys h
    · rw [if_neg e] at h
      rw [if_neg (fun z => e z.symm)]
      exact bf_asym _ _ h
theorem rlt_tr : ∀ a b c : List Vl, rlt b a = false → rlt c b = false → rlt c a = false
  | [], _, _, _, _ => rlt_nil _
  | _ :: _, [], _, h, _ => by cases h
  | _ :: _, _ :: _, [], _, g => by cases g
  | x :: xs, y :: ys, z :: zs, h, g => by
    unfold rlt at h g ⊢
    by_cases e1 : y = x
    · rw [if_pos e1] at h
      by_cases e2 : z = y
      · rw [if_pos e2] at g
        rw [if_pos (e2.trans e1)]
        exact rlt_tr xs ys zs h g
      · rw [if_neg e2] at g
        rw [if_neg (fun e => e2 (e.trans e1.symm)), ← e1]
        exact g
    · rw [if_neg e1] at h
      by_cases e2 : z = y
      · rw [if_neg (fun e => e1 (e2.symm.trans e)), e2]
        exact h
      · rw [if_neg e2] at g
        have hz := bf_tr _ _ _ h g
        by_cases e3 : z = x
        · exfalso
          rw [e3] at g
          exact e1 (bf_tri h g)
        · rw [if_neg e3]
          exact hz
/-- what the keys of values are asked for -/
structure KF (f : Vl → PyData) : Prop where
  eqv : ∀ v u, PyData.eqv (f v) (f u) = decide (v = u)
  lt : ∀ v u, ltD (f v) (f u) = bf v u
  ok : ∀ v u, okD (f v) (f u) = true
  tup : ∀ v, ∃ es, f v = .tuple es
  lay : ∀ v, v.ok → (f v).canLay0 = true
  dep : ∀ v, (f v).depth ≤ 30
  only : ∀ v, tupOnly (f v) = true
theorem kf_d : KF Vl.d := ⟨eqv_d, lt_d, ok_d, fun v => by cases v <;> exact ⟨_, rfl⟩, fun v h => by have := key_shaped v h; unfold SeqAt.shaped at this; rw [Bool.and_eq_true] at this; exact this.1, fun v => by cases v <;> simp [Vl.d, PyData.depth, PyData.depthAll], fun v => by cases v <;> rfl⟩
theorem kf_lk : KF Vl.lk := ⟨eqv_lk, lk_lt, lk_ok, fun v => by cases v <;> exact ⟨_, rfl⟩, fun v h => by have := lk_shaped v h; unfold SeqAt.shaped at this; rw [Bool.and_eq_true] at this; exact this.1, fun v => by cases v <;> simp [Vl.lk, PyData.depth, PyData.depthAll], fun v => by cases v <;> rfl⟩
def rowK (f : Vl → PyData) (r : List Vl) : PyData := .tuple (r.map f)
theorem rk_lts {f : Vl → PyData} (k : KF f) : ∀ a b : List Vl, ltDs (a.map f) (b.map f) = rlt a b
  | [], [] => by unfold ltDs; rfl
  | [], _ :: _ => by unfold ltDs; rfl
  | _ :: _, [] => by unfold ltDs; rfl
  | x :: xs, y :: ys => by
    rw [List.map_cons, List.map_cons]
    unfold ltDs rlt
    rw [k.eqv, rk_lts k xs ys, k.lt]
    by_cases e : x = y
    · rw [if_pos (decide_eq_true e), if_pos e]
    · rw [if_neg (by rw [decide_eq_false e]; exact Bool.false_ne_true), if_neg e]
theorem rk_lt {f : Vl → PyData} (k : KF f) (a b : List Vl) : ltD (rowK f a) (rowK f b) = rlt a b := by
  unfold rowK ltD
  exact rk_lts k a b
theorem rk_oks {f : Vl → PyData} (k : KF f) : ∀ a b : List Vl, okDs (a.map f) (b.map f) = true
  | [], _ => by unfold okDs; split <;> simp_all
  | _ :: _, [] => by unfold okDs; rfl
  | x :: xs, y :: ys => by
    rw [List.map_cons, List.map_cons]
    unfold okDs
    rw [rk_oks k xs ys, k.ok]
    split <;> rfl
theorem rk_ok {f : Vl → PyData} (k : KF f) (a b : List Vl) : okD (rowK f a) (rowK f b) = true := by
  unfold rowK okD
  exact rk_oks k a b
theorem rk_only {f : Vl → PyData} (k : KF f) : ∀ r : List Vl, tupOnlys (r.map f) = true
  | [] => rfl
  | v :: r => by
    rw [List.map_cons]
    unfold tupOnlys
    rw [k.only, rk_only k r]
    rfl
def rok (r : List Vl) : Prop := r ≠ [] ∧ ∀ v ∈ r, v.ok
theorem rk_lays {f : Vl → PyData} (k : KF f) : ∀ {r : List Vl}, (∀ v ∈ r, v.ok) → PyData.canLayAll0 (r.map f) = true ∧ PyData.depthAll (r.map f) ≤ 30
  | [], _ => ⟨rfl, by show 0 ≤ 30; omega⟩
  | v :: r, h => by
    obtain ⟨h1, h2⟩ := rk_lays k (r := r) fun x hx => h x (List.mem_cons_of_mem _ hx)
    have g1 := k.lay v (h v List.mem_cons_self)
    have g2 := k.dep v
    rw [List.map_cons]
    exact ⟨by unfold PyData.canLayAll0; rw [g1, h1]; rfl, by unfold PyData.depthAll; omega⟩
theorem rk_key {f : Vl → PyData} (k : KF f) {r : List Vl} (h : rok r) : KeyD false (rowK f r) := by
  obtain ⟨h1, h2⟩ := rk_lays k h.2
  refine ⟨?_, by unfold rowK PyData.canLay0; exact h1, by unfold rowK PyData.depth; omega⟩
  obtain ⟨h0, _⟩ := h
  cases r with
  | nil => exact absurd rfl h0
  | cons v r =>
    refine ⟨f v, r.map f, rfl, ?_⟩
    rw [if_neg Bool.false_ne_true]
    exact k.tup v
/-- the row as data -/
def rowP (r : List Vl) : PyData := .tuple (r.map Vl.p)
theorem vp_only : ∀ v : Vl, tupOnly v.p = true
  | .n => rfl
  | .i _ => rfl
  | .s _ => rfl
theorem rowPs_only : ∀ r : List Vl, tupOnlys (r.map Vl.p) = true
  | [] => rfl
  | v :: r => by
    rw [List.map_cons]
    unfold tupOnlys
    rw [vp_only v, rowPs_only r]
    rfl
theorem rowP_only (r : List Vl) : tupOnly (rowP r) = true := rowPs_only r
theorem eqv_rows : ∀ a b : List Vl, PyData.eqvAll (a.map Vl.p) (b.map Vl.p) = decide (a = b)
  | [], [] => rfl
  | [], _ :: _ => rfl
  | _ :: _, [] => rfl
  | x :: xs, y :: ys => by
    rw [List.map_cons, List.map_cons]
    unfold PyData.eqvAll
    rw [eqv_rows xs ys]
    have e : PyData.eqv x.p y.p = decide (x = y) := by
      cases x <;> cases y <;> simp [Vl.p, PyData.eqv, S_dec]
      rw [Bool.eq_iff_iff]
      simp
    rw [e, Bool.eq_iff_iff]
    simp
theorem rowP_eqv (a b : List Vl) : PyData.eqv (rowP a) (rowP b) = decide (a = b) := by
  unfold rowP PyData.eqv
  exact eqv_rows a b
theorem dp_rowP {K : PySem.W.Frag} {H : Hp} {a : Addr} {r : List Vl} (h : SqT K H a (r.map Vl.v)) : Dp K H (.ref a) (rowP r) := by
  refine .tup h ?_
  clear h
  induction r with
  | nil => exact .nil
  | cons v r ih => exact .cons v.dp ih
theorem rowP_lay {r : List Vl} (h : ∀ v ∈ r, v.ok) : (rowP r).canLay0 = true ∧ (rowP r).depth ≤ 40 := by
  have h2 : ∀ d ∈ r.map Vl.p, d.canLay0 = true ∧ d.depth ≤ 10 := fun d hd => by
    obtain ⟨v, hv, rfl⟩ := List.mem_map.mp hd
    have := h v hv
    cases v with
    | n => exact ⟨rfl, by show 0 ≤ 10; omega⟩
    | i k => exact ⟨rfl, by show 0 ≤ 10; omega⟩
    | s l => exact ⟨strOk_ab this, by show 0 ≤ 10; omega⟩
  unfold rowP PyData.canLay0 PyData.depth
  clear h
  induction r with
  | nil => exact ⟨rfl, by show 0 + 1 ≤ 40; omega⟩
  | cons v r ih =>
    obtain ⟨i1, i2⟩ := ih fun d hd => h2 d (List.mem_cons_of_mem _ hd)
    obtain ⟨g1, g2⟩ := h2 v.p List.mem_cons_self
    rw [List.map_cons]
    exact ⟨by unfold PyData.canLayAll0; rw [g1, i1]; rfl, by unfold PyData.depthAll; omega⟩
theorem rowP_shaped {r : List Vl} (h : ∀ v ∈ r, v.ok) : SeqAt.shaped (rowP r) = true := by
  obtain ⟨h1, h2⟩ := rowP_lay h
  unfold SeqAt.shaped
  rw [Bool.and_eq_true]
  exact ⟨h1, decide_eq_true (by omega)⟩
theorem vs_inj : ∀ {a b : List Vl}, a.map Vl.v = b.map Vl.v → a = b
  | [], [], _ => rfl
  | [], _ :: _, h => by cases h
  | _ :: _, [], h => by cases h
  | x :: a, y :: b, h => by
    rw [List.map_cons, List.map_cons] at h
    injection h with h1 h2
    have := congrArg toVl h1
    rw [toVl_v, toVl_v] at this
    rw [this, vs_inj h2]
theorem toVl_map (r : List Vl) : (r.map Vl.v).map toVl = r := by
  rw [List.map_map]
  conv => rhs; rw [← List.map_id r]
  exact List.map_congr_left fun v _ => toVl_v v
/-- strictly ascending, with the same members: the same -/
theorem asc_eq : ∀ {a b : List (List Vl)}, a.Pairwise (fun x y => rlt x y = true) → b.Pairwise (fun x y => rlt x y = true) → (∀ x, x ∈ a ↔ x ∈ b) → a = b
  | [], [], _, _, _ => rfl
  | [], y :: _, _, _, h => by have := (h y).mpr List.mem_cons_self; cases this
  | x :: _, [], _, _, h => by have := (h x).mp List.mem_cons_self; cases this
  | x :: a, y :: b, ha, hb, h => by
    rw [List.pairwise_cons] at ha hb
    have irr : ∀ z : List Vl, rlt z z = false := fun z => by
      cases e : rlt z z with
      | false => rfl
      | true => exact absurd (rlt_asym _ _ e) (by rw [e]; simp)
    have exy : x = y := by
      rcases List.mem_cons.mp ((h x).mp List.mem_cons_self) with e | e
      · exact e
      · rcases List.mem_cons.mp ((h y).mpr List.mem_cons_self) with e2 | e2
        · exact e2.symm
        · have h1 := hb.1 x e
          have h2 := ha.1 y e2
          rw [rlt_asym _ _ h1] at h2
          cases h2
    subst exy
    rw [asc_eq ha.2 hb.2 fun z => ?_]
    constructor
    · intro hz
      rcases List.mem_cons.mp ((h z).mp (List.mem_cons_of_mem _ hz)) with e | e
      · subst e
        have := ha.1 z hz
        rw [irr] at this
        cases this
      · exact e
    · intro hz
      rcases List.mem_cons.mp ((h z).mpr (List.mem_cons_of_mem _ hz)) with e | e
      · subst e
        have := hb.1 z hz
        rw [irr] at this
        cases this
      · exact e
/-- sorted, each once: strictly ascending -/
theorem asc_of {l : List (List Vl)} (h : l.Pairwise (fun x y => rlt y x = false)) (n : l.Nodup) : l.Pairwise (fun x y => rlt x y = true) := by
  refine (h.and n).imp fun {x y} hxy => ?_
  cases e : rlt x y with
  | true => rfl
  | false => exact absurd (rlt_tri e hxy.1) hxy.2
/-- a list that is sorted by the keys of its items' rows -/
theorem srt_rows {P : Program} {w : World} {K : PySem.W.Frag} {mg : Str → Option Value} {base : Heap} {k : Nat} {H : Hp} {Q : VK} {α : Type} (pa : α → Addr) (pr : α → List Vl) {f : Vl → PyData} (kf : KF f) (rw' : V → List Vl) {a fk : Addr} {sp : Sp} {zs : List α}
    (hs : SqL K H a (zs.map fun x => V.ref (pa x))) (hd : Hd P w K mg base k fk sp) (hrw : ∀ x ∈ zs, rw' (.ref (pa x)) = pr x) (hok : ∀ x ∈ zs, rok (pr x))
    (prom : ∀ x ∈ zs, ∀ (H1 : Hp) (R : VK), Same H H1 → (∀ u H2, Same H1 H2 → Dp K H2 u (rowK f (pr x)) → R u H2) → sp [.ref (pa x)] H1 R E0)
    (q : ∀ (zs' : List α) (H' : Hp) (p : Addr), Same H H' → H p = none → zs'.Perm zs → (zs'.map pr).Pairwise (fun x y => rlt y x = false) → H' p = some (.lst (zs'.map fun x => V.ref (pa x))) → Q (.ref p) H') : rSortF P w K mg base k [.ref a] [.ref fk] H Q := by
  have at_ : ∀ y ∈ zs.map fun x => V.ref (pa x), ∃ x ∈ zs, y = .ref (pa x) ∧ rw' y = pr x := fun y hy => by
    obtain ⟨x, hx, rfl⟩ := List.mem_map.mp hy
    exact ⟨x, hx, rfl, hrw x hx⟩
  refine ⟨a, fk, sp, _, fun y => rowK f (rw' y), false, rfl, rfl, hs, hd, fun y hy H1 R s1 hR => ?_, fun y hy => ?_, fun y _ z _ => rk_ok kf _ _, ⟨fun x y h => ?_, fun x y z h g => ?_⟩, fun l H' p s' np hsr hst e => ?_⟩
  · obtain ⟨x, hx, rfl, er⟩ := at_ y hy
    refine prom x hx H1 R s1 fun u H2 s2 dp => hR u H2 s2 fun H3 k3 => ?_
    show Dp K H3 u (rowK f (rw' (V.ref (pa x))))
    rw [er]
    exact Dp.tsn k3.2 _ _ (by unfold rowK; exact rk_only kf _) dp
  · obtain ⟨x, hx, rfl, er⟩ := at_ y hy
    show KeyD false (rowK f (rw' (V.ref (pa x))))
    rw [er]
    exact rk_key kf (hok x hx)
  · show ltD (rowK f (rw' y)) (rowK f (rw' x)) = false
    have h : ltD (rowK f (rw' x)) (rowK f (rw' y)) = true := h
    rw [rk_lt kf] at h ⊢
    exact rlt_asym _ _ h
  · show ltD (rowK f (rw' z)) (rowK f (rw' x)) = false
    have h : ltD (rowK f (rw' y)) (rowK f (rw' x)) = false := h
    have g : ltD (rowK f (rw' z)) (rowK f (rw' y)) = false := g
    rw [rk_lt kf] at h g ⊢
    exact rlt_tr _ _ _ h g
  · obtain ⟨zs', pz, ez⟩ := perm_lift (fun x : α => V.ref (pa x)) hst.perm zs rfl
    subst ez
    refine q zs' H' p s' np pz ?_ e
    have hsr : (zs'.map fun x => V.ref (pa x)).Pairwise (fun y z => ltD (rowK f (rw' z)) (rowK f (rw' y)) = false) := hsr
    rw [List.pairwise_map] at hsr ⊢
    refine List.Pairwise.imp_of_mem (fun {x y} hx hy h => ?_) hsr
    rw [rk_lt kf, hrw x (pz.mem_iff.mp hx), hrw y (pz.mem_iff.mp hy)] at h
    exact h

/-! ### dicts whose keys are rows: numbers, texts and None in one tuple -/
abbrev RE := List Vl × Addr × V
def Vl.lf : Vl → Leaf
  | .n => .none
  | .i k => .num k
  | .s l => .text ⟨l.toArray⟩
def lfs (r : List Vl) : List Leaf := r.map Vl.lf
theorem lf_inj : ∀ {v u : Vl}, v.lf = u.lf → v = u
  | .n, .n, _ => rfl
  | .i _, .i _, h => by cases h; rfl
  | .s l, .s m, h => by
    have e : (⟨l.toArray⟩ : Str) = ⟨m.toArray⟩ := Leaf.text.inj h
    rw [mk_inj e]
  | .n, .i _, h => by cases h
  | .n, .s _, h => by cases h
  | .i _, .n, h => by cases h
  | .i _, .s _, h => by cases h
  | .s _, .n, h => by cases h
  | .s _, .i _, h => by cases h
theorem lfs_inj : ∀ {r q : List Vl}, lfs r = lfs q → r = q
  | [], [], _ => rfl
  | [], _ :: _, h => by cases h
  | _ :: _, [], h => by cases h
  | x :: r, y :: q, h => by
    have h : x.lf :: lfs r = y.lf :: lfs q := h
    injection h with h1 h2
    rw [lf_inj h1, lfs_inj h2]
def valR (ks : List RE) (r : List Vl) : Option V := (ks.find? fun x => decide (x.1 = r)).map (·.2.2)
def putR (ks : List RE) (r : List Vl) (b : Addr) (v : V) : List RE := if (valR ks r).isSome = true then ks.map (fun x => if x.1 = r then (x.1, x.2.1, v) else x) else ks ++ [(r, b, v)]
theorem putR_len (ks : List RE) (r : List Vl) (b : Addr) (v : V) : (putR ks r b v).length ≤ ks.length + 1 := by
  unfold putR
  split
  · rw [List.length_map]
    omega
  · rw [List.length_append]
    exact Nat.le_refl _
theorem valR_none {ks : List RE} {r : List Vl} (h : valR ks r = none) : ∀ x ∈ ks, x.1 ≠ r := by
  unfold valR at h
  rw [Option.map_eq_none_iff, List.find?_eq_none] at h
  exact fun x hx e => h x hx (decide_eq_true e)
theorem valR_some {ks : List RE} {r : List Vl} {v : V} (h : valR ks r = some v) : ∃ a, (r, a, v) ∈ ks := by
  unfold valR at h
  obtain ⟨x, hx, rfl⟩ := Option.map_eq_some_iff.mp h
  have h1 := List.mem_of_find?_eq_some hx
  have h2 := List.find?_some (p := fun x : RE => decide (x.1 = r)) hx
  have h2 : x.1 = r := of_decide_eq_true h2
  exact ⟨x.2.1, by rw [← h2]; exact h1⟩
abbrev RK (P : Program) (w : World) : HeapKind P w (List Leaf) := tupleKind (leafKind P w)
def RX (ks : List RE) (xs : List (List Leaf × Addr × Value)) : Prop := Paired (fun p q => q.1 = lfs p.1 ∧ q.2.1 = p.2.1 ∧ RelV p.2.2 q.2.2) ks xs
theorem RX.val {ks : List RE} {xs : List (List Leaf × Addr × Value)} (h : RX ks xs) (r : List Vl) : RelO (valR ks r) ((atKey xs (lfs r)).map (·.2)) := by
  induction h with
  | nil => trivial
  | @cons p q ps qs hq t ih =>
    obtain ⟨e1, e2, e3⟩ := hq
    by_cases e : p.1 = r
    · have e' : q.1 = lfs r := by rw [e1, e]
      have h1 : valR (p :: ps) r = some p.2.2 := by
        unfold valR
        rw [List.find?_cons_of_pos (by exact decide_eq_true e)]
        rfl
      have h2 : atKey (q :: qs) (lfs r) = some q.2 := by
        unfold atKey
        rw [List.find?_cons_of_pos (by exact decide_eq_true e')]
        rfl
      rw [h1, h2]
      exact e3
    · have e' : ¬ q.1 = lfs r := fun z => e (lfs_inj (e1.symm.trans z))
      have h1 : valR (p :: ps) r = valR ps r := by
        unfold valR
        rw [List.find?_cons_of_neg (by simp [e])]
      have h2 : atKey (q :: qs) (lfs r) = atKey qs (lfs r) := by
        unfold atKey
        rw [List.find?_cons_of_neg (by simp [e'])]
      rw [h1, h2]
      exact ih
theorem RX.map {ks : List RE} {xs : List (List Leaf × Addr × Value)} (h : RX ks xs) (r : List Vl) {v : V} {u : Value} (rv : RelV v u) : RX (ks.map fun x => if x.1 = r then (x.1, x.2.1, v) else x) (xs.map (putAt (lfs r) u)) := by
  induction h with
  | nil => exact .nil
  | @cons p q ps qs hq t ih =>
    obtain ⟨e1, e2, e3⟩ := hq
    refine .cons ?_ ih
    unfold putAt
    dsimp only
    by_cases e : p.1 = r
    · rw [if_pos e, if_pos (by rw [e1, e])]
      exact ⟨e1, e2, rv⟩
    · rw [if_neg e, if_neg (fun z => e (lfs_inj (e1.symm.trans z)))]
      exact ⟨e1, e2, e3⟩
theorem Paired.snoc' {α β : Type} {F : α → β → Prop} {a : α} {b : β} (hab : F a b) : ∀ {l : List α} {m : List β}, Paired F l m → Paired F (l ++ [a]) (m ++ [b])
  | _, _, .nil => .cons hab .nil
  | _, _, .cons h t => .cons h (Paired.snoc' hab t)
theorem RX.put {ks : List RE} {xs : List (List Leaf × Addr × Value)} (h : RX ks xs) (r : List Vl) {b : Addr} {v : V} {u : Value} (rv : RelV v u) : RX (putR ks r b v) (storedH xs (lfs r) b u) := by
  have q := (h.val r).isSome_eq
  rw [Option.isSome_map] at q
  unfold putR storedH
  rw [q]
  split
  · exact h.map r rv
  · exact Paired.snoc' ⟨rfl, rfl, rv⟩ h
/-- the dict at d, its keys in their order, each with where its row stands -/
def rdO (P : Program) (w : World) (d : Addr) (ks : List RE) : HO := .ext fun h => ks.length ≤ sizeLine ∧ (d == sysModules) = false ∧ ∃ xs, RX ks xs ∧ ∃ o es ep, h.get? d = some o ∧ o.ExactDict ∧ o.data = .dict es ep ∧ es.toList = xs.map (entryOfKey (RK P w)) ∧ (xs.map (·.1)).Nodup
def RowsAt (H : Hp) (ks : List RE) : Prop := ∀ x ∈ ks, H x.2.1 = some (.tup (x.1.map Vl.v))
theorem RowsAt.same {H H' : Hp} {ks : List RE} (e : ∀ b ys, H b = some (.tup ys) → H' b = some (.tup ys)) (h : RowsAt H ks) : RowsAt H' ks := fun x hx => e _ _ (h x hx)
theorem RowsAt.put {H : Hp} {ks : List RE} {r : List Vl} {b : Addr} {v : V} (h : RowsAt H ks) (hb : H b = some (.tup (r.map Vl.v))) : RowsAt H (putR ks r b v) := fun x hx => by
  unfold putR at hx
  split at hx
  · obtain ⟨y, hy, rfl⟩ := List.mem_map.mp hx
    have := h y hy
    split <;> exact this
  · rcases List.mem_append.mp hx with hx | hx
    · exact h x hx
    · rw [List.mem_singleton.mp hx]
      exact hb
theorem rdO_ok {P : Program} {w : World} {H : Hp} {h : Heap} {d : Addr} {ks : List RE} {xs : List (List Leaf × Addr × Value)} (z : ks.length ≤ sizeLine) (hd : (d == sysModules) = false) (r : RX ks xs) (m : h.DictOfH (RK P w) d xs) : ObjOk P w H h d (rdO P w d ks) := by
  obtain ⟨o, es, ep, h1, h2, h3, h4, _, h5⟩ := m
  exact ⟨⟨z, hd, xs, r, o, es, ep, h1, h2, h3, h4, h5⟩, ⟨o, h1⟩, fun ha hb ⟨g1, g2, xs', g3, o', es', ep', g4, g5⟩ k => ⟨g1, g2, xs', g3, o', es', ep', k _ g4, g5⟩⟩
theorem leaf_is {P : Program} {w : World} : ∀ {v : Vl} {u : Value}, RelV v.v u → (leafKind P w).is v.lf u = true
  | .n, _, h => by
    cases h
    exact leaf_none
  | .i k, _, h => by
    obtain ⟨t, rfl⟩ := h
    exact leaf_int k t
  | .s l, _, h => by
    obtain ⟨t, rfl⟩ := h
    exact leaf_str _ t
theorem leaves_are {P : Program} {w : World} : ∀ {r : List Vl} {us : List Value}, Vals (r.map Vl.v) us → ItemsAre (leafKind P w) (lfs r) us
  | [], _, h => by
    cases h
    exact .nil
  | v :: r, _, h => by
    cases h with
    | cons h1 h2 => exact .cons (leaf_is h1) (leaves_are h2)
theorem row_is {P : Program} {w : World} {H : Hp} {h : Heap} {b : Addr} {r : List Vl} (ok : HOk P w H h) (e : H b = some (.tup (r.map Vl.v))) : (RK P w).is h (lfs r) b := by
  obtain ⟨_, its, rv, o, h1, h2, n, h3⟩ := (show ObjOk P w H h b (.tup (r.map Vl.v)) from ok b _ e)
  exact ⟨o, its.toArray, n, h1, h2, h3, by simpa using leaves_are rv⟩
theorem rd_at {P : Program} {w : World} {H : Hp} {h : Heap} {d : Addr} {ks : List RE} (ok : HOk P w H h) (e : H d = some (rdO P w d ks)) (hr : RowsAt H ks) : ks.length ≤ sizeLine ∧ (d == sysModules) = false ∧ ∃ xs, RX ks xs ∧ h.DictOfH (RK P w) d xs := by
  obtain ⟨⟨z, hd, xs, rx, o, es, ep, h1, h2, h3, h4, h5⟩, _⟩ := (show ObjOk P w H h d (rdO P w d ks) from ok d _ e)
  refine ⟨z, hd, xs, rx, o, es, ep, h1, h2, h3, h4, ?_, h5⟩
  have all : ∀ {l : List RE} {m : List (List Leaf × Addr × Value)}, RX l m → (∀ x ∈ l, H x.2.1 = some (.tup (x.1.map Vl.v))) → ∀ x ∈ m, (RK P w).is h x.1 x.2.1 := by
    intro l m q
    induction q with
    | nil => exact fun _ x hx => nomatch hx
    | @cons p q ps qs hq t ih =>
      intro hl x hx
      rcases List.mem_cons.mp hx with e | hx
      · subst e
        rw [hq.1, hq.2.1]
        exact row_is ok (hl p List.mem_cons_self)
      · exact ih (fun y hy => hl y (List.mem_cons_of_mem _ hy)) x hx
  exact all rx hr
theorem rd_raw {P : Program} {w : World} {H : Hp} {s : Shared} {d : Addr} {ks : List RE} (ok : HOk P w H s.heap) (e : H d = some (rdO P w d ks)) : s.TypeIs (.ref d) "dict" ∧ (∀ b, Value.ref d = .ref b → ∃ ob, s.heap.get? b = some ob ∧ ob.dict = none) ∧ (d == sysModules) = false := by
  obtain ⟨⟨z, hd, xs, rx, o, es, ep, h1, h2, h3, h4, h5⟩, _⟩ := (show ObjOk P w H s.heap d (rdO P w d ks) from ok d _ e)
  exact ⟨⟨o, h1, h2.1⟩, fun b q => by cases q; exact ⟨o, h1, h2.2.1⟩, hd⟩
/-! the rules -/
def tRNew (P : Program) (w : World) : TE := fun _ H Q => ∀ p, H p = none → Q (.ref p) (upd H p (rdO P w p []))
def tRGet2 (P : Program) (w : World) (td ty tx : TE) : TE := fun σ H Q => td σ H fun x H1 => ∃ d ks0, x = .ref d ∧ H1 d = some (rdO P w d ks0) ∧ ty σ H1 fun y H2 => tx σ H2 fun z H3 => ∃ ks r b, y = .ref b ∧ H3 d = some (rdO P w d ks) ∧ RowsAt H3 ks ∧ H3 b = some (.tup (r.map Vl.v)) ∧ Q ((valR ks r).getD z) H3
def tRNotIn (P : Program) (w : World) (ty td : TE) : TE := fun σ H Q => ty σ H fun y H1 => td σ H1 fun x H2 => ∃ d ks r b, x = .ref d ∧ y = .ref b ∧ H2 d = some (rdO P w d ks) ∧ RowsAt H2 ks ∧ H2 b = some (.tup (r.map Vl.v)) ∧ Q (.bl (!(valR ks r).isSome)) H2
def sRPut (P : Program) (w : World) (td ty tv : TE) : TS := fun D σ H => tv σ H fun v H1 => td σ H1 fun x H2 => ty σ H2 fun y H3 => ∃ d ks r b, x = .ref d ∧ y = .ref b ∧ H3 d = some (rdO P w d ks) ∧ RowsAt H3 ks ∧ H3 b = some (.tup (r.map Vl.v)) ∧ ks.length < sizeLine ∧ D.nx σ (upd H3 d (rdO P w d (putR ks r b v)))
def tRItems (P : Program) (w : World) (td : TE) : TE := fun σ H Q => td σ H fun x H1 => ∃ d ks, x = .ref d ∧ H1 d = some (rdO P w d ks) ∧ ∀ p, H1 p = none → Q (.ref p) (upd H1 p (DX.itemsO p d))
section
variable {X : Cx} (P : Program) (w : World)
theorem pe_rnew {pos : Pos} (e1 : X.prog = P := by rfl) (e2 : X.w = w := by rfl) : PE X (.Dict [] [] pos) (tRNew P w) := by
  subst e1 e2
  exact ⟨fun pins s σ H Q I h =>
    wpAny_Dict_empty ⟨.ref s.heap.objs.size, _, I.laid (a := s.heap.objs.size) (o := rdO X.prog X.w s.heap.objs.size []) (t' := s.toks) (fun _ _ q => Heap.get?_push_of_some _ q) (Nat.le_refl _) (rdO_ok (Nat.zero_le _) (beq_eq_false_iff_ne.mpr (Ne.symm (Nat.ne_of_lt I.big))) .nil (Heap.DictOfH.new _)), rfl, h _ (I.hok.fresh (Nat.le_refl _))⟩⟩
theorem pe_rget2 {o e f : Expr} {apos cpos : Pos} {td ty tx : TE} (hu : X.A.units + 1 < cLine) (ho : PE X o td) (he : PE X e ty) (hf : PE X f tx) (m : M2 X o "get" apos e f cpos) (e1 : X.prog = P := by rfl) (e2 : X.w = w := by rfl) : PE X (.Call (.Attribute o "get" apos) [e, f] [] cpos) (tRGet2 P w td ty tx) := by
  subst e1 e2
  refine ⟨fun pins s σ H Q I h => ?_⟩
  refine wpAny_Call_method m.base m.few m.line PySem.F.plainAttrs_dict PySem.F.slot_dict_get PySem.F.type_dict_get (thn (ho.run pins s σ H _ I h) fun u s1 ⟨x, H1, I1, rx, d, ks0, ex, hd0, q1⟩ => ?_)
  subst ex
  obtain rfl : u = Value.ref d := rx
  obtain ⟨t1, t2, _⟩ := rd_raw I1.hok hd0
  refine ⟨t1, t2, ?_⟩
  rw [m.trees]
  refine Calls.callWith_builtin rfl (Calls.evalArgs_plain (Calls.spliced_cons (thn (he.run pins s1 σ H1 _ I1 q1) fun iv s2 ⟨y, H2, I2, ry, q2⟩ =>
    Calls.spliced_cons (thn (hf.run pins s2 σ H2 _ I2 q2) fun fv s3 ⟨z, H3, I3, rz, ks, r, b, ey, hd, hr, hb, q3⟩ => Calls.spliced_nil ?_))))
  subst ey
  obtain rfl : iv = Value.ref b := ry
  obtain ⟨_, hs, xs, rel, dd⟩ := rd_at I3.hok hd hr
  refine call_meetsIn PySem.F.slot_dict_get dd.typeIs PySem.F.entry_dict_get (PySem.F.args_dict_get_3 _ _ _) (meetsH_dict_get_default (RK X.prog X.w) d b hs fv) ⟨tupleKind_room_in1 hu, lfs r, xs, row_is I3.hok hb, dd, ⟨_, H3, I3.tok _, ?_, q3⟩⟩
  exact (rel.val r).getD rz
theorem pc_rnotin {i o : Expr} {td ty : TE} (hu : X.A.units + 1 < cLine) (hi : PE X i ty) (ho : PE X o td) (e1 : X.prog = P := by rfl) (e2 : X.w = w := by rfl) : PC X .NotIn i o (tRNotIn P w ty td) := by
  subst e1 e2
  refine ⟨fun pins s σ H Q I h => ?_⟩
  refine thn (hi.run pins s σ H _ I h) fun iv s1 ⟨y, H1, I1, ry, q1⟩ => thn (ho.run pins s1 σ H1 _ I1 q1) fun u s2 ⟨x, H2, I2, rx, d, ks, r, b, ex, ey, hd, hr, hb, q2⟩ => ?_
  subst ex ey
  obtain rfl : u = Value.ref d := rx
  obtain rfl : iv = Value.ref b := ry
  obtain ⟨_, hs, xs, rel, dd⟩ := rd_at I2.hok hd hr
  refine wpAny_notIn_heap (tupleKind_room_in1 hu) (row_is I2.hok hb) hs dd ?_
  have q := (rel.val r).isSome_eq
  rw [Option.isSome_map] at q
  rw [← q]
  exact ⟨.bl (!(valR ks r).isSome), H2, I2.tok _, rfl, q2⟩
theorem ps_rput {o i value : Expr} {pos pos' : Pos} {td ty tv : TE} (hu : X.A.units + 1 < cLine) (ho : PE X o td) (hi : PE X i ty) (hv : PE X value tv) (hs : swapsWith value (some (.Subscript o i pos')) pos.line X.env = pure false) (e1 : X.prog = P := by rfl) (e2 : X.w = w := by rfl) :
    PS X (.Assign [.Subscript o i pos'] value pos) (sRPut P w td ty tv) := by
  subst e1 e2
  refine ⟨fun pins s σ H D I h => ?_⟩
  refine wpAny_Assign_Subscript (thn (hv.run pins s σ H _ I h) fun r0 s1 ⟨v, H1, I1, rv, q1⟩ => thn (ho.run pins s1 σ H1 _ I1 q1) fun u s2 ⟨x, H2, I2, rx, q2⟩ => thn (hi.run pins s2 σ H2 _ I2 q2) fun iv s3 ⟨y, H3, I3, ry, d, ks, r, b, ex, ey, hd, hr, hb, hl, q3⟩ => ?_) hs
  subst ex ey
  obtain rfl : u = Value.ref d := rx
  obtain rfl : iv = Value.ref b := ry
  obtain ⟨z, hs, xs, rel, dd⟩ := rd_at I3.hok hd hr
  have hz : xs.length ≤ sizeLine := by rw [← Paired.length rel]; exact z
  refine wpAny_setItem_heap (hsz := hz) (tupleKind_room_in1 hu) (row_is I3.hok hb) dd fun h' dd' hs' => ⟨σ, _, ?_, q3⟩
  have hlen : (putR ks r b v).length ≤ sizeLine := by have := putR_len ks r b v; omega
  have he : ∃ q, h'.get? d = some q := let ⟨q, _, _, hq, _⟩ := dd'; ⟨q, hq⟩
  exact d_write I3 (by rw [hd]; exact True.intro) hs' he (rdO_ok hlen hs (rel.put r rv) dd')
theorem pe_ritems {o : Expr} {apos cpos : Pos} {td : TE} (ho : PE X o td) (hbase : attributeBase o "items" X.env (eval o X.env) = eval o X.env := by rfl) (hline : (apos.endLine == cpos.line) = true := by rfl) (e1 : X.prog = P := by rfl) (e2 : X.w = w := by rfl) : PE X (.Call (.Attribute o "items" apos) [] [] cpos) (tRItems P w td) := by
  subst e1 e2
  refine ⟨fun pins s σ H Q I h => ?_⟩
  refine wpAny_Call_method (T := "dict") (id := "dict.items") hbase rfl hline F.plainAttrs_dict F.slot_dict_items F.type_dict_items (thn (ho.run pins s σ H _ I h) fun u s1 ⟨x, H1, I1, rx, d, ks, ex, hd, q1⟩ => ?_)
  subst ex
  obtain rfl : u = Value.ref d := rx
  obtain ⟨t1, t2, hs⟩ := rd_raw I1.hok hd
  refine ⟨t1, t2, ?_⟩
  obtain ⟨⟨z, _, xs, rx, o, es, ep, h1, h2, h3, h4, h5⟩, _⟩ := (show ObjOk X.prog X.w H1 s1.heap d (rdO X.prog X.w d ks) from I1.hok d _ hd)
  have hn : H1 s1.heap.objs.size = none := I1.hok.fresh (Nat.le_refl _)
  refine Calls.callWith_builtin rfl (PySem.evalArgs_none (DT.callItems (es := es) (ep := ep) hs ⟨o, h1, h2, h3⟩ ?_))
  exact ⟨.ref s1.heap.objs.size, upd H1 s1.heap.objs.size (DX.itemsO s1.heap.objs.size d), I1.laid (t' := s1.toks) (fun b u e => Heap.get?_push_of_some _ e) (Nat.le_refl _) (DX.itemsO_ok (Heap.get?_push_size _ rfl)), rfl, q1 _ hn⟩
end
/-! ### list(d.items()) -/
section
open PySem.W PyProof.Rows
variable {prog : Program} {w : World} {A : Around} {E : Value → Shared → Prop} {s : Shared} {r d : Addr} {es : Array DictEntry} {ep : Nat}
theorem listI_init {R : Result → Shared → Prop} (hh : A.handled = none) (hv : s.heap.IsItemsView r d) (hm : DT.Raw s.heap d es ep) (S : Addr) (hSr : S ≠ r) (hSd : d ≠ S) (hS : s.heap.get? S = some { cls := .type "list", data := .seq #[] })
    (hR : ∀ h' tk acc c as, (∀ b o, b ≠ S → s.heap.get? b = some o → h'.get? b = some o) → h'.get? S = some { cls := .type "list", dict := none, data := .seq acc c, slots := #[] } → as.length = es.size → DT.Made es s.heap.objs.size h' as →
      acc.toList = as.map Value.ref → R (.ok (.ret .none)) { s with heap := h', toks := tk }) (hn : es.size ≤ sizeLine) :
    wpAny (model prog w) A.in1 (Builtin.«list.__init__» ⟨[.ref S, .ref r], []⟩)
      (fun fin s' => match fin with | .done f => R (.ok f) s' | .again c' => c'.quiet = true ∧ codeAny (model prog w) A c' R s') (fun e s' => R (.error e) s') s := by
  show wpAny _ _ (do let old ← Builtin.List.listItems (.ref S); Builtin.List.listUpdate (.ref S) (fun _ => #[]); letGo old.toList.reverse; Builtin.List.listExtendWith (.ref S) (.ref r) .none) _ _ s
  refine wpAny_bind ?_
  unfold Builtin.List.listItems
  refine wpAny_bind (wpAny_seqItems hS rfl (wpAny_pure ?_))
  show wpAny _ _ (updateSeq S (fun _ => #[]) >>= fun _ => letGo (#[] : Array Value).toList.reverse >>= fun _ => Builtin.List.listExtendWith (.ref S) (.ref r) .none) _ _ s
  refine wpAny_bind (wpAny_updateSeq hS rfl ?_)
  have hS₂ := Heap.get?_update_self (Obj.mapSeq (fun _ => (#[] : Array Value))) hS rfl
  have oth : ∀ b o, b ≠ S → s.heap.get? b = some o → (s.heap.update S (Obj.mapSeq (fun _ => (#[] : Array Value)))).get? b = some o :=
    fun b o hb e => (Heap.get?_update_other _ _ (Ne.symm hb)).trans e
  refine wpAny_bind (wpAny_letGo ?_)
  refine DT.extI (es := es) (ep := ep) hh (let ⟨o, ho, x⟩ := hv; ⟨o, oth r o hSr.symm ho, x⟩) (hm.at' fun o e => oth d o hSd e) S hSr hSd .none _ hS₂ (fun h' tk acc c as hk hS' hl hG hacc => ?_) hn
  exact hR h' tk acc c as (fun b o hb e => hk b o hb (oth b o hb e)) hS' hl (hG.low (Nat.le_of_eq (by simp [Heap.size_update]))) hacc
theorem listI_call {Q : Value → Shared → Prop} (hh : A.handled = none) (hv : s.heap.IsItemsView r d) (hm : DT.Raw s.heap d es ep) (hn : es.size ≤ sizeLine)
    (hQ : ∀ h' tk acc c as, (∀ b o, s.heap.get? b = some o → h'.get? b = some o) → h'.get? s.heap.objs.size = some { cls := .type "list", dict := none, data := .seq acc c, slots := #[] } → as.length = es.size → DT.Made es s.heap.objs.size h' as →
      acc.toList = as.map Value.ref → Q (.ref s.heap.objs.size) { s with heap := h', toks := tk }) :
    wpAny (model prog w) A (call (.type "list") [.ref r]) Q E s := by
  refine callType_codes (Q₁ := fun obj s₁ => obj = .ref s.heap.objs.size ∧ s₁ = { s with heap := s.heap.push { cls := .type "list", data := .seq #[] } }) PySem.F.called_list (PySem.F.typeCall_list_1 _) PySem.F.entry_list_init
    (code_list_new _ ⟨rfl, rfl⟩) fun obj s₁ h₁ => ?_
  obtain ⟨rfl, rfl⟩ := h₁
  have hS : (s.heap.push { cls := .type "list", data := .seq #[] }).get? s.heap.objs.size = some { cls := .type "list", data := .seq #[] } := Heap.get?_push_size _ rfl
  have hr : r < s.heap.objs.size := let ⟨_, ho, _⟩ := hv; Heap.lt_size ho
  have hd : d < s.heap.objs.size := hm.lt
  refine ⟨⟨_, hS, rfl⟩, PySem.F.args_list_init_2 _ _, listI_init (es := es) (ep := ep) (A := A.in1) hh (let ⟨o, ho, x⟩ := hv; ⟨o, Heap.get?_push_of_some _ ho, x⟩) (hm.push _) _ (Nat.ne_of_gt hr) (Nat.ne_of_lt hd) hS (fun h' tk acc c as hk hS' hl hG hacc => ?_) hn⟩
  exact ⟨rfl, hQ h' tk acc c as (fun b o e => hk b o (Nat.ne_of_lt (Heap.lt_size e)) (Heap.get?_push_of_some _ e)) hS' hl (hG.low (by show s.heap.objs.size ≤ (s.heap.push _).objs.size; rw [Heap.size_push]; exact Nat.le_succ _)) hacc⟩
end
def rListI (P : Program) (w : World) : List V → Hp → VK → Prop := fun vs H Q => ∃ (p d : Addr) (ks : List RE), vs = [.ref p] ∧ H p = some (DX.itemsO p d) ∧ H d = some (rdO P w d ks) ∧ RowsAt H ks ∧
  ∀ (H' : Hp) (l : Addr) (ts : List Addr), Same H H' → H l = none → H' l = some (.lst (ts.map V.ref)) → ts.length = ks.length → (∀ (j : Nat) (t : Addr) (e : RE), ts[j]? = some t → ks[j]? = some e → H t = none ∧ H' t = some (.tup [.ref e.2.1, e.2.2])) → Q (.ref l) H'
theorem cr_listI {X : Cx} (P : Program) (w : World) (hc : X.calm = true) (e1 : X.prog = P := by rfl) (e2 : X.w = w := by rfl) : CallR X (.type "list") (rListI P w) := by
  subst e1 e2
  intro pins s σ H xs us Q I r h
  obtain ⟨p, d, ks, rfl, hp, hd, hr, q⟩ := h
  obtain rfl := Vals.ref1 r
  have view : s.heap.IsItemsView p d := (show ObjOk X.prog X.w H s.heap p (DX.itemsO p d) from I.hok p _ hp).1
  obtain ⟨z, hs, xs', rel, o, es, ep, ho, hx, hdat, hes, his, hn⟩ := rd_at I.hok hd hr
  have l1 : ks.length = xs'.length := Paired.length rel
  have l2 : es.size = xs'.length := size_of_entries hes
  refine listI_call (es := es) (ep := ep) (I.ok.hd hc) view ⟨o, ho, hx, hdat⟩ (by omega) fun h' tk acc c as hk hS hl hG hacc => ?_
  have lak : as.length = ks.length := by omega
  have nd : as.Nodup := List.Pairwise.imp (fun h => Nat.ne_of_lt h) hG.rise
  have pr : ∀ (j : Nat) (b : Addr), as[j]? = some b → ∃ (e : RE) (u : Value), ks[j]? = some e ∧ RelV e.2.2 u ∧ h'.get? b = some { cls := .type "tuple", data := .seq #[Value.ref e.2.1, u] } := by
    intro j b hj
    obtain ⟨en, he, hg⟩ := hG.pairs j b hj
    rw [entry_at hes j] at he
    cases hxj : xs'[j]? with
    | none =>
      rw [hxj] at he
      exact nomatch (show (none : Option DictEntry) = some en from he)
    | some x =>
      rw [hxj] at he
      have een : entryOfKey (RK X.prog X.w) x = en := Option.some.inj he
      obtain ⟨e0, he0, r1, r2, r3⟩ := DX.pget rel hxj
      refine ⟨e0, x.2.2, he0, r3, ?_⟩
      rw [hg, ← een]
      show some ({ cls := Value.type "tuple", data := .seq #[Value.ref x.2.1, x.2.2] } : Obj) = _
      rw [r2]
  have hn0 : H s.heap.objs.size = none := I.hok.fresh (Nat.le_refl _)
  have I1 : Inv X pins σ H { s with heap := h', toks := tk } := I.kept (t' := tk) hk
  have rv : Vals (as.map V.ref) acc.toList := by
    rw [hacc]
    exact vals_maps (fun a : Addr => V.ref a) (fun a => Value.ref a) as fun _ _ => rfl
  have I2 : Inv X pins σ (upd H s.heap.objs.size (.lst (as.map V.ref))) { s with heap := h', toks := tk } :=
    I1.take (h' := h') (t' := tk) (fun b ob _ e => e) (I.fpOk (Nat.le_refl _) hn0) ⟨by rw [List.length_map]; omega, acc.toList, c, rv, by rw [Array.toArray_toList]; exact hS⟩
  obtain ⟨H2, I3, g, qt⟩ := DX.takeT (P := fun b vs => ∃ (j : Nat) (e : RE), as[j]? = some b ∧ ks[j]? = some e ∧ vs = [.ref e.2.1, e.2.2]) I as _ I2 nd fun b hb => by
    obtain ⟨j, hj⟩ := List.mem_iff_getElem?.mp hb
    obtain ⟨e, u, he, ru, hg⟩ := pr j b hj
    have hbl : s.heap.objs.size < b := hG.above b hb
    refine ⟨Nat.le_of_lt hbl, ?_, [.ref e.2.1, e.2.2], ⟨j, e, hj, he, rfl⟩, fun H3 => ⟨(by rw [sizeLine_eq]; show 2 ≤ 16777216; omega), [Value.ref e.2.1, u], .cons rfl (.cons ru .nil), ⟨_, hg, rfl, 0, rfl⟩⟩⟩
    rw [upd_ne (Nat.ne_of_gt hbl)]
    exact I.hok.fresh (Nat.le_of_lt hbl)
  refine ⟨.ref s.heap.objs.size, H2, I3, rfl, q H2 _ as (fun b o e => g b o (by rw [upd_ne (ne_of_none e hn0)]; exact e)) hn0 (g _ _ upd_same) lak fun j t e hj he => ?_⟩
  have hb : t ∈ as := List.mem_of_getElem? hj
  obtain ⟨vs, ⟨i, e', i1, i2, ev⟩, hH⟩ := qt t hb
  have eij : i = j := (List.getElem?_inj (List.getElem?_eq_some_iff.mp i1).1 nd).mp (i1.trans hj.symm)
  subst eij
  have ee : e' = e := Option.some.inj (i2.symm.trans he)
  subst ee
  exact ⟨I.hok.fresh (Nat.le_of_lt (hG.above t hb)), by rw [hH, ev]⟩

theorem sw_trueD {kx vx : Expr} {gs : List Comprehension} {scope : Scope} {pos py : Pos} {y : Str} {l : Nat} {env : Env} (hk : env.scope.kind = .function) (hy : env.scope.names.lookup y = some .local) (hl : (py.line == pos.line) = true)
    (ha : (scope.names.any fun (n, k) => n == y && (k == .local || k == .cell)) = false) : swapsWith (.DictComp kx vx gs scope pos) (some (.Name y py)) l env = pure true := by
  have ky : env.kindOf y = some .local := hy
  have hb : env.blockKind = .function := by unfold Env.blockKind; rw [hk]; rfl
  unfold swapsWith
  simp only [hb, ky, ha, Expr.pos, hl]
  rfl

/-! ### a dict keyed by rows, by comprehension -/
theorem d_setR {X : Cx} {pins : List (Addr × Obj)} {σ : L2.St} {H : Hp} {s : Shared} {E : Value → Shared → Prop} {D b : Addr} {ks : List RE} {row : List Vl} {v : V} {r : Value} {Q : Unit → Shared → Prop} (hu : X.A.units < cLine) (I : Inv X pins σ H s) (hD : H D = some (rdO X.prog X.w D ks)) (hr : RowsAt H ks) (hb : H b = some (.tup (row.map Vl.v))) (hz : ks.length < sizeLine)
    (rv : RelV v r) (q : ∀ s', Inv X pins σ (upd H D (rdO X.prog X.w D (putR ks row b v))) s' → Q () s') : wpAny (model X.prog X.w) X.A (dictSet D (.ref b) r) Q E s := by
  obtain ⟨z, hs, xs, rel, dd⟩ := rd_at I.hok hD hr
  have hl := putR_len ks row b v
  refine wpAny_dictSet_heap (hsz := by rw [← Paired.length rel]; exact z) (show (RK X.prog X.w).room X.A from hu) (row_is I.hok hb) dd fun h' d1 hs' => q _ (d_write I (by rw [hD]; trivial) hs' (let ⟨o, _, _, ho, _⟩ := d1; ⟨o, ho⟩) (rdO_ok (by omega) hs (rel.put row rv) d1))
def tDcR (P : Program) (w : World) (wi : TI) (g : TG) (tt : TT) (tk tv : TE) (vs : List Nat) : TE := fun σ H Q => wi σ H fun J H1 => ∀ D, H1 D = none → ∃ W : Nat → Nat → Hp → Prop, (∃ m, W 0 m (upd H1 D (rdO P w D []))) ∧ ∀ i m H, W i m H →
  (J.stop i H ∧ Q (.ref D) H) ∨ (J.go i H ∧ ∃ Nx : Hp → Prop, (∀ H', Nx H' → ∃ m', m' < m ∧ W (i + 1) m' H') ∧ ∀ x H', J.yld i H x H' → g x (wipe σ vs) H' fun σ2 H2 => wipe σ2 vs = wipe σ vs ∧ tt σ2 H2 fun c H3 =>
    if c = true then tk σ2 H3 fun y H4 => tv σ2 H4 fun z H5 => ∃ ks row b, y = .ref b ∧ H5 D = some (rdO P w D ks) ∧ RowsAt H5 ks ∧ H5 b = some (.tup (row.map Vl.v)) ∧ ks.length < sizeLine ∧ Nx (upd H5 D (rdO P w D (putR ks row b z))) else Nx H3)
section
variable {X : Cx}
theorem dcr_core {pins : List (Addr × Obj)} {s : Shared} {σ : L2.St} {H : Hp} {Q : VK} {kx vx tg iter : Expr} {ifs : List Expr} {scope : Scope} {own : List (Str × Nat)} {pos pos' : Pos} {wi : TI} {g : TG} {tt : TT} {tk tv : TE} {use : Option (Value → Sem Unit)} {Qf : Value → Shared → Prop}
    (hu : X.A.units < cLine) (hc : X.calm = true) (hN : X.N.Nodup) (I : Inv X pins σ H s) (hi : PI X tg iter wi) (ok : BlkOk X.N X.env.scope scope own)
    (hg : ∀ s H C cl fp, PG (X.blk s H scope (compEnvC scope cl C X.env) fp) tg g) (ht : ∀ s H C cl fp, PTs (X.blk s H scope (compEnvC scope cl C X.env) fp) ifs tt)
    (hk : ∀ s H C cl fp, PE (X.blk s H scope (compEnvC scope cl C X.env) fp) kx tk) (he : ∀ s H C cl fp, PE (X.blk s H scope (compEnvC scope cl C X.env) fp) vx tv) (hs : ∀ x, foldedSetIterable iter X.env x = pure x)
    (h : tDcR X.prog X.w wi g tt tk tv (own.map (·.2)) σ H Q)
    (hRR : ∀ D C s' m H', Inv X pins σ H' s' → Q (.ref D) H' → s'.heap.Ns C m → FpOk X pins H' C → compPost (model X.prog X.w) X.A X.xe use Qf (.ref D) C (.ok .next) s') :
    wpAny (model X.prog X.w) X.A (comprehension (.DictComp kx vx [⟨tg, iter, ifs, 0⟩] scope pos) scope X.env pos' newDict false (eval iter X.env) use) Qf X.xe s := by
  have hfree : ∀ y ∈ scope.names, y.2 = .free → ∃ c, X.env.cells.lookup y.1 = some c := fun y hy e => (ok.free y hy e).elim (fun k => I.ok.has _ (.inl k)) fun k => I.ok.has _ (.inr k)
  refine wpAny_comprehension_free (use := use) rfl hs (closure_ok hfree) ok.kind (fun y hy e => by rw [ok.uniq y hy, e]) (thn (hi.run pins s σ H _ I h) fun xv s1 hx => thn hx fun itv s2 h2 => ?_)
  obtain ⟨it, fp, tn, J, H2, rfl, I2, T, st2, f2, q⟩ := h2
  refine wpAny_newObj_type (newEnv_comp ?_)
  obtain ⟨D, hD⟩ : ∃ D, D = s2.heap.objs.size := ⟨_, rfl⟩
  rw [← hD]
  have hDn : H2 D = none := I2.hok.fresh (Nat.le_of_eq hD.symm)
  obtain ⟨W, ⟨m0, w0⟩, turn⟩ := q D hDn
  obtain ⟨u3, hu3⟩ : ∃ u3 : Shared, u3 = { s2 with heap := s2.heap.push { cls := .type "dict", data := .dict #[] } } := ⟨_, rfl⟩
  have e3 : u3.heap = s2.heap.push { cls := .type "dict", data := .dict #[] } := by rw [hu3]
  obtain ⟨H3, hH3⟩ : ∃ H3, H3 = upd H2 D (rdO X.prog X.w D []) := ⟨_, rfl⟩
  have I3 : Inv X pins σ H3 u3 := by
    rw [hu3, hH3]
    refine I2.laid (t' := s2.toks) (fun _ _ e => Heap.get?_push_of_some _ e) (Nat.le_of_eq hD.symm) ?_
    rw [hD]
    exact rdO_ok (Nat.zero_le _) (beq_eq_false_iff_ne.mpr (Ne.symm (Nat.ne_of_lt I2.big))) .nil (Heap.DictOfH.new _)
  rw [← hH3] at w0
  have f3 : ∀ b ∈ fp, FpOk X pins H3 b ∧ b < u3.heap.objs.size := fun b hb => by
    obtain ⟨o, e, _⟩ := T.obj _ _ st2 b hb
    have lt := Heap.lt_size e
    refine ⟨⟨?_, (f2 b hb).2⟩, by rw [e3, Heap.size_push]; exact Nat.lt_succ_of_lt lt⟩
    rw [hH3, upd_ne (by rw [hD]; exact Nat.ne_of_lt lt)]
    exact (f2 b hb).1
  have st3 : tn 0 u3.heap := T.keep _ _ _ st2 fun b _ o e => by rw [e3]; exact Heap.get?_push_of_some _ e
  have I4 := block_start I3 ok hN f3
  obtain ⟨ce, hce⟩ : ∃ ce, ce = compEnvC scope (cellsFrom (u3.heap.objs.size + 1) scope.names (cloFrom X.env.cells scope.names [])) u3.heap.objs.size X.env := ⟨_, rfl⟩
  have cL : ce.locals = u3.heap.objs.size := by rw [hce]; rfl
  rw [← hu3]
  show codeAny _ _ (.compStart (.DictComp kx vx [⟨tg, iter, ifs, 0⟩] scope pos) 0 (.ref it) (.ref D) (compEnvC scope (cellsFrom (u3.heap.objs.size + 1) scope.names (cloFrom X.env.cells scope.names [])) u3.heap.objs.size X.env)) (compPost (model X.prog X.w) X.A X.xe use Qf (.ref D) u3.heap.objs.size) { u3 with heap := pushCells (u3.heap.push { cls := .type "dict", data := .dict #[] }) scope.names }
  have pg := hg u3 H3 u3.heap.objs.size (cellsFrom (u3.heap.objs.size + 1) scope.names (cloFrom X.env.cells scope.names [])) fp
  have pt := ht u3 H3 u3.heap.objs.size (cellsFrom (u3.heap.objs.size + 1) scope.names (cloFrom X.env.cells scope.names [])) fp
  have pk := hk u3 H3 u3.heap.objs.size (cellsFrom (u3.heap.objs.size + 1) scope.names (cloFrom X.env.cells scope.names [])) fp
  have pe := he u3 H3 u3.heap.objs.size (cellsFrom (u3.heap.objs.size + 1) scope.names (cloFrom X.env.cells scope.names [])) fp
  rw [← hce] at I4 pg pt pk pe ⊢
  have nfp : ∀ b ∈ fp, H3 b = none := fun b hb => (f3 b hb).1.1
  obtain ⟨u4, hu4⟩ : ∃ u4 : Shared, u4 = { u3 with heap := pushCells (u3.heap.push { cls := .type "dict", data := .dict #[] }) scope.names } := ⟨_, rfl⟩
  rw [← hu4] at I4 ⊢
  have st4 : tn 0 u4.heap := T.keep _ _ _ st3 fun b _ o e => by rw [hu4]; exact pushCells_keeps _ _ _ _ (Heap.get?_push_of_some _ e)
  have stat : ∀ {σ' : L2.St} {H' : Hp} {s' : Shared}, Inv (X.blk u3 H3 scope ce fp) [] σ' H' s' → (∀ b ∈ fp, H' b = none) → ∀ b ∈ fp, FpOk (X.blk u3 H3 scope ce fp) [] H' b := fun {σ' H' s'} J' hn b hb =>
    ⟨hn b hb, (J'.ok.exf b hb).1, J'.ok.exfs b hb, .inl hb, fun x c e => (J'.ok.exf b hb).2 x c e, fun p hp => by cases hp⟩
  have loop : codeAny (model X.prog X.w) X.A (.compLoop (.DictComp kx vx [⟨tg, iter, ifs, 0⟩] scope pos) 0 (.ref it) (.ref D) ce) (compPost (model X.prog X.w) X.A X.xe use Qf (.ref D) u3.heap.objs.size) u4 := by
    refine compLoop_anyD (fun n s' => ∃ i H', Inv (X.blk u3 H3 scope ce fp) [] (wipe σ (own.map (·.2))) H' s' ∧ tn i s'.heap ∧ (∀ b ∈ fp, H' b = none) ∧ W i n H') ?_ m0 ⟨0, H3, I4, st4, nfp, w0⟩
    intro n s5 ⟨i, H5, I5, st5, n5, w5⟩
    rcases turn i n H5 w5 with ⟨stop, qq⟩ | ⟨go, Nx, hNx, step⟩
    · refine thnF (T.done (X.blk u3 H3 scope ce fp) rfl rfl rfl hc i [] s5 _ H5 (fun _ _ => False) I5 (stat I5 n5) st5 stop) fun r s6 ⟨hr, I6⟩ => ?_
      cases hr
      have nC : H5 ce.locals = none := I6.free
      obtain ⟨m, hn, _⟩ := I6.loc
      have hn : s6.heap.Ns ce.locals m := hn
      rw [cL] at hn nC
      exact hRR D _ s6 m H5 (I3.call' (ch := fp) I6.os I6.base I6.hok I6.bare fun b hb => ⟨(f3 b hb).1.2.2.2.1, (f3 b hb).1.2.1, (f3 b hb).1.2.2.2.2.1, (f3 b hb).1.2.2.2.2.2⟩) qq hn (I3.fpOk (Nat.le_refl _) nC)
    · refine thnF (T.item (X.blk u3 H3 scope ce fp) rfl rfl rfl hc i [] s5 _ H5 (fun _ _ => False) I5 (stat I5 n5) st5 go) fun r s6 ⟨u, hr, h6⟩ => ?_
      cases hr
      refine thnF h6 fun _ s7 ⟨x, H7, I7, r7, y7, st7, n7⟩ => ?_
      have I7' := I7.pinned (stat I7 n7) (T.obj _ _ st7)
      refine thnF (pg.run _ s7 _ H7 x u _ I7' r7 (step x H7 y7)) fun _ s8 ⟨σ8, H8, I8, hw8, q8⟩ => ?_
      refine thnF (pt.run _ s8 σ8 H8 _ I8 q8) fun b s9 ⟨H9, I9, q9⟩ => ?_
      have fin : ∀ {s' : Shared} {H' : Hp}, Inv (X.blk u3 H3 scope ce fp) ([] ++ pinsAt fp s7.heap) σ8 H' s' → Nx H' → ∃ m, m < n ∧ ∃ i H', Inv (X.blk u3 H3 scope ce fp) [] (wipe σ (own.map (·.2))) H' s' ∧ tn i s'.heap ∧ (∀ b ∈ fp, H' b = none) ∧ W i m H' := fun {s' H'} J' nx => by
        obtain ⟨m', hm, w'⟩ := hNx H' nx
        have pin' : ∀ b ∈ fp, ∀ o, s7.heap.get? b = some o → s'.heap.get? b = some o ∧ H' b = none := fun b hb o e =>
          let z := J'.pin (b, o) (List.mem_append_right _ (List.mem_append_right _ (mem_pinsAt hb e)))
          ⟨z.1, z.2.1⟩
        have hl : (wipe σ (own.map (·.2))).length = σ8.length := by rw [← hw8, wipe_length]
        refine ⟨m', hm, i + 1, H', (J'.unpinned (pins := [])).weak hl (fun j v e => ?_), T.keep _ _ _ st7 fun b hb o e => (pin' b hb o e).1, fun b hb => ?_, w'⟩
        · rw [← hw8] at e
          exact (wipe_some e).1
        · obtain ⟨o, e, _⟩ := T.obj _ _ st7 b hb
          exact (pin' b hb o e).2
      cases b with
      | false =>
        simp only [Bool.false_eq_true, if_false] at q9 ⊢
        exact fin I9 q9
      | true =>
        simp only [if_true] at q9 ⊢
        refine thnF (pk.run _ s9 σ8 H9 _ I9 q9) fun z s10 ⟨yk, H10, I10, r10, q10⟩ => ?_
        refine thnF (pe.run _ s10 σ8 H10 _ I10 q10) fun z2 s11 ⟨yv, H11, I11, r11, ks, row, b, ek, hD11, hr11, hb11, hz11, nx⟩ => ?_
        subst ek
        cases (show z = Value.ref b from r10)
        exact d_setR (X := X.blk u3 H3 scope ce fp) hu I11 hD11 hr11 hb11 hz11 r11 fun s12 I12 => fin I12 nx
  exact codeAny_compStart_dict loop (T.self X.A 0 _ _ _ st4 loop)
theorem ps_setDcR (P : Program) (w : World) {i : Nat} {y : Str} {py : Pos} {kx vx tg iter : Expr} {ifs : List Expr} {scope : Scope} {own : List (Str × Nat)} {pos spos : Pos} {wi : TI} {g : TG} {tt : TT} {tk tv : TE} (hu : X.A.units + 1 < cLine) (hc : X.calm = true) (hN : X.N.Nodup) (hy : X.N[i]? = some y) (hyl : X.env.scope.names.lookup y = some .local)
    (hsw : swapsWith (.DictComp kx vx [⟨tg, iter, ifs, 0⟩] scope pos) (some (.Name y py)) spos.line X.env = pure true) (hi : PI X tg iter wi) (ok : BlkOk X.N X.env.scope scope own)
    (hg : ∀ s H C cl fp, PG (X.blk s H scope (compEnvC scope cl C X.env) fp) tg g) (ht : ∀ s H C cl fp, PTs (X.blk s H scope (compEnvC scope cl C X.env) fp) ifs tt)
    (hk : ∀ s H C cl fp, PE (X.blk s H scope (compEnvC scope cl C X.env) fp) kx tk) (he : ∀ s H C cl fp, PE (X.blk s H scope (compEnvC scope cl C X.env) fp) vx tv) (hs : ∀ x, foldedSetIterable iter X.env x = pure x := by intro _; rfl) (e1 : X.prog = P := by rfl) (e2 : X.w = w := by rfl) :
    PS X (.Assign [.Name y py] (.DictComp kx vx [⟨tg, iter, ifs, 0⟩] scope pos) spos) (tAsg (tDcR P w wi g tt tk tv (own.map (·.2))) (gName i)) := by
  subst e1 e2
  refine ⟨fun pins s σ H D I h => ?_⟩
  rw [exec_Assign_Name_used _ _ _ _ hsw]
  refine wpAny_bind (wpAny_standAt (wpAny_bind ?_))
  show wpAny _ X.A (comprehension (.DictComp kx vx [⟨tg, iter, ifs, 0⟩] scope pos) scope X.env (firstIterPos [⟨tg, iter, ifs, 0⟩] pos) newDict false (eval iter X.env) (some (assign (.Name y py) X.env)) >>= fun _ => pure ()) _ _ s
  have h : tDcR X.prog X.w wi g tt tk tv (own.map (·.2)) σ H (fun x H1 => gName i x σ H1 D.nx) := h
  refine wpAny_bind (thn (dcr_core (Qf := fun _ s' => SP X pins D .next s') (by omega) hc hN I hi ok hg ht hk he hs h fun L C s' m H' I' q hn f => ?_) fun _ s' hq => wpAny_pure (wpAny_pure hq))
  show wpAny _ _ (assign (.Name y py) X.env (.ref L)) _ _ _
  refine wpAny_assign_Name (store_ok2 (v := V.ref L) I' hN hy (.inl hyl) rfl (fun s2 I2 ⟨a, sb, ha⟩ => ?_) (.inr hyl))
  obtain ⟨f0, f1, f2, f3, f4, f5⟩ := f
  have haC : C ≠ a := ha.elim (fun z => by rw [z]; exact f1) fun z e => f4 y a z e.symm
  exact ⟨m, hn.sameBut sb haC, fun h3 sb3 => ⟨_, H', I2.turned (t' := s2.toks) (fun b o hb e => (sb3.2 b hb).trans e) f0 f1 f3 f4 f5, q⟩⟩
end
/-- over a list -/
theorem dcr_list {P : Program} {w : World} {K : PySem.W.Frag} {a : Addr} {xs : List V} {g : TG} {tt : TT} {tk tv : TE} {vs : List Nat} {σ : L2.St} {H1 : Hp} {D : Addr} {Qd : Hp → Prop} (Pv : Nat → Hp → Prop) (h0 : Pv 0 (upd H1 D (rdO P w D []))) (hl : ∀ i H, i ≤ xs.length → Pv i H → SqL K H a xs)
    (hs : ∀ i x H, xs[i]? = some x → Pv i H → g x (wipe σ vs) H fun σ2 H2 => wipe σ2 vs = wipe σ vs ∧ tt σ2 H2 fun c H3 =>
      if c = true then tk σ2 H3 fun y H4 => tv σ2 H4 fun z H5 => ∃ ks row b, y = .ref b ∧ H5 D = some (rdO P w D ks) ∧ RowsAt H5 ks ∧ H5 b = some (.tup (row.map Vl.v)) ∧ ks.length < sizeLine ∧ Pv (i + 1) (upd H5 D (rdO P w D (putR ks row b z))) else Pv (i + 1) H3) (hd : ∀ H, Pv xs.length H → Qd H) :
    ∃ W : Nat → Nat → Hp → Prop, (∃ m, W 0 m (upd H1 D (rdO P w D []))) ∧ ∀ i m H, W i m H →
      ((Itl K a).stop i H ∧ Qd H) ∨ ((Itl K a).go i H ∧ ∃ Nx : Hp → Prop, (∀ H', Nx H' → ∃ m', m' < m ∧ W (i + 1) m' H') ∧ ∀ x H', (Itl K a).yld i H x H' → g x (wipe σ vs) H' fun σ2 H2 => wipe σ2 vs = wipe σ vs ∧ tt σ2 H2 fun c H3 =>
        if c = true then tk σ2 H3 fun y H4 => tv σ2 H4 fun z H5 => ∃ ks row b, y = .ref b ∧ H5 D = some (rdO P w D ks) ∧ RowsAt H5 ks ∧ H5 b = some (.tup (row.map Vl.v)) ∧ ks.length < sizeLine ∧ Nx (upd H5 D (rdO P w D (putR ks row b z))) else Nx H3) := by
  refine ⟨fun i m H => m = xs.length - i ∧ i ≤ xs.length ∧ Pv i H, ⟨xs.length, by simp, Nat.zero_le _, h0⟩, ?_⟩
  rintro i m H ⟨rfl, hi, p⟩
  have q := hl i H hi p
  by_cases hlt : i < xs.length
  · refine .inr ⟨⟨xs, xs[i], q, by simp [hlt]⟩, Pv (i + 1), fun H' p' => ⟨xs.length - (i + 1), by omega, rfl, hlt, p'⟩, fun x H' y => ?_⟩
    obtain ⟨e, y⟩ := y
    subst e
    exact hs i x _ (y xs q) p
  · have e : i = xs.length := by omega
    subst e
    exact .inl ⟨⟨xs, q, Nat.le_refl _⟩, hd H p⟩
/-! ### sorted(d, key=f) -/
section
open PySem.W PyProof.Rows
theorem collect_keys {prog : Program} {w : World} {A : Around} {E : Value → Shared → Prop} {s : Shared} {d : Addr} {es : Array DictEntry} {ep : Nat} {R : List Value → Shared → Prop} (hh : A.handled = none) (lo : (d == sysModules) = false) (hm : s.heap.DictRaw d es ep) (hn : es.size ≤ sizeLine)
    (q : ∀ (h' : Heap) (tk : Nat), (∀ b o, s.heap.get? b = some o → h'.get? b = some o) → s.heap.objs.size ≤ h'.objs.size → R (es.toList.map (·.key)) { s with heap := h', toks := tk }) : wpAny (model prog w) A (collect (.ref d)) R E s := by
  have K := KdlSrc.rawDict (prog := prog) (w := w) (es := es) (ep := ep) lo
  have lt := K.there _ hm
  obtain ⟨L, hL⟩ : ∃ L, L = s.heap.objs.size := ⟨_, rfl⟩
  have told : ∀ (acc : Array Value), ItemsOf (fun i v => ∃ hi : i < es.size, v = es[i].key) acc es.size → acc.toList = es.toList.map (·.key) := fun acc ha => by
    refine List.ext_getElem? fun i => ?_
    rw [List.getElem?_map, Array.getElem?_toList, Array.getElem?_toList]
    by_cases hi : i < es.size
    · have hi' : i < acc.size := by rw [ha.1]; exact hi
      obtain ⟨_, e⟩ := ha.2 i acc[i] (Array.getElem?_eq_getElem hi')
      rw [Array.getElem?_eq_getElem hi', Array.getElem?_eq_getElem hi, e]
      rfl
    · rw [Array.getElem?_eq_none (by rw [ha.1]; omega), Array.getElem?_eq_none (by omega)]
      rfl
  unfold collect
  refine wpAny_bind (wpAny_runValue (codeAny_builtin entry_proto_collect' ?_))
  rw [Around.under_plainId PySem.F.plain_proto_collect _]
  show wpAny _ A.in1 (newList [] >>= fun l => again (.builtin "list.__iadd__" ⟨[l, .ref d], []⟩)) _ _ s
  refine wpAny_bind (wpAny_newObj_type (wpAny_pure ⟨plainId_quiet PySem.F.plain_list_iadd _, codeAny_builtin entry_list_iadd' ?_⟩))
  rw [Around.under_plainId PySem.F.plain_list_iadd _, ← hL]
  have new : (s.heap.push { cls := .type "list", data := .seq ([] : List Value).toArray }).get? L = some { cls := .type "list", data := .seq #[] } := by rw [hL]; exact Heap.get?_push_size _ rfl
  have at_ : ∀ (q' : Result) (s' : Shared), (∃ (h' : Heap) (tk : Nat) (acc : Array Value) (c : Nat), q' = .ok (.ret (.ref L)) ∧ s' = { s with heap := h', toks := tk } ∧ (∀ b o, s.heap.get? b = some o → h'.get? b = some o) ∧ h'.get? L = some { cls := .type "list", dict := none, data := .seq acc c, slots := #[] } ∧ acc.toList = es.toList.map (·.key)) →
      wpAny (model prog w) A (load L) (fun o s2 => ∃ acc c, o = { cls := .type "list", dict := none, data := .seq acc c, slots := #[] } ∧ R acc.toList s2) E s' := fun q' s' ⟨h', tk, acc, c, _, es', hk, hS, ha⟩ => by
    subst es'
    refine wpAny_load hS ⟨acc, c, rfl, ?_⟩
    rw [ha]
    exact q h' tk hk (by rw [← hL]; exact Nat.le_of_lt (Heap.lt_size hS))
  have run := kdl_extend (A := A) (s := { s with heap := s.heap.push { cls := .type "list", data := .seq ([] : List Value).toArray } })
    (R := fun q' s' => ∃ (h' : Heap) (tk : Nat) (acc : Array Value) (c : Nat), q' = .ok (.ret (.ref L)) ∧ s' = { s with heap := h', toks := tk } ∧ (∀ b o, s.heap.get? b = some o → h'.get? b = some o) ∧ h'.get? L = some { cls := .type "list", dict := none, data := .seq acc c, slots := #[] } ∧ acc.toList = es.toList.map (·.key))
    K hh (K.keep _ _ hm fun b _ o e => Heap.get?_push_of_some _ e) L (by rw [hL]; exact Nat.ne_of_gt lt.1) (by rw [hL]; exact Nat.ne_of_gt lt.2) (.ref L) 0 new
    (fun h' tk acc c hk hS ha => ⟨h', tk, acc, c, rfl, rfl, fun b o e => hk b o (by rw [hL]; exact Nat.ne_of_lt (Heap.lt_size e)) (Heap.get?_push_of_some _ e), hS, told acc ha⟩) hn
  refine wpAny_mono run (fun fin s' x => ?_) fun e s' x => ?_
  · cases fin with
    | done f =>
      obtain ⟨h', tk, acc, c, e, rest⟩ := x
      cases e
      refine wpAny_bind (wpAny_mono (at_ _ s' ⟨h', tk, acc, c, rfl, rest⟩) (fun o s2 ⟨acc, c, eo, r⟩ => ?_) fun _ _ z => z)
      subst eo
      exact wpAny_pure r
    | again c₁ =>
      refine ⟨x.1, codeAny_mono x.2 fun q' s2 y => ?_⟩
      obtain ⟨h', tk, acc, c, rfl, rest⟩ := y
      refine wpAny_bind (wpAny_mono (at_ _ s2 ⟨h', tk, acc, c, rfl, rest⟩) (fun o s3 ⟨acc, c, eo, r⟩ => ?_) fun _ _ z => z)
      subst eo
      exact wpAny_pure r
  · obtain ⟨_, _, _, _, e', _⟩ := x
    cases e'
end
def rSortFR (P : Program) (w : World) (K : PySem.W.Frag) (mg : Str → Option Value) (base : Heap) (k : Nat) : List V → List V → Hp → VK → Prop := fun vs zs H Q => ∃ (d f : Addr) (sp : Sp) (ks : List RE) (kd : V → PyData) (b : Bool), vs = [.ref d] ∧ zs = [.ref f] ∧ H d = some (rdO P w d ks) ∧ RowsAt H ks ∧ Hd P w K mg base k f sp ∧
  (∀ y ∈ ks.map (fun x => V.ref x.2.1), ∀ (H1 : Hp) (R : VK), Same H H1 → (∀ u H2, Same H1 H2 → (∀ H3, Kp3 H H2 H3 → Dp K H3 u (kd y)) → R u H2) → sp [y] H1 R E0) ∧ (∀ y ∈ ks.map (fun x => V.ref x.2.1), KeyD b (kd y)) ∧ (∀ y ∈ ks.map (fun x => V.ref x.2.1), ∀ z ∈ ks.map (fun x => V.ref x.2.1), okD (kd y) (kd z) = true) ∧ SrtO.Swo (fun y z : V => ltD (kd y) (kd z)) ∧
  ∀ zs H' p, Same H H' → H p = none → SrtO.Srtd (fun y z => ltD (kd y) (kd z)) zs → SrtO.Stb (fun y z => ltD (kd y) (kd z)) zs (ks.map (fun x => V.ref x.2.1)) → H' p = some (.lst zs) → Q (.ref p) H'
theorem cr_sortFR {X : Cx} {k j : Nat} (hr : Room j X.A) (hk : k + 2 ≤ j) (hu : X.A.units + 70 < cLine) (hc : X.calm = true) : CallRK X (.builtin "sorted") [Str.ofString "key"] (rSortFR X.prog X.w X.K X.mg X.base k) := by
  intro pins s σ H vs zs us ws Q I r rz ask
  obtain ⟨d, f, sp, ks, kd, b, rfl, rfl, hd, hrw, hf, prom, kok, cmp, O, q⟩ := ask
  obtain rfl := Vals.ref1 r
  obtain ⟨w1, rfl, e1⟩ := vals1 rz
  obtain rfl : w1 = Value.ref f := e1
  obtain ⟨z, hs, xs, rel, o, es, ep, ho, hx, hdat, hes, his, hn⟩ := rd_at I.hok hd hrw
  have el : es.toList.map (·.key) = ks.map fun x => Value.ref x.2.1 := by
    rw [hes, List.map_map]
    clear hes his hn prom kok cmp q hd hrw z
    induction rel with
    | nil => rfl
    | @cons p q' ps qs hq t ih =>
      rw [List.map_cons, List.map_cons, ih]
      show Value.ref q'.2.1 :: _ = _
      rw [hq.2.1]
  have lk : es.size = ks.length := by rw [size_of_entries hes, ← Paired.length rel]
  have rv : Vals (ks.map fun x => V.ref x.2.1) (es.toList.map (·.key)) := by
    rw [el]
    exact vals_maps (fun x : RE => V.ref x.2.1) (fun x => Value.ref x.2.1) ks fun _ _ => rfl
  exact sort_of hr hk hu I rv (by rw [List.length_map]; exact z) (fun R E h => collect_keys (A := X.A.in1) (I.ok.hd hc) hs ⟨o, ho, hx, hdat⟩ (by rw [lk]; exact z) h) hf prom kok cmp O q
section
variable {P : Program} {w : World} {K : PySem.W.Frag} {mg : Str → Option Value} {base : Heap} {X : Cx} {k j : Nat}
theorem cr_sortFRK (hr : Room j X.A) (hk : k + 2 ≤ j) (hc : X.calm = true := by rfl) (h1 : X.prog = P := by rfl) (h2 : X.w = w := by rfl) (h3 : X.K = K := by rfl) (h4 : X.mg = mg := by rfl) (h5 : X.base = base := by rfl) : CallRK X (.builtin "sorted") [Str.ofString "key"] (rSortFR P w K mg base k) := by
  subst h1 h2 h3 h4 h5
  exact cr_sortFR hr hk (hu70 hr) hc
end
/-- sorted by the keys of rows -/
theorem srt_rowsR {P : Program} {w : World} {K : PySem.W.Frag} {mg : Str → Option Value} {base : Heap} {k : Nat} {H : Hp} {Q : VK} {f : Vl → PyData} (kf : KF f) (rw' : V → List Vl) {d fk : Addr} {sp : Sp} {ks : List RE}
    (he : H d = some (rdO P w d ks)) (hr : RowsAt H ks) (hd : Hd P w K mg base k fk sp) (hrw : ∀ x ∈ ks, rw' (.ref x.2.1) = x.1) (hok : ∀ x ∈ ks, rok x.1)
    (prom : ∀ x ∈ ks, ∀ (H1 : Hp) (R : VK), Same H H1 → (∀ u H2, Same H1 H2 → Dp K H2 u (rowK f x.1) → R u H2) → sp [.ref x.2.1] H1 R E0)
    (q : ∀ (ks' : List RE) (H' : Hp) (p : Addr), Same H H' → H p = none → ks'.Perm ks → (ks'.map Prod.fst).Pairwise (fun x y => rlt y x = false) → H' p = some (.lst (ks'.map fun x => V.ref x.2.1)) → Q (.ref p) H') : rSortFR P w K mg base k [.ref d] [.ref fk] H Q := by
  have at_ : ∀ y ∈ ks.map fun x => V.ref x.2.1, ∃ x ∈ ks, y = .ref x.2.1 ∧ rw' y = x.1 := fun y hy => by
    obtain ⟨x, hx, rfl⟩ := List.mem_map.mp hy
    exact ⟨x, hx, rfl, hrw x hx⟩
  refine ⟨d, fk, sp, ks, fun y => rowK f (rw' y), false, rfl, rfl, he, hr, hd, fun y hy H1 R s1 hR => ?_, fun y hy => ?_, fun y _ z _ => rk_ok kf _ _, ⟨fun x y h => ?_, fun x y z h g => ?_⟩, fun l H' p s' np hsr hst e => ?_⟩
  · obtain ⟨x, hx, rfl, er⟩ := at_ y hy
    refine prom x hx H1 R s1 fun u H2 s2 dp => hR u H2 s2 fun H3 k3 => ?_
    show Dp K H3 u (rowK f (rw' (V.ref x.2.1)))
    rw [er]
    exact Dp.tsn k3.2 _ _ (by unfold rowK; exact rk_only kf _) dp
  · obtain ⟨x, hx, rfl, er⟩ := at_ y hy
    show KeyD false (rowK f (rw' (V.ref x.2.1)))
    rw [er]
    exact rk_key kf (hok x hx)
  · have h : ltD (rowK f (rw' x)) (rowK f (rw' y)) = true := h
    show ltD (rowK f (rw' y)) (rowK f (rw' x)) = false
    rw [rk_lt kf] at h ⊢
    exact rlt_asym _ _ h
  · have h : ltD (rowK f (rw' y)) (rowK f (rw' x)) = false := h
    have g : ltD (rowK f (rw' z)) (rowK f (rw' y)) = false := g
    show ltD (rowK f (rw' z)) (rowK f (rw' x)) = false
    rw [rk_lt kf] at h g ⊢
    exact rlt_tr _ _ _ h g
  · obtain ⟨ks', pk, ek⟩ := perm_lift (fun x : RE => V.ref x.2.1) hst.perm ks rfl
    subst ek
    refine q ks' H' p s' np pk ?_ e
    have hsr : (ks'.map fun x => V.ref x.2.1).Pairwise (fun y z => ltD (rowK f (rw' z)) (rowK f (rw' y)) = false) := hsr
    rw [List.pairwise_map] at hsr ⊢
    refine List.Pairwise.imp_of_mem (fun {x y} hx hy h => ?_) hsr
    rw [rk_lt kf, hrw x (pk.mem_iff.mp hx), hrw y (pk.mem_iff.mp hy)] at h
    exact h
theorem op_catAK {X : Cx} (K : PySem.W.Frag) (h : X.K = K := by rfl) : OpR X (binaryOp .Add) (rCatA K) := by subst h; exact op_catA

/-! ### d.setdefault(k, x), {k: x}, for k, x in d.items(): dicts keyed by rows -/
def tRSetd (P : Program) (w : World) (td ty tx : TE) : TE := fun σ H Q => td σ H fun x H1 => ∃ d ks0, x = .ref d ∧ H1 d = some (rdO P w d ks0) ∧ ty σ H1 fun y H2 => tx σ H2 fun z H3 => ∃ ks r b, y = .ref b ∧ H3 d = some (rdO P w d ks) ∧ RowsAt H3 ks ∧ H3 b = some (.tup (r.map Vl.v)) ∧ ks.length < sizeLine ∧
  (∀ v, valR ks r = some v → Q v H3) ∧ (valR ks r = none → Q z (upd H3 d (rdO P w d (putR ks r b z))))
def tRDisp1 (P : Program) (w : World) (tk tv : TE) : TE := fun σ H Q => ∀ D, H D = none → tk σ (upd H D (rdO P w D [])) fun x H1 => tv σ H1 fun z H2 => ∃ r b, x = .ref b ∧ H2 D = some (rdO P w D []) ∧ H2 b = some (.tup (r.map Vl.v)) ∧ Q (.ref D) (upd H2 D (rdO P w D [(r, b, z)]))
section
variable {X : Cx} (P : Program) (w : World)
theorem pe_rsetd {o e f : Expr} {apos cpos : Pos} {td ty tx : TE} (hu : X.A.units + 1 < cLine) (ho : PE X o td) (he : PE X e ty) (hf : PE X f tx) (m : M2 X o "setdefault" apos e f cpos) (e1 : X.prog = P := by rfl) (e2 : X.w = w := by rfl) : PE X (.Call (.Attribute o "setdefault" apos) [e, f] [] cpos) (tRSetd P w td ty tx) := by
  subst e1 e2
  refine ⟨fun pins s σ H Q I h => ?_⟩
  refine wpAny_Call_method m.base m.few m.line PySem.F.plainAttrs_dict PySem.F.slot_dict_setdefault PySem.F.type_dict_setdefault (thn (ho.run pins s σ H _ I h) fun u s1 ⟨x, H1, I1, rx, d, ks0, ex, hd0, q1⟩ => ?_)
  subst ex
  obtain rfl : u = Value.ref d := rx
  obtain ⟨t1, t2, _⟩ := rd_raw I1.hok hd0
  refine ⟨t1, t2, ?_⟩
  rw [m.trees]
  refine Calls.callWith_builtin rfl (Calls.evalArgs_plain (Calls.spliced_cons (thn (he.run pins s1 σ H1 _ I1 q1) fun iv s2 ⟨y, H2, I2, ry, q2⟩ =>
    Calls.spliced_cons (thn (hf.run pins s2 σ H2 _ I2 q2) fun fv s3 ⟨z, H3, I3, rz, ks, r, b, ey, hd, hr, hb, hl, q3, q4⟩ => Calls.spliced_nil ?_))))
  subst ey
  obtain rfl : iv = Value.ref b := ry
  obtain ⟨hz, hs, xs, rel, dd⟩ := rd_at I3.hok hd hr
  have hv := rel.val r
  refine call_setdefault_heap (hsz := by rw [← Paired.length rel]; exact hz) (tupleKind_room_in1 hu) (row_is I3.hok hb) hs dd (fun p hp => ?_) fun hn h' d1 hs' => ?_
  · rw [hp] at hv
    cases ev : valR ks r with
    | none => rw [ev] at hv; exact hv.elim
    | some v =>
      rw [ev] at hv
      exact ⟨v, H3, I3.tok _, hv, q3 v ev⟩
  · rw [hn] at hv
    have ev : valR ks r = none := by
      cases ev : valR ks r with
      | none => rfl
      | some v => rw [ev] at hv; exact hv.elim
    have hlen := putR_len ks r b z
    exact ⟨z, _, d_write I3 (by rw [hd]; trivial) hs' (let ⟨o, _, _, ho, _⟩ := d1; ⟨o, ho⟩) (rdO_ok (by omega) hs (rel.put r rz) d1), rz, q4 ev⟩
theorem pe_rdisp1 {pos : Pos} {k v : Expr} {tk tv : TE} (hu : X.A.units + 1 < cLine) (hk : PE X k tk) (hv : PE X v tv) (e1 : X.prog = P := by rfl) (e2 : X.w = w := by rfl) : PE X (.Dict [some k] [v] pos) (tRDisp1 P w tk tv) := by
  subst e1 e2
  refine ⟨fun pins s σ H Q I q => ?_⟩
  obtain ⟨D, hD⟩ : ∃ D, D = s.heap.objs.size := ⟨_, rfl⟩
  have hn : H D = none := I.hok.fresh (Nat.le_of_eq hD.symm)
  have I1 : Inv X pins σ (upd H D (rdO X.prog X.w D [])) { s with heap := s.heap.push { cls := .type "dict", data := .dict #[] } } := by
    rw [hD]
    exact I.laid (t' := s.toks) (fun _ _ q => Heap.get?_push_of_some _ q) (Nat.le_refl _) (rdO_ok (Nat.zero_le _) (beq_eq_false_iff_ne.mpr (Ne.symm (Nat.ne_of_lt I.big))) .nil (Heap.DictOfH.new _))
  rw [arm_eval_Dict, show (evalEachOpt [some k] X.env).zip ((evalEach [v] X.env).map fun v => do let x ← v; standAt pos; pure x) = (pairTrees [some k] [v] X.env pos).map fun p => (some p.1, p.2) from rfl, dictDisplay_pairs (pairTrees [some k] [v] X.env pos) (by intro z; cases z) (by simp [pairTrees])]
  refine wpAny_bind (wpAny_standAt (wpAny_bind (wpAny_subDictH (knd := RK X.prog X.w) (Q := fun d s' => wpAny (model X.prog X.w) X.A (pure (Value.ref d)) (EP X pins σ Q) X.xe s') (show X.A.units < cLine by omega) (by simp [pairTrees]) ?_)))
  refine pairTrees_cons_walk (thn (hk.run pins _ σ _ _ I1 (q D hn)) fun u s1 ⟨x, H1, J1, rx, q1⟩ => thn (hv.run pins s1 σ H1 _ J1 q1) fun u2 s2 ⟨z, H2, J2, rz, r, b, ex, e, eb, q2⟩ => pairTrees_nil_walk ?_)
  subst ex
  cases (show u = Value.ref b from rx)
  obtain ⟨_, hs, xs0, rel0, dd0⟩ := rd_at J2.hok e (fun _ h => by cases h)
  cases rel0
  rw [← hD]
  refine ⟨[(lfs r, b, u2)], ⟨rfl, rfl, row_is J2.hok eb, trivial⟩, dd0, fun h' tk d1 hs' => wpAny_pure ⟨.ref D, _, ?_, rfl, q2⟩⟩
  have d1 : h'.DictOfH (RK X.prog X.w) D [(lfs r, b, u2)] := d1
  exact d_write J2 (by rw [e]; trivial) hs' (let ⟨o, _, _, ho, _⟩ := d1; ⟨o, ho⟩) (rdO_ok (show 1 ≤ sizeLine by decide) hs (.cons ⟨rfl, rfl, rz⟩ .nil) d1)
end
/-- the dict at d, its object told: while it is walked -/
def rdF (P : Program) (w : World) (d : Addr) (o : Obj) (ks : List RE) : HO := .ext fun h => h.get? d = some o ∧ ks.length ≤ sizeLine ∧ (d == sysModules) = false ∧ ∃ xs, RX ks xs ∧ ∃ es ep, o.ExactDict ∧ o.data = .dict es ep ∧ es.toList = xs.map (entryOfKey (RK P w)) ∧ (xs.map (·.1)).Nodup
def ItR (P : Program) (w : World) (d : Addr) (o : Obj) (ks : List RE) : It :=
  ⟨fun i H => H d = some (rdF P w d o ks) ∧ i < ks.length, fun i H x H' => ∃ T e, ks[i]? = some e ∧ x = .ref T ∧ H T = none ∧ H' = upd H T (.tup [.ref e.2.1, e.2.2]), fun i H => H d = some (rdF P w d o ks) ∧ ks.length ≤ i⟩
theorem rdF_at {P : Program} {w : World} {H : Hp} {h : Heap} {d : Addr} {o : Obj} {ks : List RE} (ok : HOk P w H h) (e : H d = some (rdF P w d o ks)) : h.get? d = some o ∧ ks.length ≤ sizeLine ∧ (d == sysModules) = false ∧ ∃ xs, RX ks xs ∧ ∃ es ep, o.ExactDict ∧ o.data = .dict es ep ∧ es.toList = xs.map (entryOfKey (RK P w)) ∧ (xs.map (·.1)).Nodup := (show ObjOk P w H h d (rdF P w d o ks) from ok d _ e).1
theorem turn_ritems {P : Program} {w : World} {K : PySem.W.Frag} {d : Addr} {o : Obj} {ks : List RE} {es : Array DictEntry} {ep : Nat} {elts : List Expr} {kk : Nat} {tpos : Pos} (it : Addr) (hod : o.data = .dict es ep) :
    Turn P w K (.Tuple elts kk tpos) (ItR P w d o ks) [it] it (fun i h => ∃ ok ov, IsItemIter h it d i es.size ep ok ov) where
  mem := List.mem_singleton.mpr rfl
  obj := fun i h st b hb => by
    rw [List.mem_singleton.mp hb]
    obtain ⟨ok, ov, e⟩ := st
    exact ⟨_, e, fun v z => nomatch z⟩
  keep := fun i h h' st k => let ⟨ok, ov, e⟩ := st; ⟨ok, ov, k it (List.mem_singleton.mpr rfl) _ e⟩
  item := by
    intro X hP hw hK hc i pins s σ H E I hf st hg
    subst hP hw hK
    obtain ⟨hd, hi⟩ := hg
    obtain ⟨ho, hz, hs, xs, rel, es', ep', hx, hdt, hes, _⟩ := rdF_at I.hok hd
    rw [hod] at hdt
    cases hdt
    obtain ⟨ok, ov, he⟩ := st
    have hlt : it < s.heap.objs.size := Heap.lt_size he
    have lk : es.size = ks.length := by rw [size_of_entries hes, ← Paired.length rel]
    have hie : i < es.size := by omega
    obtain ⟨e, hke⟩ : ∃ e, ks[i]? = some e := ⟨ks[i], List.getElem?_eq_getElem hi⟩
    have hxi : i < xs.length := by rw [← Paired.length rel]; exact hi
    obtain ⟨e0, he0, r1, r2, r3⟩ := DX.pget rel (List.getElem?_eq_getElem hxi)
    obtain rfl : e0 = e := Option.some.inj (he0.symm.trans hke)
    have eq1 : es[i] = entryOfKey (RK X.prog X.w) xs[i] := by
      have := entry_at hes i
      rw [Array.getElem?_eq_getElem hie, List.getElem?_eq_getElem hxi] at this
      exact Option.some.inj this
    refine DT.nextI he ⟨o, ho, hx, hod⟩ hie fun h' hout hT hsz hkp => ?_
    refine ⟨_, rfl, wpAny_letOwnedTupleGo_items (s := { s with heap := h' }) hout fun h'' he' sb => ?_⟩
    have hT2 : h''.get? s.heap.objs.size = some { cls := .type "tuple", data := .seq #[es[i].key, es[i].val] } := (sb.2 _ (Nat.ne_of_gt hlt)).trans hT
    have new : ObjOk X.prog X.w (upd H s.heap.objs.size (.tup [.ref e0.2.1, e0.2.2])) h'' s.heap.objs.size (.tup [.ref e0.2.1, e0.2.2]) := by
      refine ⟨by show 2 ≤ sizeLine; decide, [es[i].key, es[i].val], .cons ?_ (.cons ?_ .nil), ⟨_, hT2, rfl, _, rfl⟩⟩
      · rw [eq1]
        show Value.ref xs[i].2.1 = Value.ref e0.2.1
        rw [r2]
      · rw [eq1]
        exact r3
    have I1 : Inv X pins σ (upd H s.heap.objs.size (.tup [.ref e0.2.1, e0.2.2])) { s with heap := h'' } :=
      I.turnedNew (t' := s.toks) (ch := [it]) (fun b ob hb e => (sb.2 b (by simpa using hb)).trans (hkp b ob (by simpa using hb) e)) hf (Nat.le_refl _) new
    refine ⟨.ref s.heap.objs.size, _, I1, rfl, ⟨_, e0, hke, rfl, I.hok.fresh (Nat.le_refl _), rfl⟩, ⟨_, _, he'⟩, fun b hb => ?_⟩
    rw [List.mem_singleton.mp hb, upd_ne (Nat.ne_of_lt hlt)]
    exact (hf it (List.mem_singleton.mpr rfl)).1
  done := by
    intro X hP hw hK hc i pins s σ H E I hf st hg
    subst hP hw hK
    obtain ⟨hd, hi⟩ := hg
    obtain ⟨f0, f1, f2, f3, f4, f5⟩ := hf it (List.mem_singleton.mpr rfl)
    obtain ⟨ho, hz, hs, xs, rel, es', ep', hx, hdt, hes, _⟩ := rdF_at I.hok hd
    rw [hod] at hdt
    cases hdt
    obtain ⟨ok, ov, he⟩ := st
    have lk : es.size = ks.length := by rw [size_of_entries hes, ← Paired.length rel]
    exact DT.endI (I.ok.hd hc) he ⟨o, ho, hx, hod⟩ (by omega) fun h' eb => ⟨rfl, I.turned (t' := s.toks) (fun b ob hb e => eb b ob hb e) f0 f1 f3 f4 f5⟩
  self := fun A i s Q E st h => let ⟨_, _, e⟩ := st; PySem.W.kcp_self e h
def iRItems (P : Program) (w : World) (td : TE) : TI := fun σ H R => td σ H fun x H1 => ∃ d ks, x = .ref d ∧ H1 d = some (rdO P w d ks) ∧ ∀ o, R (ItR P w d o ks) (upd H1 d (rdF P w d o ks))
theorem pi_ritems {X : Cx} (P : Program) (w : World) {e : Expr} {td : TE} {apos cpos : Pos} {elts : List Expr} {kk : Nat} {tpos : Pos} (he : PE X e td) (hbase : attributeBase e "items" X.env (eval e X.env) = eval e X.env := by rfl) (hline : (apos.endLine == cpos.line) = true := by rfl) (e1 : X.prog = P := by rfl) (e2 : X.w = w := by rfl) :
    PI X (.Tuple elts kk tpos) (.Call (.Attribute e "items" apos) [] [] cpos) (iRItems P w td) := by
  subst e1 e2
  refine ⟨fun pins s σ H R I h => ?_⟩
  refine wpAny_Call_method (T := "dict") (id := "dict.items") hbase rfl hline F.plainAttrs_dict F.slot_dict_items F.type_dict_items (thn (he.run pins s σ H _ I h) fun u s1 ⟨x, H1, I1, rx, d, ks, ex, hd, q⟩ => ?_)
  subst ex
  obtain rfl : u = Value.ref d := rx
  obtain ⟨t1, t2, hs⟩ := rd_raw I1.hok hd
  refine ⟨t1, t2, ?_⟩
  obtain ⟨⟨z, _, xs, rx, o, es, ep, h1, h2, h3, h4, h5⟩, _⟩ := (show ObjOk X.prog X.w H1 s1.heap d (rdO X.prog X.w d ks) from I1.hok d _ hd)
  have J1 : Inv X pins σ (upd H1 d (rdF X.prog X.w d o ks)) s1 := I1.write (x := d) (e := d) (h' := s1.heap) (t' := s1.toks) (by rw [hd]; trivial) (.inl rfl) (fun b u _ z => z) ⟨o, h1⟩ ⟨⟨h1, z, hs, xs, rx, es, ep, h2, h3, h4, h5⟩, ⟨o, h1⟩, fun ha hb ⟨g1, g2⟩ k => ⟨k _ g1, g2⟩⟩
  have J2 : Inv X pins σ (upd H1 d (rdF X.prog X.w d o ks)) { s1 with heap := s1.heap.push { cls := .type "dict_items", data := .fields #[.ref d] } } := J1.kept (t' := s1.toks) fun b ob q => Heap.get?_push_of_some _ q
  have raw : DT.Raw s1.heap d es ep := ⟨o, h1, h2, h3⟩
  refine Calls.callWith_builtin rfl (PySem.evalArgs_none (DT.callItems (es := es) (ep := ep) hs raw ?_))
  exact DT.iterI (s := { s1 with heap := s1.heap.push { cls := .type "dict_items", data := .fields #[.ref d] } }) (es := es) (ep := ep) ⟨_, Heap.get?_push_size _ rfl, rfl, rfl⟩ (raw.push _) (pi_one (tk := s1.toks) J2 _ (turn_ritems _ h3) ⟨.none, .none, Heap.get?_push_size _ rfl⟩ (q o))
/-- over such a dict's items, into a list -/
theorem lc_rit {P : Program} {w : World} {d : Addr} {o : Obj} {ks : List RE} {g : TG} {tt : TT} {te : TE} {vs : List Nat} {σ : L2.St} {H1 : Hp} {D : Addr} {Qd : Hp → Prop} (Pv : Nat → Hp → Prop) (h0 : Pv 0 (upd H1 D (.lst []))) (hl : ∀ i H, i ≤ ks.length → Pv i H → H d = some (rdF P w d o ks))
    (hs : ∀ i e H T, ks[i]? = some e → Pv i H → H T = none → g (.ref T) (wipe σ vs) (upd H T (.tup [.ref e.2.1, e.2.2])) fun σ2 H2 => wipe σ2 vs = wipe σ vs ∧ tt σ2 H2 fun b H3 =>
      if b = true then te σ2 H3 fun y H4 => ∃ acc, H4 D = some (.lst acc) ∧ acc.length < sizeLine ∧ Pv (i + 1) (upd H4 D (.lst (acc ++ [y]))) else Pv (i + 1) H3) (hd : ∀ H, Pv ks.length H → Qd H) :
    ∃ W : Nat → Nat → Hp → Prop, (∃ m, W 0 m (upd H1 D (.lst []))) ∧ ∀ i m H, W i m H →
      ((ItR P w d o ks).stop i H ∧ Qd H) ∨ ((ItR P w d o ks).go i H ∧ ∃ Nx : Hp → Prop, (∀ H', Nx H' → ∃ m', m' < m ∧ W (i + 1) m' H') ∧ ∀ x H', (ItR P w d o ks).yld i H x H' → g x (wipe σ vs) H' fun σ2 H2 => wipe σ2 vs = wipe σ vs ∧ tt σ2 H2 fun b H3 =>
        if b = true then te σ2 H3 fun y H4 => ∃ acc, H4 D = some (.lst acc) ∧ acc.length < sizeLine ∧ Nx (upd H4 D (.lst (acc ++ [y]))) else Nx H3) := by
  refine ⟨fun i m H => m = ks.length - i ∧ i ≤ ks.length ∧ Pv i H, ⟨ks.length, by simp, Nat.zero_le _, h0⟩, ?_⟩
  rintro i m H ⟨rfl, hi, p⟩
  have q := hl i H hi p
  by_cases hlt : i < ks.length
  · refine .inr ⟨⟨q, hlt⟩, Pv (i + 1), fun H' p' => ⟨ks.length - (i + 1), by omega, rfl, hlt, p'⟩, fun x H' y => ?_⟩
    obtain ⟨T, e, he, rfl, nT, rfl⟩ := y
    exact hs i e H T he p nT
  · have e : i = ks.length := by omega
    subst e
    exact .inl ⟨⟨q, Nat.le_refl _⟩, hd H p⟩

/-! ### keys of rows; a law's rows in their order -/
def sp_rk (K : PySem.W.Frag) (f : Vl → PyData) : Sp := fun vs H Q _ => ∃ (a : Addr) (row : List Vl), vs = [.ref a] ∧ SqT K H a (row.map Vl.v) ∧ row.length ≤ 1000 ∧ ∀ H' p, Same H H' → Dp K H' (.ref p) (rowK f row) → Q (.ref p) H'
section
variable {P : Program} {w : World} {K : PySem.W.Frag} {mg : Str → Option Value} {base : Heap}
theorem ok_rkey {f : Addr} {fd : FuncData} (F : Fun K "row_key" "row_key" s_row_key f fd) (M : Mg mg) (c_value_key : Cl P w K mg base 1 "value_key" (sp_key K)) : FnOk P w K mg base CX0 2 f fd ["row"] (sp_rk K Vl.d) := by
  refine F.ok sc_row_key (fun vs H Q E h => ?_) (fun cdv A outer s H vs Q E hr h => ?_)
  · obtain ⟨a, row, rfl, _⟩ := h
    rfl
  · obtain ⟨a, row, rfl, hS, hl, q⟩ := h
    refine ⟨_, (pss_one (ps_ret (pe_callTy (tupleK K) (by rfl) M.tuple (by decide +kernel) (pa_cons (pe_lc (own := [("value", 1)]) (g := gName 1) (tt := tYes) rfl sc_row_key.nd (pi_tup (pv 0)) (blkOk_by (N := N_row_key) (sc := defScope s_row_key) (by decide +kernel)) (fun _ _ _ _ _ => (pg_name (i := 1) sc_row_key.nd rfl (.inl rfl))) (fun _ _ _ _ _ => pts_nil) (fun _ _ _ _ _ => (pe_u c_value_key hr (by first | decide | omega) (by rfl) (pa_cons (pv 1) pa_nil)))) pa_nil)))), ?_⟩
    refine ⟨_, rfl, a, rfl, ⟨_, hS⟩, fun D nD => ?_⟩
    refine lc_tup (K := K) (a := a) (xs := row.map Vl.v) (fun i Hi => Same H Hi ∧ ∃ xs, Hi D = some (.lst xs) ∧ DpAll K Hi xs ((row.take i).map Vl.d)) ⟨same_upd nD, [], upd_same, .nil⟩ (fun i Hi _ hp => SqT.ext hp.1 hS) (fun i x Hi hx hp => ?_) (fun Hn hp => ?_)
    · obtain ⟨si, xs, eD, da⟩ := hp
      rw [List.getElem?_map] at hx
      obtain ⟨v, hv, rfl⟩ := Option.map_eq_some_iff.mp hx
      have hi : i < row.length := (List.getElem?_eq_some_iff.mp hv).1
      refine ⟨rfl, ?_⟩
      refine ⟨_, rfl, v, rfl, fun H' p s' dp => ?_⟩
      have eD' := s' _ _ eD
      have hxs : xs.length = i := by
        rw [DpAll.len da, List.length_map, List.length_take]
        omega
      refine ⟨xs, eD', by rw [hxs]; exact Nat.lt_of_lt_of_le (m := 1001) (by omega) (by decide), fun b o e => ?_, xs ++ [.ref p], upd_same, ?_⟩
      · have nb : b ≠ D := ne_of_none e nD
        rw [upd_ne nb]
        exact s' _ _ (si _ _ e)
      · rw [List.take_add_one, hv, List.map_append]
        exact DpAll.snoc (DpAll.away eD' _ _ (rk_only kf_d _) (DpAll.ext s' _ _ da)) (Dp.away eD' _ _ (kf_d.only v) dp)
    · obtain ⟨sn, xs, eD, da⟩ := hp
      have er : row.take (row.map Vl.v).length = row := List.take_of_length_le (by rw [List.length_map]; exact Nat.le_refl _)
      rw [er] at da
      refine ⟨D, xs, rfl, .inl ⟨.of eD, fun T nT => ?_⟩⟩
      exact q _ T (sn.trans (same_upd nT)) (.tup (.of upd_same) (DpAll.ext (same_upd nT) _ _ da))
end

section
variable {P : Program} {w : World} {K : PySem.W.Frag} {mg : Str → Option Value} {base : Heap}
theorem ok_lrkey {f : Addr} {fd : FuncData} (F : Fun K "_law_row_key" "_law_row_key" s__law_row_key f fd) (M : Mg mg) (c__law_key : Cl P w K mg base 1 "_law_key" (sp_lkey K)) : FnOk P w K mg base CX0 2 f fd ["row"] (sp_rk K Vl.lk) := by
  refine F.ok sc__law_row_key (fun vs H Q E h => ?_) (fun cdv A outer s H vs Q E hr h => ?_)
  · obtain ⟨a, row, rfl, _⟩ := h
    rfl
  · obtain ⟨a, row, rfl, hS, hl, q⟩ := h
    refine ⟨_, (pss_one (ps_ret (pe_callTy (tupleK K) (by rfl) M.tuple (by decide +kernel) (pa_cons (pe_lc (own := [("value", 1)]) (g := gName 1) (tt := tYes) rfl sc__law_row_key.nd (pi_tup (pv 0)) (blkOk_by (N := N__law_row_key) (sc := defScope s__law_row_key) (by decide +kernel)) (fun _ _ _ _ _ => (pg_name (i := 1) sc__law_row_key.nd rfl (.inl rfl))) (fun _ _ _ _ _ => pts_nil) (fun _ _ _ _ _ => (pe_u c__law_key hr (by first | decide | omega) (by rfl) (pa_cons (pv 1) pa_nil)))) pa_nil)))), ?_⟩
    refine ⟨_, rfl, a, rfl, ⟨_, hS⟩, fun D nD => ?_⟩
    refine lc_tup (K := K) (a := a) (xs := row.map Vl.v) (fun i Hi => Same H Hi ∧ ∃ xs, Hi D = some (.lst xs) ∧ DpAll K Hi xs ((row.take i).map Vl.lk)) ⟨same_upd nD, [], upd_same, .nil⟩ (fun i Hi _ hp => SqT.ext hp.1 hS) (fun i x Hi hx hp => ?_) (fun Hn hp => ?_)
    · obtain ⟨si, xs, eD, da⟩ := hp
      rw [List.getElem?_map] at hx
      obtain ⟨v, hv, rfl⟩ := Option.map_eq_some_iff.mp hx
      have hi : i < row.length := (List.getElem?_eq_some_iff.mp hv).1
      refine ⟨rfl, ?_⟩
      refine ⟨_, rfl, v, rfl, fun H' p s' dp => ?_⟩
      have eD' := s' _ _ eD
      have hxs : xs.length = i := by
        rw [DpAll.len da, List.length_map, List.length_take]
        omega
      refine ⟨xs, eD', by rw [hxs]; exact Nat.lt_of_lt_of_le (m := 1001) (by omega) (by decide), fun b o e => ?_, xs ++ [.ref p], upd_same, ?_⟩
      · have nb : b ≠ D := ne_of_none e nD
        rw [upd_ne nb]
        exact s' _ _ (si _ _ e)
      · rw [List.take_add_one, hv, List.map_append]
        exact DpAll.snoc (DpAll.away eD' _ _ (rk_only kf_lk _) (DpAll.ext s' _ _ da)) (Dp.away eD' _ _ (kf_lk.only v) dp)
    · obtain ⟨sn, xs, eD, da⟩ := hp
      have er : row.take (row.map Vl.v).length = row := List.take_of_length_le (by rw [List.length_map]; exact Nat.le_refl _)
      rw [er] at da
      refine ⟨D, xs, rfl, .inl ⟨.of eD, fun T nT => ?_⟩⟩
      exact q _ T (sn.trans (same_upd nT)) (.tup (.of upd_same) (DpAll.ext (same_upd nT) _ _ da))
end
/-! ### a law's rows, each once, in their order -/
abbrev AR := Addr × List Vl
def distA (l : List AR) : List AR := l.foldl (fun a x => if x.2 ∈ a.map Prod.snd then a else a ++ [x]) []
def arG (x : AR) : V × PyData := (.ref x.1, rowP x.2)
theorem distP_rows (l : List AR) : distP (l.map arG) = (distA l).map arG := by
  have go : ∀ (l a : List AR), (l.map arG).foldl (fun a x => if (a.any fun z => PyData.eqv z.2 x.2) = true then a else a ++ [x]) (a.map arG) = (l.foldl (fun a x => if x.2 ∈ a.map Prod.snd then a else a ++ [x]) a).map arG := by
    intro l
    induction l with
    | nil => exact fun a => rfl
    | cons y l ih =>
      intro a
      rw [List.map_cons, List.foldl_cons, List.foldl_cons]
      have e : ((a.map arG).any fun z => PyData.eqv z.2 (rowP y.2)) = decide (y.2 ∈ a.map Prod.snd) := by
        rw [List.any_map, Bool.eq_iff_iff, decide_eq_true_iff, List.any_eq_true]
        constructor
        · rintro ⟨x, hx, e⟩
          have e : PyData.eqv (rowP x.2) (rowP y.2) = true := e
          rw [rowP_eqv] at e
          rw [← of_decide_eq_true e]
          exact List.mem_map.mpr ⟨x, hx, rfl⟩
        · intro h
          obtain ⟨x, hx, e⟩ := List.mem_map.mp h
          exact ⟨x, hx, by show PyData.eqv (rowP x.2) (rowP y.2) = true; rw [rowP_eqv]; exact decide_eq_true e⟩
      by_cases h : y.2 ∈ a.map Prod.snd
      · rw [if_pos (by show _ = true; exact e.trans (decide_eq_true h)), if_pos h]
        exact ih a
      · rw [if_neg (by show ¬ _ = true; exact fun z => h (of_decide_eq_true (e.symm.trans z))), if_neg h]
        have := ih (a ++ [y])
        rw [List.map_append] at this
        exact this
  exact go l []
theorem distA_spec (l : List AR) : ((distA l).map Prod.snd).Nodup ∧ (∀ x ∈ distA l, x ∈ l) ∧ ∀ r, r ∈ (distA l).map Prod.snd ↔ r ∈ l.map Prod.snd := by
  have go : ∀ (l a : List AR), (a.map Prod.snd).Nodup → ((l.foldl (fun a x => if x.2 ∈ a.map Prod.snd then a else a ++ [x]) a).map Prod.snd).Nodup ∧ (∀ x ∈ l.foldl (fun a x => if x.2 ∈ a.map Prod.snd then a else a ++ [x]) a, x ∈ a ∨ x ∈ l) ∧ ∀ r, r ∈ (l.foldl (fun a x => if x.2 ∈ a.map Prod.snd then a else a ++ [x]) a).map Prod.snd ↔ r ∈ a.map Prod.snd ∨ r ∈ l.map Prod.snd := by
    intro l
    induction l with
    | nil => exact fun a h => ⟨h, fun x hx => .inl hx, fun r => ⟨.inl, fun z => z.elim id (fun z => by cases z)⟩⟩
    | cons y l ih =>
      intro a h
      rw [List.foldl_cons]
      by_cases hy : y.2 ∈ a.map Prod.snd
      · rw [if_pos hy]
        obtain ⟨h1, h2, h3⟩ := ih a h
        refine ⟨h1, fun x hx => (h2 x hx).imp id (List.mem_cons_of_mem _), fun r => (h3 r).trans ?_⟩
        rw [List.map_cons, List.mem_cons]
        constructor
        · exact fun z => z.imp id .inr
        · rintro (z | rfl | z)
          · exact .inl z
          · exact .inl hy
          · exact .inr z
      · rw [if_neg hy]
        obtain ⟨h1, h2, h3⟩ := ih (a ++ [y]) (by
          rw [List.map_append]
          exact List.nodup_append.mpr ⟨h, (List.pairwise_singleton _ _), fun x hx z hz e => by
            have hz : z ∈ [y.2] := hz
            rw [List.mem_singleton.mp hz] at e
            exact hy (e ▸ hx)⟩)
        refine ⟨h1, fun x hx => ?_, fun r => (h3 r).trans ?_⟩
        · rcases h2 x hx with z | z
          · rcases List.mem_append.mp z with z | z
            · exact .inl z
            · exact .inr (by rw [List.mem_singleton.mp z]; exact List.mem_cons_self)
          · exact .inr (List.mem_cons_of_mem _ z)
        · rw [List.map_append, List.mem_append, List.map_cons, List.map_nil, List.mem_singleton, List.map_cons, List.mem_cons]
          exact or_assoc
  obtain ⟨h1, h2, h3⟩ := go l [] List.nodup_nil
  refine ⟨h1, fun x hx => (h2 x hx).elim (fun z => by cases z) id, fun r => (h3 r).trans ⟨fun z => z.elim (fun z => by cases z) id, .inr⟩⟩
theorem distA_len (l : List AR) : (distA l).length ≤ l.length := by
  have h := distP_len (l.map arG)
  rw [distP_rows, List.length_map, List.length_map] at h
  exact h
/-- the row that stands at a value -/
def rowOf (H : Hp) : V → List Vl
  | .ref t => match H t with
    | some (.tup xs) => xs.map toVl
    | _ => []
  | _ => []
theorem rowOf_at {H : Hp} {t : Addr} {r : List Vl} (h : H t = some (.tup (r.map Vl.v))) : rowOf H (.ref t) = r := by
  show (match H t with
    | some (.tup xs) => xs.map toVl
    | _ => []) = r
  rw [h]
  exact toVl_map r
def sp_lord (K : PySem.W.Frag) : Sp := fun vs H Q _ => ∃ (a : Addr) (zs : List AR), vs = [.ref a] ∧ SqL K H a (zs.map fun x => V.ref x.1) ∧ (∀ x ∈ zs, H x.1 = some (.tup (x.2.map Vl.v))) ∧ (∀ x ∈ zs, rok x.2 ∧ x.2.length ≤ 1000) ∧ zs.length ≤ 1000 ∧
  ∀ (H' : Hp) (p : Addr) (zs' : List AR), Same H H' → H p = none → H' p = some (.lst (zs'.map fun x : AR => V.ref x.1)) → (∀ x ∈ zs', x ∈ zs) → zs'.length ≤ zs.length → (zs'.map Prod.snd).Pairwise (fun x y => rlt x y = true) → (∀ r, r ∈ zs'.map Prod.snd ↔ r ∈ zs.map Prod.snd) → Q (.ref p) H'
section
variable {P : Program} {w : World} {K : PySem.W.Frag} {mg : Str → Option Value} {base : Heap}
theorem ok_lord {f : Addr} {fd : FuncData} (F : Fun K "_law_ordered" "_law_ordered" s__law_ordered f fd) (M : Mg mg) (c__law_distinct : Cl P w K mg base 1 "_law_distinct" (sp_ldist K)) (c__law_row_key : Cl P w K mg base 2 "_law_row_key" (sp_rk K Vl.lk)) : FnOk P w K mg base CX0 5 f fd ["rows"] (sp_lord K) := by
  obtain ⟨fk, hm__law_row_key, hdk⟩ := c__law_row_key.hd
  refine F.ok sc__law_ordered (fun vs H Q E h => ?_) (fun cdv A outer s H vs Q E hr h => ?_)
  · obtain ⟨a, zs, rfl, _⟩ := h
    rfl
  · obtain ⟨a, zs, rfl, hS, hrow, hok, hl, q⟩ := h
    refine ⟨_, (pss_one (ps_ret (pe_callBK (cr_sortFK (P := P) (w := w) (K := K) (mg := mg) (base := base) (k := 2) hr (by first | decide | omega)) (by rfl) M.sorted (by decide +kernel) (pa_cons (pe_u c__law_distinct hr (by first | decide | omega) (by rfl) (pa_cons (pv 0) pa_nil)) pa_nil) (pk_cons (C8.pe_gc (v := .ref _) (by rfl) ⟨_, hm__law_row_key, rfl⟩) pk_nil)))), ?_⟩
    obtain ⟨hnd, hsub, hmem⟩ := distA_spec zs
    refine ⟨_, rfl, a, zs.map arG, rfl, by rw [List.map_map]; exact hS, fun x hx => ?_, fun x hx => ?_, by rw [List.length_map]; exact hl, fun H1 p1 s1 np1 e1 => ?_⟩
    · obtain ⟨y, hy, rfl⟩ := List.mem_map.mp hx
      exact dp_rowP (.of (hrow y hy))
    · obtain ⟨y, hy, rfl⟩ := List.mem_map.mp hx
      exact rowP_lay (hok y hy).1.2
    · rw [distP_rows, List.map_map] at e1
      dsimp only [tNil, tCons, tC]
      have hrow1 : ∀ x ∈ distA zs, H1 x.1 = some (.tup (x.2.map Vl.v)) := fun x hx => s1 _ _ (hrow x (hsub x hx))
      refine srt_rows (zs := distA zs) (fun x : AR => x.1) (fun x : AR => x.2) kf_lk (rowOf H1) (SqL.of e1) hdk (fun x hx => rowOf_at (hrow1 x hx)) (fun x hx => (hok x (hsub x hx)).1) (fun x hx H2 R s2 hR => ?_) (fun zs' H' p s' np pz hsr e => ?_)
      · exact ⟨x.1, x.2, rfl, .of (s2 _ _ (hrow1 x hx)), (hok x (hsub x hx)).2, fun H3 u s3 dp => hR _ H3 s3 dp⟩
      · refine q H' p zs' (s1.trans s') (s1.free np) e (fun x hx => hsub x (pz.mem_iff.mp hx)) (by rw [pz.length_eq]; exact distA_len zs) (asc_of hsr ((pz.map _).nodup_iff.mpr hnd)) (fun r => Iff.trans ?_ (hmem r))
        exact (pz.map Prod.snd).mem_iff
end

/-! ### plans of queries: what their operations mean -/
abbrev Row := List Vl
abbrev Asc (l : List Row) : Prop := l.Pairwise fun x y => rlt x y = true
theorem rlt_irr (z : Row) : rlt z z = false := by
  cases e : rlt z z with
  | false => rfl
  | true => exact absurd (rlt_asym _ _ e) (by rw [e]; simp)
theorem rlt_trans {a b c : Row} (h : rlt a b = true) (g : rlt b c = true) : rlt a c = true := by
  cases e : rlt a c with
  | true => rfl
  | false =>
    have h1 := rlt_tr c a b e (rlt_asym _ _ g |> fun _ => ?_)
    · rw [rlt_asym _ _ g |> fun _ => h1] at g
      cases g
    · exact rlt_asym _ _ h
/-- put in its place, once -/
def ins (r : Row) : List Row → List Row
  | [] => [r]
  | x :: xs => if r = x then x :: xs else if rlt r x = true then r :: x :: xs else x :: ins r xs
def ord (l : List Row) : List Row := l.foldr ins []
theorem ins_mem (r : Row) : ∀ (l : List Row) (x : Row), x ∈ ins r l ↔ x = r ∨ x ∈ l
  | [], x => by simp [ins]
  | y :: l, x => by
    unfold ins
    by_cases e : r = y
    · rw [if_pos e, e, List.mem_cons]
      exact ⟨.inr, fun z => z.elim .inl id⟩
    · rw [if_neg e]
      by_cases g : rlt r y = true
      · rw [if_pos g, List.mem_cons]
      · rw [if_neg g, List.mem_cons, ins_mem r l x, List.mem_cons]
        constructor
        · rintro (h | h | h)
          · exact .inr (.inl h)
          · exact .inl h
          · exact .inr (.inr h)
        · rintro (h | h | h)
          · exact .inr (.inl h)
          · exact .inl h
          · exact .inr (.inr h)
theorem ins_asc (r : Row) : ∀ {l : List Row}, Asc l → Asc (ins r l)
  | [], _ => List.pairwise_singleton _ _
  | y :: l, h => by
    have h' := h
    unfold Asc at h'
    rw [List.pairwise_cons] at h'
    unfold ins
    by_cases e : r = y
    · rw [if_pos e]
      exact h
    · rw [if_neg e]
      by_cases g : rlt r y = true
      · rw [if_pos g]
        unfold Asc
        rw [List.pairwise_cons]
        refine ⟨fun x hx => ?_, h⟩
        rcases List.mem_cons.mp hx with rfl | hx
        · exact g
        · exact rlt_trans g (h'.1 x hx)
      · rw [if_neg g]
        unfold Asc
        rw [List.pairwise_cons]
        refine ⟨fun x hx => ?_, ins_asc r h'.2⟩
        rcases (ins_mem r l x).mp hx with rfl | hx
        · cases k : rlt y x with
          | true => rfl
          | false => exact absurd (rlt_tri (by simpa using g) k) e
        · exact h'.1 x hx
theorem ord_asc : ∀ l : List Row, Asc (ord l)
  | [] => .nil
  | x :: l => ins_asc x (ord_asc l)
theorem ord_mem : ∀ (l : List Row) (x : Row), x ∈ ord l ↔ x ∈ l
  | [], x => Iff.rfl
  | y :: l, x => by
    show x ∈ ins y (ord l) ↔ _
    rw [ins_mem, ord_mem l x, List.mem_cons]
theorem ord_of {l m : List Row} (h : Asc l) (g : ∀ x, x ∈ l ↔ x ∈ m) : l = ord m := asc_eq h (ord_asc m) fun x => (g x).trans (ord_mem m x).symm
theorem ord_self {l : List Row} (h : Asc l) : ord l = l := (ord_of h fun _ => Iff.rfl).symm
theorem ins_len (r : Row) : ∀ l : List Row, (ins r l).length ≤ l.length + 1
  | [] => Nat.le_refl _
  | x :: l => by
    unfold ins
    split
    · rw [List.length_cons]; omega
    · split
      · exact Nat.le_refl _
      · have := ins_len r l
        rw [List.length_cons, List.length_cons]
        omega
theorem ord_len : ∀ l : List Row, (ord l).length ≤ l.length
  | [] => Nat.le_refl _
  | x :: l => by
    have h1 := ins_len x (ord l)
    have h2 := ord_len l
    show (ins x (ord l)).length ≤ _
    rw [List.length_cons]
    omega
theorem asc_nodup {l : List Row} (h : Asc l) : l.Nodup := h.imp fun {x y} h e => by
  subst e
  rw [rlt_irr] at h
  cases h
theorem rlt_app (a : Row) (b c : Row) : rlt (a ++ b) (a ++ c) = rlt b c := by
  induction a with
  | nil => rfl
  | cons x a ih =>
    show (if x = x then rlt (a ++ b) (a ++ c) else bf x x) = _
    rw [if_pos rfl, ih]
theorem rlt_appL : ∀ {a a' : Row} (b c : Row), a.length = a'.length → rlt a a' = true → rlt (a ++ b) (a' ++ c) = true
  | [], [], _, _, _, h => by cases h
  | [], _ :: _, _, _, h, _ => by cases h
  | _ :: _, [], _, _, h, _ => by cases h
  | x :: a, y :: a', b, c, hl, h => by
    show (if x = y then rlt (a ++ b) (a' ++ c) else bf x y) = true
    have h : (if x = y then rlt a a' else bf x y) = true := h
    by_cases e : x = y
    · rw [if_pos e] at h ⊢
      exact rlt_appL b c (Nat.succ.inj hl) h
    · rw [if_neg e] at h ⊢
      exact h
/-- each once -/
def distG {α : Type} [DecidableEq α] (l : List α) : List α := l.foldl (fun a x => if x ∈ a then a else a ++ [x]) []
theorem distG_snoc {α : Type} [DecidableEq α] (l : List α) (x : α) : distG (l ++ [x]) = if x ∈ distG l then distG l else distG l ++ [x] := by
  unfold distG
  rw [List.foldl_append]
  rfl
theorem distG_mem {α : Type} [DecidableEq α] (l : List α) : ∀ x, x ∈ distG l ↔ x ∈ l := by
  have go : ∀ (l a : List α) (x : α), x ∈ l.foldl (fun a x => if x ∈ a then a else a ++ [x]) a ↔ x ∈ a ∨ x ∈ l := by
    intro l
    induction l with
    | nil => exact fun a x => ⟨.inl, fun h => h.elim id (fun z => by cases z)⟩
    | cons y l ih =>
      intro a x
      rw [List.foldl_cons, ih, List.mem_cons]
      by_cases h : y ∈ a
      · rw [if_pos h]
        exact ⟨fun z => z.imp id .inr, fun z => z.elim .inl fun z => z.elim (fun e => .inl (e ▸ h)) .inr⟩
      · rw [if_neg h, List.mem_append, List.mem_singleton]
        exact or_assoc
  exact fun x => (go l [] x).trans ⟨fun h => h.elim (fun z => by cases z) id, .inr⟩
theorem distG_nodup {α : Type} [DecidableEq α] (l : List α) : (distG l).Nodup := by
  have go : ∀ (l a : List α), a.Nodup → (l.foldl (fun a x => if x ∈ a then a else a ++ [x]) a).Nodup := by
    intro l
    induction l with
    | nil => exact fun a h => h
    | cons y l ih =>
      intro a h
      rw [List.foldl_cons]
      by_cases g : y ∈ a
      · rw [if_pos g]
        exact ih a h
      · rw [if_neg g]
        refine ih _ (List.nodup_append.mpr ⟨h, List.pairwise_singleton _ _, fun x hx z hz e => ?_⟩)
        rw [List.mem_singleton.mp hz] at e
        exact g (e ▸ hx)
  exact go l [] List.nodup_nil
theorem distG_len {α : Type} [DecidableEq α] (l : List α) : (distG l).length ≤ l.length := by
  have go : ∀ (l a : List α), (l.foldl (fun a x => if x ∈ a then a else a ++ [x]) a).length ≤ a.length + l.length := by
    intro l
    induction l with
    | nil => exact fun a => Nat.le_refl _
    | cons y l ih =>
      intro a
      rw [List.foldl_cons, List.length_cons]
      by_cases h : y ∈ a
      · rw [if_pos h]
        have := ih a
        omega
      · rw [if_neg h]
        have := ih (a ++ [y])
        rw [List.length_append, List.length_singleton] at this
        omega
  have := go l []
  simpa [distG] using this
theorem distA_rows (l : List AR) : (distA l).map Prod.snd = distG (l.map Prod.snd) := by
  have go : ∀ (l a : List AR), (l.foldl (fun a x => if x.2 ∈ a.map Prod.snd then a else a ++ [x]) a).map Prod.snd = (l.map Prod.snd).foldl (fun a x => if x ∈ a then a else a ++ [x]) (a.map Prod.snd) := by
    intro l
    induction l with
    | nil => exact fun a => rfl
    | cons y l ih =>
      intro a
      rw [List.foldl_cons, List.map_cons, List.foldl_cons]
      by_cases h : y.2 ∈ a.map Prod.snd
      · rw [if_pos h, if_pos h]
        exact ih a
      · rw [if_neg h, if_neg h]
        have := ih (a ++ [y])
        rw [List.map_append] at this
        exact this
  unfold distA distG
  rw [go l [], List.map_nil]
  refine congrArg (fun f => List.foldl f [] (l.map Prod.snd)) (funext fun a => funext fun x => ?_)
  by_cases h : x ∈ a
  · rw [if_pos h, if_pos h]
  · rw [if_neg h, if_neg h]
/-! totals of rows do not go by their order -/
theorem ints0_perm {l m : List Vl} (h : l.Perm m) : (ints0 l).Perm (ints0 m) := by
  induction h with
  | nil => exact .nil
  | cons x _ ih => cases x with
    | n => exact ih
    | i k => exact ih.cons k
    | s l => exact ih
  | swap x y l => cases x <;> cases y <;> first | exact .refl _ | exact .swap _ _ _
  | trans _ _ i1 i2 => exact i1.trans i2
theorem sum_perm {l m : List Int} (h : l.Perm m) : l.sum = m.sum := by
  induction h with
  | nil => rfl
  | cons x _ ih => rw [List.sum_cons, List.sum_cons, ih]
  | swap x y l => rw [List.sum_cons, List.sum_cons, List.sum_cons, List.sum_cons]; omega
  | trans _ _ i1 i2 => exact i1.trans i2
theorem mn_perm {l m : List Vl} (h : l.Perm m) : mn l = mn m := by
  have e : (fun y => l.all fun z => !bf z y) = fun y => m.all fun z => !bf z y := funext fun y => by
    rw [Bool.eq_iff_iff, List.all_eq_true, List.all_eq_true]
    exact ⟨fun g x hx => g x (h.mem_iff.mpr hx), fun g x hx => g x (h.mem_iff.mp hx)⟩
  cases e1 : l.find? fun y => l.all fun z => !bf z y with
  | some y =>
    have h1 := List.mem_of_find?_eq_some e1
    have h2 := List.find?_some (p := fun y => l.all fun z => !bf z y) e1
    have h3 := List.all_eq_true.mp h2
    have : mn l = y := by unfold mn; rw [e1]; rfl
    rw [this]
    exact (mn_eq (h.mem_iff.mp h1) fun z hz => by have := h3 z (h.mem_iff.mpr hz); simpa using this).symm
  | none =>
    have g1 : mn l = .n := by unfold mn; rw [e1]; rfl
    have e2 : m.find? (fun y => m.all fun z => !bf z y) = none := by
      rw [List.find?_eq_none] at e1 ⊢
      intro x hx
      have := e1 x (h.mem_iff.mpr hx)
      rw [congrFun e x] at this
      exact this
    have g2 : mn m = .n := by unfold mn; rw [e2]; rfl
    rw [g1, g2]
theorem mx_perm {l m : List Vl} (h : l.Perm m) : mx l = mx m := by
  have e : (fun y => l.all fun z => !bf y z) = fun y => m.all fun z => !bf y z := funext fun y => by
    rw [Bool.eq_iff_iff, List.all_eq_true, List.all_eq_true]
    exact ⟨fun g x hx => g x (h.mem_iff.mpr hx), fun g x hx => g x (h.mem_iff.mp hx)⟩
  cases e1 : l.find? fun y => l.all fun z => !bf y z with
  | some y =>
    have h1 := List.mem_of_find?_eq_some e1
    have h2 := List.find?_some (p := fun y => l.all fun z => !bf y z) e1
    have h3 := List.all_eq_true.mp h2
    have : mx l = y := by unfold mx; rw [e1]; rfl
    rw [this]
    exact (mx_eq (h.mem_iff.mp h1) fun z hz => by have := h3 z (h.mem_iff.mpr hz); simpa using this).symm
  | none =>
    have g1 : mx l = .n := by unfold mx; rw [e1]; rfl
    have e2 : m.find? (fun y => m.all fun z => !bf y z) = none := by
      rw [List.find?_eq_none] at e1 ⊢
      intro x hx
      have := e1 x (h.mem_iff.mpr hx)
      rw [congrFun e x] at this
      exact this
    have g2 : mx m = .n := by unfold mx; rw [e2]; rfl
    rw [g1, g2]
theorem dist_perm {l m : List Vl} (h : l.Perm m) : (dist l).length = (dist m).length := by
  have n1 : (dist l).Nodup := distG_nodup l
  have n2 : (dist m).Nodup := distG_nodup m
  have a := List.Nodup.length_le_of_subset (l₁ := dist l) (l₂ := dist m) n1 fun x hx => (mem_dist m x).mpr (h.mem_iff.mp ((mem_dist l x).mp hx))
  have b := List.Nodup.length_le_of_subset (l₁ := dist m) (l₂ := dist l) n2 fun x hx => (mem_dist l x).mpr (h.mem_iff.mpr ((mem_dist m x).mp hx))
  omega
theorem Fm.ev_perm {l m : List Row} (h : l.Perm m) (t : Fm) : t.ev l = t.ev m := by
  cases t with
  | cnt => show Vl.i _ = Vl.i _; rw [h.length_eq]
  | ex o e =>
    have p : (kn0 (l.map fun r => e.ev r)).Perm (kn0 (m.map fun r => e.ev r)) := (h.map _).filter _
    show o.ev _ = o.ev _
    generalize kn0 (l.map fun r => e.ev r) = a at p
    generalize kn0 (m.map fun r => e.ev r) = b at p
    cases o with
    | dis => show Vl.i _ = Vl.i _; rw [dist_perm p]
    | sum =>
      have q := ints0_perm p
      show (if ints0 a = [] then _ else _) = (if ints0 b = [] then _ else _)
      by_cases e : ints0 a = []
      · rw [if_pos e, if_pos (by rw [e] at q; exact List.nil_perm.mp q)]
      · rw [if_neg e, if_neg (fun z => e (by rw [z] at q; exact List.perm_nil.mp q))]
        rw [sum_perm q]
    | lea => exact mn_perm p
    | gre => exact mx_perm p

/-! ### the operations of plans -/
inductive Op where
  | tab (i : Nat)
  | stp (i : Nat)
  | fil (e : Ep) (q : Nat)
  | map (es : List Ep) (q : Nat)
  | joi (e : Ep) (q r : Nat)
  | uni (q r : Nat)
  | min (q r : Nat)
  | ant (e : Ep) (q r : Nat)
  | grp (ks : List Ep) (ts : List Fm) (q : Nat)
def nI (n : Nat) : PyData := .int ((n : Nat) : Int)
def Op.wd : Op → String
  | tab _ => "table"
  | stp _ => "step"
  | fil _ _ => "filter"
  | map _ _ => "map"
  | joi _ _ _ => "join"
  | uni _ _ => "union"
  | min _ _ => "minus"
  | ant _ _ _ => "anti"
  | grp _ _ _ => "group"
def Op.as : Op → List PyData
  | tab i => [nI i]
  | stp i => [nI i]
  | fil e q => [e.d, nI q]
  | map es q => [.list (es.map Ep.d), nI q]
  | joi e q r => [e.d, nI q, nI r]
  | uni q r => [nI q, nI r]
  | min q r => [nI q, nI r]
  | ant e q r => [e.d, nI q, nI r]
  | grp ks ts q => [.list (ks.map Ep.d), .list (ts.map Fm.d), nI q]
def Op.d (o : Op) : PyData := .tuple (.str (Str.ofString o.wd) :: o.as)
def keyR (ks : List Ep) (r : Row) : Row := ks.map fun e => e.ev r
def keysR (ks : List Ep) (rs : List Row) : List Row := if ks = [] then [[]] else distG (rs.map (keyR ks))
def grpR (ks : List Ep) (ts : List Fm) (rs : List Row) : List Row := (keysR ks rs).map fun k => k ++ ts.map fun t => t.ev (rs.filter fun r => decide (keyR ks r = k))
def mtch (e : Ep) (a b : Row) : Bool := (e.ev (a ++ b)).tr
def opR (T S F : List (List Row)) : Op → List Row
  | .tab i => T.getD i []
  | .stp i => S.getD i []
  | .fil e q => (F.getD q []).filter fun r => (e.ev r).tr
  | .map es q => (F.getD q []).map (keyR es)
  | .joi e q r => (F.getD q []).flatMap fun a => ((F.getD r []).filter (mtch e a)).map (a ++ ·)
  | .uni q r => F.getD q [] ++ F.getD r []
  | .min q r => (F.getD q []).filter fun a => !decide (a ∈ F.getD r [])
  | .ant e q r => (F.getD q []).filter fun a => !(F.getD r []).any (mtch e a)
  | .grp ks ts q => grpR ks ts (F.getD q [])
def runs (T S : List (List Row)) (ops : List Op) : List (List Row) := ops.foldl (fun F o => F ++ [ord (opR T S F o)]) []
theorem runs_snoc (T S : List (List Row)) (ops : List Op) (o : Op) : runs T S (ops ++ [o]) = runs T S ops ++ [ord (opR T S (runs T S ops) o)] := by
  unfold runs
  rw [List.foldl_append]
  rfl
theorem runs_len (T S : List (List Row)) (ops : List Op) : (runs T S ops).length = ops.length := by
  have go : ∀ (ops : List Op) (F : List (List Row)), (ops.foldl (fun F o => F ++ [ord (opR T S F o)]) F).length = F.length + ops.length := by
    intro ops
    induction ops with
    | nil => exact fun F => rfl
    | cons o ops ih =>
      intro F
      rw [List.foldl_cons, ih, List.length_append, List.length_singleton, List.length_cons]
      omega
  have := go ops []
  rw [List.length_nil, Nat.zero_add] at this
  exact this
/-- rows of one width, of values that are what values are -/
def RsOk (w : Nat) (rs : List Row) : Prop := ∀ r ∈ rs, r.length = w ∧ ∀ v ∈ r, v.ok
/-- an operation over operands of the widths ws gives rows of the width w -/
def Op.okW (tw sw ws : List Nat) (w : Nat) : Op → Prop
  | .tab i => tw[i]? = some w
  | .stp i => sw[i]? = some w
  | .fil e q => ws[q]? = some w ∧ e.ok w ∧ e.ht < 5
  | .map es q => es.length = w ∧ ∃ v, ws[q]? = some v ∧ ∀ e ∈ es, e.ok v ∧ e.ht < 5
  | .joi e q r => ∃ a b, ws[q]? = some a ∧ ws[r]? = some b ∧ w = a + b ∧ e.ok (a + b) ∧ e.ht < 5
  | .uni q r => ws[q]? = some w ∧ ws[r]? = some w
  | .min q r => ws[q]? = some w ∧ ws[r]? = some w
  | .ant e q r => ws[q]? = some w ∧ ∃ b, ws[r]? = some b ∧ e.ok (w + b) ∧ e.ht < 5
  | .grp ks ts q => w = ks.length + ts.length ∧ ∃ v, ws[q]? = some v ∧ (∀ e ∈ ks, e.ok v ∧ e.ht < 5) ∧ ∀ t ∈ ts, t.ok v
/-- lists of rows of widths -/
def FsOk (ws : List Nat) (F : List (List Row)) : Prop := F.length = ws.length ∧ ∀ (i : Nat) (rs : List Row) (w : Nat), F[i]? = some rs → ws[i]? = some w → RsOk w rs
theorem FsOk.at {ws : List Nat} {F : List (List Row)} (h : FsOk ws F) {i w : Nat} (e : ws[i]? = some w) : F[i]? = some (F.getD i []) ∧ RsOk w (F.getD i []) := by
  have hi : i < F.length := by rw [h.1]; exact (List.getElem?_eq_some_iff.mp e).1
  have e1 : F[i]? = some (F.getD i []) := by rw [List.getD_eq_getElem?_getD, List.getElem?_eq_getElem hi]; rfl
  exact ⟨e1, h.2 i _ w e1 e⟩
theorem kn0_mem {l : List Vl} {v : Vl} (h : v ∈ kn0 l) : v ∈ l := (List.mem_filter.mp h).1
theorem mn_ok {l : List Vl} (h : ∀ v ∈ l, v.ok) : (mn l).ok := by
  unfold mn
  cases e : l.find? fun y => l.all fun z => !bf z y with
  | none => trivial
  | some y => exact h y (List.mem_of_find?_eq_some e)
theorem mx_ok {l : List Vl} (h : ∀ v ∈ l, v.ok) : (mx l).ok := by
  unfold mx
  cases e : l.find? fun y => l.all fun z => !bf y z with
  | none => trivial
  | some y => exact h y (List.mem_of_find?_eq_some e)
theorem cnt_ok {n : Nat} (h : n ≤ 1000000) : (Vl.i ((n : Nat) : Int)).ok := by
  show -BND ≤ ((n : Nat) : Int) ∧ ((n : Nat) : Int) ≤ BND
  unfold BND
  omega
theorem Fm.ev_ok {rs : List Row} {n : Nat} (h : RsOk n rs) (hl : rs.length ≤ 1000000) {t : Fm} (ht : t.ok n) : (t.ev rs).ok := by
  cases t with
  | cnt => exact cnt_ok hl
  | ex o e =>
    have hv : ∀ v ∈ kn0 (rs.map fun r => e.ev r), v.ok := fun v hv => by
      obtain ⟨r, hr, rfl⟩ := List.mem_map.mp (kn0_mem hv)
      exact Ep.ev_ok (h r hr).2 (by rw [(h r hr).1]; exact ht.1)
    have hk : (kn0 (rs.map fun r => e.ev r)).length ≤ 1000000 := Nat.le_trans (List.length_filter_le _ _) (by rw [List.length_map]; exact hl)
    show (o.ev _).ok
    cases o with
    | dis => exact cnt_ok (Nat.le_trans (dist_len _) hk)
    | sum =>
      show (if _ then _ else _ : Vl).ok
      split
      · trivial
      · exact bnd_ok _
    | lea => exact mn_ok hv
    | gre => exact mx_ok hv
theorem keyR_ok {ks : List Ep} {r : Row} {v : Nat} (hr : r.length = v) (ho : ∀ x ∈ r, x.ok) (hk : ∀ e ∈ ks, e.ok v ∧ e.ht < 5) : ∀ x ∈ keyR ks r, x.ok := fun x hx => by
  obtain ⟨e, he, rfl⟩ := List.mem_map.mp hx
  exact Ep.ev_ok ho (by rw [hr]; exact (hk e he).1)
theorem keysR_mem {ks : List Ep} {rs : List Row} {k : Row} (h : k ∈ keysR ks rs) : (ks = [] ∧ k = []) ∨ ∃ r ∈ rs, keyR ks r = k := by
  unfold keysR at h
  by_cases e : ks = []
  · rw [if_pos e] at h
    exact .inl ⟨e, List.mem_singleton.mp h⟩
  · rw [if_neg e, distG_mem] at h
    obtain ⟨r, hr, er⟩ := List.mem_map.mp h
    exact .inr ⟨r, hr, er⟩
theorem keysR_len {ks : List Ep} {rs : List Row} : (keysR ks rs).length ≤ max 1 rs.length := by
  unfold keysR
  split
  · exact Nat.le_max_left _ _
  · have := distG_len (rs.map (keyR ks))
    rw [List.length_map] at this
    omega
theorem opR_ok {tw sw ws : List Nat} {T S F : List (List Row)} (hT : FsOk tw T) (hS : FsOk sw S) (hF : FsOk ws F) (hl : ∀ rs ∈ F, rs.length ≤ 1000000) {o : Op} {w : Nat} (h : o.okW tw sw ws w) : RsOk w (opR T S F o) := by
  cases o with
  | tab i => exact (hT.at h).2
  | stp i => exact (hS.at h).2
  | fil e q => exact fun r hr => (hF.at h.1).2 r (List.mem_filter.mp hr).1
  | map es q =>
    obtain ⟨h1, v, h2, h3⟩ := h
    intro r hr
    obtain ⟨x, hx, rfl⟩ := List.mem_map.mp hr
    have := (hF.at h2).2 x hx
    exact ⟨by unfold keyR; rw [List.length_map]; exact h1, keyR_ok this.1 this.2 h3⟩
  | joi e q r =>
    obtain ⟨a, b, h1, h2, h3, h4⟩ := h
    intro x hx
    obtain ⟨y, hy, hx⟩ := List.mem_flatMap.mp hx
    obtain ⟨z, hz, rfl⟩ := List.mem_map.mp hx
    have g1 := (hF.at h1).2 y hy
    have g2 := (hF.at h2).2 z (List.mem_filter.mp hz).1
    refine ⟨by rw [List.length_append, g1.1, g2.1, h3], fun v hv => ?_⟩
    rcases List.mem_append.mp hv with hv | hv
    · exact g1.2 v hv
    · exact g2.2 v hv
  | uni q r =>
    intro x hx
    rcases List.mem_append.mp hx with hx | hx
    · exact (hF.at h.1).2 x hx
    · exact (hF.at h.2).2 x hx
  | min q r => exact fun r hr => (hF.at h.1).2 r (List.mem_filter.mp hr).1
  | ant e q r => exact fun r hr => (hF.at h.1).2 r (List.mem_filter.mp hr).1
  | grp ks ts q =>
    obtain ⟨h1, v, h2, h3, h4⟩ := h
    obtain ⟨g1, g2⟩ := hF.at h2
    have gl := hl _ (List.mem_of_getElem? g1)
    intro x hx
    obtain ⟨k, hk, rfl⟩ := List.mem_map.mp hx
    have kk : k.length = ks.length ∧ ∀ v ∈ k, v.ok := by
      rcases keysR_mem hk with ⟨e1, e2⟩ | ⟨r, hr, e⟩
      · rw [e1, e2]
        exact ⟨rfl, fun _ h => by cases h⟩
      · rw [← e]
        exact ⟨by unfold keyR; rw [List.length_map], keyR_ok (g2 r hr).1 (g2 r hr).2 h3⟩
    refine ⟨by rw [List.length_append, List.length_map, kk.1, h1], fun v hv => ?_⟩
    rcases List.mem_append.mp hv with hv | hv
    · exact kk.2 v hv
    · obtain ⟨t, ht, rfl⟩ := List.mem_map.mp hv
      exact Fm.ev_ok (fun r hr => g2 r (List.mem_filter.mp hr).1) (Nat.le_trans (List.length_filter_le _ _) gl) (h4 t ht)
/-! what the program returns without putting it in order is in order -/
theorem asc_filter {l : List Row} (h : Asc l) (p : Row → Bool) : Asc (l.filter p) := List.Pairwise.sublist List.filter_sublist h
theorem asc_join {A B : List Row} {n : Nat} (hA : Asc A) (hB : Asc B) (hn : ∀ a ∈ A, a.length = n) (f : Row → Row → Bool) : Asc (A.flatMap fun a => (B.filter (f a)).map (a ++ ·)) := by
  unfold Asc
  rw [List.pairwise_flatMap]
  refine ⟨fun a _ => ?_, ?_⟩
  · rw [List.pairwise_map]
    exact (asc_filter hB _).imp fun {x y} h => by rw [rlt_app]; exact h
  · refine List.Pairwise.imp_of_mem (fun {a b} ha hb h => ?_) hA
    intro x hx y hy
    obtain ⟨x', _, rfl⟩ := List.mem_map.mp hx
    obtain ⟨y', _, rfl⟩ := List.mem_map.mp hy
    exact rlt_appL _ _ ((hn a ha).trans (hn b hb).symm) h
/-! ### lists of rows in the heap -/
/-- rows in a list -/
def RL (H : Hp) (p : Addr) (rs : List Row) : Prop := ∃ zs : List AR, H p = some (.lst (zs.map fun x => V.ref x.1)) ∧ (∀ x ∈ zs, H x.1 = some (.tup (x.2.map Vl.v))) ∧ zs.map Prod.snd = rs
theorem RL.same {H H' : Hp} {p : Addr} {rs : List Row} (e : Same H H') (h : RL H p rs) : RL H' p rs := let ⟨zs, h1, h2, h3⟩ := h; ⟨zs, e _ _ h1, fun x hx => e _ _ (h2 x hx), h3⟩
/-- lists of rows in a list -/
def FL (H : Hp) (p : Addr) (F : List (List Row)) : Prop := ∃ as : List Addr, H p = some (.lst (as.map V.ref)) ∧ as.length = F.length ∧ ∀ (i : Nat) (a : Addr) (rs : List Row), as[i]? = some a → F[i]? = some rs → RL H a rs
theorem FL.same {H H' : Hp} {p : Addr} {F : List (List Row)} (e : Same H H') (h : FL H p F) : FL H' p F := let ⟨as, h1, h2, h3⟩ := h; ⟨as, e _ _ h1, h2, fun i a rs g1 g2 => (h3 i a rs g1 g2).same e⟩
theorem FL.at {H : Hp} {p : Addr} {F : List (List Row)} (h : FL H p F) {i : Nat} {rs : List Row} (e : F[i]? = some rs) : ∃ xs a, H p = some (.lst xs) ∧ atI xs ((i : Nat) : Int) = some (.ref a) ∧ RL H a rs := by
  obtain ⟨as, h1, h2, h3⟩ := h
  have hi : i < as.length := by rw [h2]; exact (List.getElem?_eq_some_iff.mp e).1
  exact ⟨_, as[i], h1, atI_nat (by rw [List.getElem?_map, List.getElem?_eq_getElem hi]; rfl), h3 i _ rs (List.getElem?_eq_getElem hi) e⟩

/-! ### tuples stay -/
def Tk (H H' : Hp) : Prop := ∀ b ys, H b = some (HO.tup ys) → H' b = some (HO.tup ys)
theorem Tk.same {H H' : Hp} (e : Same H H') : Tk H H' := fun b ys h => e b _ h
theorem Tk.trans {H H1 H2 : Hp} (a : Tk H H1) (b : Tk H1 H2) : Tk H H2 := fun c ys h => b c ys (a c ys h)
theorem Tk.fd {d c : Addr} {H H' : Hp} (dr : Dr H d c) (f : Fd d H H') : Tk H H' := fun b ys h => by
  obtain ⟨zs, hz⟩ := dr.lst
  exact f b _ (ne_of h hz (fun z => nomatch z)) h
theorem Tk.upd {H : Hp} {p : Addr} {o : HO} (n : ∀ ys, H p ≠ some (.tup ys)) : Tk H (upd H p o) := fun b ys h => by
  rw [upd_ne (fun z => ?_)]
  · exact h
  · subst z
    exact n ys h

theorem putR_keys (ks : List RE) (r : List Vl) (b : Addr) (v : V) : (putR ks r b v).map Prod.fst = if r ∈ ks.map Prod.fst then ks.map Prod.fst else ks.map Prod.fst ++ [r] := by
  have e : (valR ks r).isSome = true ↔ r ∈ ks.map Prod.fst := by
    cases e : valR ks r with
    | none =>
      refine ⟨(fun z => by cases z), fun z => ?_⟩
      obtain ⟨x, hx, ex⟩ := List.mem_map.mp z
      exact absurd ex (valR_none e x hx)
    | some v =>
      obtain ⟨a, hm⟩ := valR_some e
      exact ⟨fun _ => List.mem_map.mpr ⟨_, hm, rfl⟩, fun _ => rfl⟩
  unfold putR
  by_cases h : r ∈ ks.map Prod.fst
  · rw [if_pos (e.mpr h), if_pos h, List.map_map]
    refine List.map_congr_left fun x _ => ?_
    show (if x.1 = r then (x.1, x.2.1, v) else x).1 = x.1
    split <;> rfl
  · rw [if_neg (fun z => h (e.mp z)), if_neg h, List.map_append]
    rfl
theorem putR_mem {ks : List RE} {r : List Vl} {b : Addr} {v : V} : ∀ x ∈ putR ks r b v, (x.1 = r ∧ x.2.2 = v) ∨ (x.1 ≠ r ∧ x ∈ ks) := fun x hx => by
  unfold putR at hx
  split at hx
  · obtain ⟨y, hy, rfl⟩ := List.mem_map.mp hx
    by_cases e : y.1 = r
    · rw [if_pos e]
      exact .inl ⟨e, rfl⟩
    · rw [if_neg e]
      exact .inr ⟨e, hy⟩
  · rename_i hn
    rcases List.mem_append.mp hx with hx | hx
    · refine .inr ⟨fun e => hn ?_, hx⟩
      cases ev : valR ks r with
      | none => exact absurd e (valR_none ev x hx)
      | some _ => rfl
    · rw [List.mem_singleton.mp hx]
      exact .inl ⟨rfl, rfl⟩

/-! ### the program's operations -/
def sp_ino (K : PySem.W.Frag) : Sp := fun vs H Q _ => ∃ (a : Addr) (rs : List Row), vs = [.ref a] ∧ RL H a rs ∧ (∀ r ∈ rs, rok r ∧ r.length ≤ 1000) ∧ rs.length ≤ 1000000 ∧ ∀ (H' : Hp) (p : Addr), Same H H' → H p = none → RL H' p (ord rs) → Q (.ref p) H'
def sp_vof (K : PySem.W.Frag) : Sp := fun vs H Q _ => ∃ (x : V) (a : Addr) (es : List Ep) (r : Row), vs = [x, .ref a] ∧ Dp K H x (.list (es.map Ep.d)) ∧ H a = some (.tup (r.map Vl.v)) ∧ (∀ e ∈ es, e.ok r.length ∧ e.ht < 5) ∧ (∀ v ∈ r, v.ok) ∧ es.length ≤ 1000 ∧ ∀ (H' : Hp) (p : Addr), Same H H' → H p = none → H' p = some (.tup ((keyR es r).map Vl.v)) → Q (.ref p) H'
def sp_mat (K : PySem.W.Frag) : Sp := fun vs H Q _ => ∃ (x : V) (a b : Addr) (e : Ep) (r q : Row), vs = [x, .ref a, .ref b] ∧ Dp K H x e.d ∧ H a = some (.tup (r.map Vl.v)) ∧ H b = some (.tup (q.map Vl.v)) ∧ e.ok (r.length + q.length) ∧ e.ht < 5 ∧ (∀ v ∈ r, v.ok) ∧ (∀ v ∈ q, v.ok) ∧ r.length ≤ 1000 ∧ q.length ≤ 1000 ∧ ∀ H', Same H H' → Q (.bl (mtch e r q)) H'
def sp_many (K : PySem.W.Frag) : Sp := fun vs H Q _ => ∃ (x : V) (a b : Addr) (e : Ep) (r : Row) (qs : List Row) (n : Nat), vs = [x, .ref a, .ref b] ∧ Dp K H x e.d ∧ H a = some (.tup (r.map Vl.v)) ∧ RL H b qs ∧ e.ok (r.length + n) ∧ e.ht < 5 ∧ (∀ v ∈ r, v.ok) ∧ RsOk n qs ∧ r.length ≤ 1000 ∧ n ≤ 1000 ∧ ∀ H', Same H H' → Q (.bl (qs.any (mtch e r))) H'
def sp_tof (K : PySem.W.Frag) : Sp := fun vs H Q _ => ∃ (x : V) (a : Addr) (ts : List Fm) (rs : List Row) (n : Nat), vs = [x, .ref a] ∧ Dp K H x (.list (ts.map Fm.d)) ∧ RL H a rs ∧ (∀ t ∈ ts, t.ok n) ∧ RsOk n rs ∧ rs.length ≤ 1000 ∧ ts.length ≤ 1000 ∧ ∀ (H' : Hp) (p : Addr), Same H H' → H p = none → H' p = some (.tup ((ts.map fun t => t.ev rs).map Vl.v)) → Q (.ref p) H'
theorem ep_only' (e : Ep) : tupOnly e.d = true := ep_only e
theorem rl_rws {K : PySem.W.Frag} {H : Hp} {a : Addr} {zs : List AR} (h1 : H a = some (.lst (zs.map fun x => V.ref x.1))) (h2 : ∀ x ∈ zs, H x.1 = some (.tup (x.2.map Vl.v))) : Rws K H a (zs.map Prod.fst) (zs.map Prod.snd) := by
  refine ⟨.of (by rw [List.map_map]; exact h1), by rw [List.length_map, List.length_map], fun i b r g1 g2 => ?_⟩
  rw [List.getElem?_map] at g1 g2
  obtain ⟨x, hx, rfl⟩ := Option.map_eq_some_iff.mp g1
  obtain ⟨y, hy, rfl⟩ := Option.map_eq_some_iff.mp g2
  obtain rfl : x = y := Option.some.inj (hx.symm.trans hy)
  exact .of (h2 x (List.mem_of_getElem? hx))
theorem dpl_get {K : PySem.W.Frag} {H : Hp} {x : V} {ds : List PyData} (h : Dp K H x (.list ds)) : ∃ a xs, x = .ref a ∧ SqL K H a xs ∧ DpAll K H xs ds := by
  cases h with
  | lst h1 h2 => exact ⟨_, _, rfl, h1, h2⟩
section
variable {P : Program} {w : World} {K : PySem.W.Frag} {mg : Str → Option Value} {base : Heap}
theorem ok_ino {f : Addr} {fd : FuncData} (F : Fun K "in_order" "in_order" s_in_order f fd) (M : Mg mg) (c_row_key : Cl P w K mg base 2 "row_key" (sp_rk K Vl.d)) : FnOk P w K mg base CX0 5 f fd ["rows"] (sp_ino K) := by
  obtain ⟨fk, hm_row_key, hdk⟩ := c_row_key.hd
  refine F.ok sc_in_order (fun vs H Q E h => ?_) (fun cdv A outer s H vs Q E hr h => ?_)
  · obtain ⟨a, rs, rfl, _⟩ := h
    rfl
  · obtain ⟨a, rs, rfl, ⟨zs, hS, hrow, rfl⟩, hok, hl, q⟩ := h
    refine ⟨_, (pss_cons (ps_setDcR P w (i := 1) (hu_of hr) (own := [("row", 2)]) (g := gName 2) (tt := tYes) rfl sc_in_order.nd rfl rfl (sw_trueD rfl rfl rfl (by decide +kernel)) (pi_list (pv 0)) (blkOk_by (N := N_in_order) (sc := defScope s_in_order) (by decide +kernel)) (fun _ _ _ _ _ => (pg_name (i := 2) sc_in_order.nd rfl (.inl rfl))) (fun _ _ _ _ _ => pts_nil) (fun _ _ _ _ _ => (pv 2)) (fun _ _ _ _ _ => pe_bl))
      (pss_one (ps_ret (pe_callBK (cr_sortFRK (P := P) (w := w) (K := K) (mg := mg) (base := base) (k := 2) hr (by first | decide | omega)) (by rfl) M.sorted (by decide +kernel) (pa_cons (pv 1) pa_nil) (pk_cons (C8.pe_gc (v := .ref _) (by rfl) ⟨_, hm_row_key, rfl⟩) pk_nil))))), ?_⟩
    refine ⟨_, rfl, a, rfl, ⟨_, .of hS⟩, fun D nD => ?_⟩
    refine dcr_list (K := K) (a := a) (xs := zs.map fun x => V.ref x.1) (fun j Hj => Same H Hj ∧ ∃ ks, Hj D = some (rdO P w D ks) ∧ RowsAt Hj ks ∧ ks.map Prod.fst = distG ((zs.take j).map Prod.snd) ∧ ks.length ≤ j) ⟨same_upd nD, [], upd_same, (fun _ h => by cases h), rfl, Nat.le_refl _⟩ (fun j Hj _ hp => SqL.same hp.1 (.of hS)) (fun j y Hj hy hp => ?_) (fun H1 hp => ?_)
    · obtain ⟨sj, ks, eD, hrw, ek, lk⟩ := hp
      rw [List.getElem?_map] at hy
      obtain ⟨x, hx, rfl⟩ := Option.map_eq_some_iff.mp hy
      have hj : j < zs.length := (List.getElem?_eq_some_iff.mp hx).1
      have hxr := sj _ _ (hrow x (List.mem_of_getElem? hx))
      rw [List.length_map] at hl
      refine ⟨rfl, ?_⟩
      refine ⟨_, rfl, ks, x.2, x.1, rfl, eD, hrw, hxr, Nat.lt_of_le_of_lt (m := 1000000) (by omega) (by decide), fun b o e => ?_, putR ks x.2 x.1 (.bl true), upd_same, ?_, ?_, ?_⟩
      · rw [upd_ne (ne_of_none e nD)]
        exact sj _ _ e
      · exact (hrw.put hxr).same (Tk.upd fun ys z => by rw [eD] at z; cases z)
      · rw [putR_keys, ek, List.take_add_one, hx, List.map_append]
        show _ = distG (_ ++ [x.2])
        rw [distG_snoc]
        by_cases h : x.2 ∈ distG ((zs.take j).map Prod.snd)
        · rw [if_pos h, if_pos h]
        · rw [if_neg h, if_neg h]
      · have := putR_len ks x.2 x.1 (.bl true)
        omega
    · obtain ⟨s1, ks, eD, hrw, ek, lk⟩ := hp
      rw [List.length_map] at ek lk
      rw [List.take_of_length_le (Nat.le_refl _)] at ek
      have hkm : ∀ r, r ∈ ks.map Prod.fst ↔ r ∈ zs.map Prod.snd := fun r => by rw [ek, distG_mem]
      have hko : ∀ x ∈ ks, rok x.1 ∧ x.1.length ≤ 1000 := fun x hx => hok _ ((hkm _).mp (List.mem_map.mpr ⟨x, hx, rfl⟩))
      refine ⟨_, rfl, ?_⟩
      dsimp only [tNil, tCons, tC]
      refine srt_rowsR kf_d (rowOf H1) eD hrw hdk (fun x hx => rowOf_at (hrw x hx)) (fun x hx => (hko x hx).1) (fun x hx H2 R s2 hR => ?_) (fun ks' H' p s' np pk hsr e => ?_)
      · exact ⟨x.2.1, x.1, rfl, .of (s2 _ _ (hrw x hx)), (hko x hx).2, fun H3 u s3 dp => hR _ H3 s3 dp⟩
      · refine q H' p (s1.trans s') (s1.free np) ⟨ks'.map fun x => (x.2.1, x.1), by rw [List.map_map]; exact e, fun y hy => ?_, ?_⟩
        · obtain ⟨x, hx, rfl⟩ := List.mem_map.mp hy
          exact s' _ _ (hrw x (pk.mem_iff.mp hx))
        · rw [List.map_map]
          show ks'.map Prod.fst = _
          refine ord_of (asc_of hsr ((pk.map _).nodup_iff.mpr (by rw [ek]; exact distG_nodup _))) fun r => ?_
          rw [(pk.map Prod.fst).mem_iff]
          exact hkm r
theorem ok_vof {f : Addr} {fd : FuncData} (F : Fun K "values_of" "values_of" s_values_of f fd) (M : Mg mg) (c_evaluate : Cl P w K mg base 7 "evaluate" (sp_eval K 5)) : FnOk P w K mg base CX0 8 f fd ["expressions", "row"] (sp_vof K) := by
  refine F.ok sc_values_of (fun vs H Q E h => ?_) (fun cdv A outer s H vs Q E hr h => ?_)
  · obtain ⟨x, a, es, r, rfl, _⟩ := h
    rfl
  · obtain ⟨x, a, es, r, rfl, dp, ha, hes, hr', hl, q⟩ := h
    obtain ⟨pa, xs, rfl, hpa, dxs⟩ := dpl_get dp
    refine ⟨_, (pss_one (ps_ret (pe_callTy (tupleK K) (by rfl) M.tuple (by decide +kernel) (pa_cons (pe_lc (own := [("expression", 2)]) (g := gName 2) (tt := tYes) rfl sc_values_of.nd (pi_list (pv 0)) (blkOk_by (N := N_values_of) (sc := defScope s_values_of) (by decide +kernel)) (fun _ _ _ _ _ => (pg_name (i := 2) sc_values_of.nd rfl (.inl rfl))) (fun _ _ _ _ _ => pts_nil) (fun _ _ _ _ _ => (pe_u c_evaluate hr (by first | decide | omega) (by rfl) (pa_cons (pv 2) (pa_cons (pv 1) pa_nil))))) pa_nil)))), ?_⟩
    have lxs : xs.length = es.length := by rw [DpAll.len dxs, List.length_map]
    refine ⟨_, rfl, pa, rfl, ⟨_, hpa⟩, fun D nD => ?_⟩
    refine lc_list (K := K) (a := pa) (xs := xs) (fun j Hj => Same H Hj ∧ Hj D = some (.lst ((keyR (es.take j) r).map Vl.v))) ⟨same_upd nD, upd_same⟩ (fun j Hj _ hp => SqL.same hp.1 hpa) (fun j y Hj hy hp => ?_) (fun H1 hp => ?_)
    · obtain ⟨sj, eD⟩ := hp
      have hj : j < es.length := by rw [← lxs]; exact (List.getElem?_eq_some_iff.mp hy).1
      obtain ⟨y', hy', dy⟩ := DpAll.get dxs (show (es.map Ep.d)[j]? = some (es[j]).d by rw [List.getElem?_map, List.getElem?_eq_getElem hj]; rfl)
      obtain rfl : y = y' := Option.some.inj (hy.symm.trans hy')
      have he := hes es[j] (List.getElem_mem hj)
      refine ⟨rfl, ?_⟩
      refine ⟨_, rfl, _, rfl, y, a, es[j], r, rfl, Dp.ext sj _ _ dy, .of (sj _ _ ha), he.1, hr', he.2, fun H' s' => ?_⟩
      refine ⟨_, s' _ _ eD, ?_, fun b o e => ?_, ?_⟩
      · unfold keyR
        rw [List.length_map, List.length_map, List.length_take]
        exact Nat.lt_of_le_of_lt (m := 1000) (by omega) (by decide)
      · rw [upd_ne (ne_of_none e nD)]
        exact s' _ _ (sj _ _ e)
      · unfold keyR
        rw [upd_same, List.take_add_one, List.getElem?_eq_getElem hj, List.map_append, List.map_append]
        rfl
    · obtain ⟨s1, eD⟩ := hp
      rw [lxs, List.take_of_length_le (Nat.le_refl _)] at eD
      exact ⟨D, _, rfl, .inl ⟨.of eD, fun T nT => q _ T (s1.trans (same_upd nT)) (s1.free nT) upd_same⟩⟩
theorem ok_mat {f : Addr} {fd : FuncData} (F : Fun K "matches" "matches" s_matches f fd) (M : Mg mg) (c_evaluate : Cl P w K mg base 7 "evaluate" (sp_eval K 5)) (c_is_true : Cl P w K mg base 1 "is_true" (sp_b1 Vl.tr)) : FnOk P w K mg base CX0 8 f fd ["condition", "first", "second"] (sp_mat K) := by
  refine F.ok sc_matches (fun vs H Q E h => ?_) (fun cdv A outer s H vs Q E hr h => ?_)
  · obtain ⟨x, a, b, e, r, q', rfl, _⟩ := h
    rfl
  · obtain ⟨x, a, b, e, r, q', rfl, dp, ha, hb, hok, hht, hr1, hr2, hl1, hl2, q⟩ := h
    refine ⟨_, (pss_one (ps_ret (pe_u c_is_true hr (by first | decide | omega) (by rfl) (pa_cons (pe_u c_evaluate hr (by first | decide | omega) (by rfl) (pa_cons (pv 0) (pa_cons (pe_op (op_catAK K) (pv 1) (pv 2)) pa_nil))) pa_nil)))), ?_⟩
    have go : ∀ (H1 : Hp) (p : Addr), Same H H1 → H1 p = some (.tup ((r ++ q').map Vl.v)) → sp_eval K 5 [x, .ref p] H1 (fun v H2 => sp_b1 Vl.tr [v] H2 Q E0) E0 := fun H1 p s1 hp =>
      ⟨x, p, e, r ++ q', rfl, Dp.ext s1 _ _ dp, .of hp, by rw [List.length_append]; exact hok, fun v hv => (List.mem_append.mp hv).elim (hr1 v) (hr2 v), hht, fun H2 s2 => ⟨_, rfl, q H2 (s1.trans s2)⟩⟩
    refine ⟨_, rfl, _, rfl, _, rfl, a, b, _, _, rfl, rfl, .of ha, .of hb, ?_, fun en => ?_, fun _ en => ?_, fun _ _ p np => ?_⟩
    · rw [List.length_map, List.length_map]
      exact Nat.le_trans (m := 2000) (by omega) (by decide)
    · have : r = [] := List.map_eq_nil_iff.mp en
      subst this
      exact go H b (fun _ _ h => h) hb
    · have : q' = [] := List.map_eq_nil_iff.mp en
      subst this
      exact go H a (fun _ _ h => h) (by rw [List.append_nil]; exact ha)
    · exact go _ p (same_upd np) (by rw [upd_same, List.map_append])
theorem ok_many {f : Addr} {fd : FuncData} (F : Fun K "matches_any" "matches_any" s_matches_any f fd) (M : Mg mg) (c_matches : Cl P w K mg base 8 "matches" (sp_mat K)) : FnOk P w K mg base CX0 9 f fd ["condition", "first", "rows"] (sp_many K) := by
  refine F.ok sc_matches_any (fun vs H Q E h => ?_) (fun cdv A outer s H vs Q E hr h => ?_)
  · obtain ⟨x, a, b, e, r, qs, n, rfl, _⟩ := h
    rfl
  · obtain ⟨x, a, b, e, r, qs, n, rfl, dp, ha, ⟨zs, hb, hz, rfl⟩, hok, hht, hr1, hqs, hl1, hl2, q⟩ := h
    refine ⟨_, (pss_cons (ps_for PassesOwn.never rfl (pi_list (pv 2)) (pg_name (i := 3) sc_matches_any.nd rfl (.inl rfl)) (pss_one (ps_if (pt_val (pe_u c_matches hr (by first | decide | omega) (by rfl) (pa_cons (pv 0) (pa_cons (pv 1) (pa_cons (pv 3) pa_nil))))) (pss_one (ps_ret pe_bl)) pss_nil)))
      (pss_one (ps_ret pe_bl))), ?_⟩
    refine ⟨_, rfl, b, rfl, ⟨_, .of hb⟩, ?_⟩
    refine for_list (K := K) (a := b) (xs := zs.map fun x => V.ref x.1) (fun j σ Hj => Same H Hj ∧ ((zs.take j).map Prod.snd).any (mtch e r) = false ∧ ∃ z, σ = [some x, some (.ref a), some (.ref b), z]) ⟨fun _ _ h => h, rfl, _, rfl⟩ (fun j σ Hj _ hp => SqL.same hp.1 (.of hb)) (fun j y σ Hj hy hp => ?_) (fun σ Hn hp => ?_)
    · obtain ⟨sj, hn, z, rfl⟩ := hp
      rw [List.getElem?_map] at hy
      obtain ⟨u, hu, rfl⟩ := Option.map_eq_some_iff.mp hy
      have hm := List.mem_of_getElem? hu
      obtain ⟨lu, ou⟩ := hqs u.2 (List.mem_map.mpr ⟨u, hm, rfl⟩)
      refine ⟨_, rfl, _, rfl, _, rfl, x, a, u.1, e, r, u.2, rfl, Dp.ext sj _ _ dp, sj _ _ ha, sj _ _ (hz u hm), by rw [lu]; exact hok, hht, hr1, ou, hl1, by omega, fun H' s' => ⟨_, rfl, ?_⟩⟩
      have etk : ((zs.take (j + 1)).map Prod.snd).any (mtch e r) = mtch e r u.2 := by
        rw [List.take_add_one, hu, List.map_append, List.any_append, hn, Bool.false_or]
        show (mtch e r u.2 || false) = _
        rw [Bool.or_false]
      refine ite2 (fun g => ?_) (fun g => ?_)
      · have : (zs.map Prod.snd).any (mtch e r) = true := List.any_eq_true.mpr ⟨u.2, List.mem_map.mpr ⟨u, hm, rfl⟩, g⟩
        have q := q H' (sj.trans s')
        rw [this] at q
        exact q
      · exact ⟨sj.trans s', by rw [etk]; simpa using g, _, rfl⟩
    · obtain ⟨sn, hn, z, rfl⟩ := hp
      rw [List.length_map, List.take_of_length_le (Nat.le_refl _)] at hn
      have q := q Hn sn
      rw [hn] at q
      exact q
theorem ok_tof {f : Addr} {fd : FuncData} (F : Fun K "totals_of" "totals_of" s_totals_of f fd) (M : Mg mg) (c_total : Cl P w K mg base 8 "total" (sp_total K)) : FnOk P w K mg base CX0 9 f fd ["totals", "rows"] (sp_tof K) := by
  refine F.ok sc_totals_of (fun vs H Q E h => ?_) (fun cdv A outer s H vs Q E hr h => ?_)
  · obtain ⟨x, a, ts, rs, n, rfl, _⟩ := h
    rfl
  · obtain ⟨x, a, ts, rs, n, rfl, dp, ⟨zs, ha, hz, rfl⟩, hts, hrs, hl, hlt, q⟩ := h
    obtain ⟨pa, xs, rfl, hpa, dxs⟩ := dpl_get dp
    refine ⟨_, (pss_one (ps_ret (pe_callTy (tupleK K) (by rfl) M.tuple (by decide +kernel) (pa_cons (pe_lc (own := [("form", 2)]) (g := gName 2) (tt := tYes) rfl sc_totals_of.nd (pi_list (pv 0)) (blkOk_by (N := N_totals_of) (sc := defScope s_totals_of) (by decide +kernel)) (fun _ _ _ _ _ => (pg_name (i := 2) sc_totals_of.nd rfl (.inl rfl))) (fun _ _ _ _ _ => pts_nil) (fun _ _ _ _ _ => (pe_u c_total hr (by first | decide | omega) (by rfl) (pa_cons (pv 2) (pa_cons (pv 1) pa_nil))))) pa_nil)))), ?_⟩
    have lxs : xs.length = ts.length := by rw [DpAll.len dxs, List.length_map]
    rw [List.length_map] at hl
    refine ⟨_, rfl, pa, rfl, ⟨_, hpa⟩, fun D nD => ?_⟩
    refine lc_list (K := K) (a := pa) (xs := xs) (fun j Hj => Same H Hj ∧ Hj D = some (.lst (((ts.take j).map fun t => t.ev (zs.map Prod.snd)).map Vl.v))) ⟨same_upd nD, upd_same⟩ (fun j Hj _ hp => SqL.same hp.1 hpa) (fun j y Hj hy hp => ?_) (fun H1 hp => ?_)
    · obtain ⟨sj, eD⟩ := hp
      have hj : j < ts.length := by rw [← lxs]; exact (List.getElem?_eq_some_iff.mp hy).1
      obtain ⟨y', hy', dy⟩ := DpAll.get dxs (show (ts.map Fm.d)[j]? = some (ts[j]).d by rw [List.getElem?_map, List.getElem?_eq_getElem hj]; rfl)
      obtain rfl : y = y' := Option.some.inj (hy.symm.trans hy')
      refine ⟨rfl, ?_⟩
      refine ⟨_, rfl, _, rfl, y, a, zs.map Prod.fst, ts[j], zs.map Prod.snd, n, rfl, Dp.ext sj _ _ dy, (rl_rws ha hz).ext sj, hts _ (List.getElem_mem hj), hrs, by rw [List.length_map]; exact hl, fun H' s' => ?_⟩
      refine ⟨_, s' _ _ eD, ?_, fun b o e => ?_, ?_⟩
      · rw [List.length_map, List.length_map, List.length_take]
        exact Nat.lt_of_le_of_lt (m := 1000) (by omega) (by decide)
      · rw [upd_ne (ne_of_none e nD)]
        exact s' _ _ (sj _ _ e)
      · rw [upd_same, List.take_add_one, List.getElem?_eq_getElem hj, List.map_append, List.map_append]
        rfl
    · obtain ⟨s1, eD⟩ := hp
      rw [lxs, List.take_of_length_le (Nat.le_refl _)] at eD
      exact ⟨D, _, rfl, .inl ⟨.of eD, fun T nT => q _ T (s1.trans (same_upd nT)) (s1.free nT) upd_same⟩⟩
end

/-! ### a dict by comprehension, keyed by rows, as an expression -/
section
variable {X : Cx}
theorem pe_dcR (P : Program) (w : World) {kx vx tg iter : Expr} {ifs : List Expr} {scope : Scope} {own : List (Str × Nat)} {pos : Pos} {wi : TI} {g : TG} {tt : TT} {tk tv : TE} (hu : X.A.units + 1 < cLine) (hc : X.calm = true) (hN : X.N.Nodup) (hi : PI X tg iter wi) (ok : BlkOk X.N X.env.scope scope own)
    (hg : ∀ s H C cl fp, PG (X.blk s H scope (compEnvC scope cl C X.env) fp) tg g) (ht : ∀ s H C cl fp, PTs (X.blk s H scope (compEnvC scope cl C X.env) fp) ifs tt)
    (hk : ∀ s H C cl fp, PE (X.blk s H scope (compEnvC scope cl C X.env) fp) kx tk) (he : ∀ s H C cl fp, PE (X.blk s H scope (compEnvC scope cl C X.env) fp) vx tv) (hs : ∀ x, foldedSetIterable iter X.env x = pure x := by intro _; rfl) (e1 : X.prog = P := by rfl) (e2 : X.w = w := by rfl) :
    PE X (.DictComp kx vx [⟨tg, iter, ifs, 0⟩] scope pos) (tDcR P w wi g tt tk tv (own.map (·.2))) := by
  subst e1 e2
  refine ⟨fun pins s σ H Q I h => ?_⟩
  rw [arm_eval_DictComp]
  refine dcr_core (use := none) (by omega) hc hN I hi ok hg ht hk he hs h fun L C s' m H' I' q hn f => ?_
  obtain ⟨f0, f1, f2, f3, f4, f5⟩ := f
  exact ⟨m, hn, fun h'' sb => ⟨.ref L, H', I'.turned (t' := s'.toks) (fun bb oo hb ee => (sb.2 bb hb).trans ee) f0 f1 f3 f4 f5, rfl, q⟩⟩
end

/-! ### the operations' own defs -/
theorem Op.of_fil {o : Op} (h : o.wd = "filter") : ∃ e q, o = .fil e q := by
  cases o with
  | fil e q => exact ⟨_, _, rfl⟩
  | _ => simp [Op.wd] at h
theorem Op.of_map {o : Op} (h : o.wd = "map") : ∃ es q, o = .map es q := by
  cases o with
  | map es q => exact ⟨_, _, rfl⟩
  | _ => simp [Op.wd] at h
theorem Op.of_joi {o : Op} (h : o.wd = "join") : ∃ e q r, o = .joi e q r := by
  cases o with
  | joi e q r => exact ⟨_, _, _, rfl⟩
  | _ => simp [Op.wd] at h
theorem Op.of_uni {o : Op} (h : o.wd = "union") : ∃ q r, o = .uni q r := by
  cases o with
  | uni q r => exact ⟨_, _, rfl⟩
  | _ => simp [Op.wd] at h
theorem Op.of_min {o : Op} (h : o.wd = "minus") : ∃ q r, o = .min q r := by
  cases o with
  | min q r => exact ⟨_, _, rfl⟩
  | _ => simp [Op.wd] at h
theorem Op.of_ant {o : Op} (h : o.wd = "anti") : ∃ e q r, o = .ant e q r := by
  cases o with
  | ant e q r => exact ⟨_, _, _, rfl⟩
  | _ => simp [Op.wd] at h
theorem Op.of_grp {o : Op} (h : o.wd = "group") : ∃ ks ts q, o = .grp ks ts q := by
  cases o with
  | grp ks ts q => exact ⟨_, _, _, rfl⟩
  | _ => simp [Op.wd] at h
theorem dp_four {K : PySem.W.Frag} {H : Hp} {xs : List V} {s : Str} {d e g : PyData} (h : DpAll K H xs [.str s, d, e, g]) : ∃ v u z, xs = [.str s, v, u, z] ∧ Dp K H v d ∧ Dp K H u e ∧ Dp K H z g := by
  cases h with
  | cons h1 h2 =>
    cases h1
    cases h2 with
    | cons h3 h4 =>
      cases h4 with
      | cons h7 h8 =>
        cases h8 with
        | cons h9 h10 =>
          cases h10
          exact ⟨_, _, _, rfl, h3, h7, h9⟩
theorem dp_nat {K : PySem.W.Frag} {H : Hp} {u : V} {n : Nat} (h : Dp K H u (nI n)) : u = .int ((n : Nat) : Int) := by
  unfold nI at h
  cases h
  rfl
theorem rlz {H : Hp} {p : Addr} (zs : List AR) (h1 : H p = some (.lst (zs.map fun x => V.ref x.1))) (h2 : ∀ x ∈ zs, H x.1 = some (.tup (x.2.map Vl.v))) : RL H p (zs.map Prod.snd) := ⟨zs, h1, h2, rfl⟩
theorem mfil (zs : List AR) (f : Row → Bool) : (zs.filter fun x => f x.2).map Prod.snd = (zs.map Prod.snd).filter f := by
  rw [List.filter_map]
  rfl
theorem fil_snoc {zs : List AR} {j : Nat} {x : AR} (f : Row → Bool) (hx : zs[j]? = some x) : (zs.take (j + 1)).filter (fun x => f x.2) = (zs.take j).filter (fun x => f x.2) ++ if f x.2 = true then [x] else [] := by
  rw [List.take_add_one, hx, List.filter_append]
  show _ ++ List.filter _ [x] = _
  rw [List.filter_cons, List.filter_nil]
theorem fil_len {zs : List AR} (j : Nat) (f : Row → Bool) : ((zs.take j).filter fun x => f x.2).length ≤ zs.length := Nat.le_trans (List.length_filter_le _ _) (List.length_take_le' _ _)
theorem lw_list {K : PySem.W.Frag} {a : Addr} {xs : List V} {H0 : Hp} {Qd : Hp → Prop} {B : V → Hp → (Hp → Prop) → Prop} (Pv : Nat → Hp → Prop) (h0 : Pv 0 H0) (hl : ∀ i H, i ≤ xs.length → Pv i H → SqL K H a xs)
    (hs : ∀ i x H, xs[i]? = some x → Pv i H → B x H (Pv (i + 1))) (hd : ∀ H, Pv xs.length H → Qd H) :
    ∃ W : Nat → Nat → Hp → Prop, (∃ m, W 0 m H0) ∧ ∀ i m H, W i m H →
      ((Itl K a).stop i H ∧ Qd H) ∨ ((Itl K a).go i H ∧ ∃ Nx : Hp → Prop, (∀ H', Nx H' → ∃ m', m' < m ∧ W (i + 1) m' H') ∧ ∀ x H', (Itl K a).yld i H x H' → B x H' Nx) := by
  refine ⟨fun i m H => m = xs.length - i ∧ i ≤ xs.length ∧ Pv i H, ⟨xs.length, by simp, Nat.zero_le _, h0⟩, ?_⟩
  rintro i m H ⟨rfl, hi, p⟩
  have q := hl i H hi p
  by_cases hlt : i < xs.length
  · refine .inr ⟨⟨xs, xs[i], q, by simp [hlt]⟩, Pv (i + 1), fun H' p' => ⟨xs.length - (i + 1), by omega, rfl, hlt, p'⟩, fun x H' y => ?_⟩
    obtain ⟨e, y⟩ := y
    subst e
    exact hs i x _ (y xs q) p
  · have e : i = xs.length := by omega
    subst e
    exact .inl ⟨⟨xs, q, Nat.le_refl _⟩, hd H p⟩
theorem opR_ok0 {ws : List Nat} {F : List (List Row)} {o : Op} {w : Nat} (hF : FsOk ws F) (hl : ∀ rs ∈ F, Asc rs ∧ rs.length ≤ 1000) (h : o.okW [] [] ws w) : RsOk w (opR [] [] F o) :=
  opR_ok (tw := []) (sw := []) ⟨rfl, fun i rs w h => by simp at h⟩ ⟨rfl, fun i rs w h => by simp at h⟩ hF (fun rs h => Nat.le_trans (hl rs h).2 (by omega)) h
section
variable {P : Program} {w : World} {K : PySem.W.Frag} {mg : Str → Option Value} {base : Heap}
/-- an operation's own def: what it is told, what it gives -/
def sp_opf (K : PySem.W.Frag) (wd : String) : Sp := fun vs H Q _ => ∃ (x : V) (fa : Addr) (o : Op) (F : List (List Row)) (tw sw ws : List Nat) (w : Nat), vs = [x, .ref fa] ∧ o.wd = wd ∧ Dp K H x o.d ∧ FL H fa F ∧ o.okW tw sw ws w ∧ FsOk ws F ∧ (∀ rs ∈ F, Asc rs ∧ rs.length ≤ 1000) ∧ (∀ v ∈ ws, v ≤ 1000) ∧ 1 ≤ w ∧ w ≤ 1000 ∧ ∀ (H' : Hp) (p : Addr), Same H H' → H p = none → RL H' p (ord (opR [] [] F o)) → Q (.ref p) H'
theorem rok_of {w : Nat} {rs : List Row} (h : RsOk w rs) (h1 : 1 ≤ w) (h2 : w ≤ 1000) : ∀ r ∈ rs, rok r ∧ r.length ≤ 1000 := fun r hr => by
  obtain ⟨e, g⟩ := h r hr
  refine ⟨⟨fun z => ?_, g⟩, by omega⟩
  rw [z] at e
  simp at e
  omega
theorem getD_of {α : Type} {l : List α} {i : Nat} {x d : α} (h : l[i]? = some x) : l.getD i d = x := by
  rw [List.getD_eq_getElem?_getD, h]
  rfl
theorem ok_fil {f : Addr} {fd : FuncData} (F : Fun K "filter_rows" "filter_rows" s_filter_rows f fd) (M : Mg mg) (c_evaluate : Cl P w K mg base 7 "evaluate" (sp_eval K 5)) (c_is_true : Cl P w K mg base 1 "is_true" (sp_b1 Vl.tr)) : FnOk P w K mg base CX0 8 f fd ["operation", "found"] (sp_opf K "filter") := by
  refine F.ok sc_filter_rows (fun vs H Q E h => ?_) (fun cdv A outer s H vs Q E hr h => ?_)
  · obtain ⟨x, fa, o, Fs, tw, sw, ws, wd, rfl, _⟩ := h
    rfl
  · obtain ⟨x, fa, o, Fs, tw, sw, ws, wd, rfl, eo, dp, hF, hw, hok, hlen, hws, w1, w2, q⟩ := h
    obtain ⟨e, qi, rfl⟩ := Op.of_fil eo
    obtain ⟨h1, h2, h3⟩ := hw
    obtain ⟨g1, g2⟩ := hok.at h1
    obtain ⟨pa, xs, rfl, hpa, dxs⟩ := dp_tup dp
    obtain ⟨xe, xq, rfl, de, dq⟩ := dp_three dxs
    obtain rfl := dp_nat dq
    obtain ⟨fxs, la, hfa, hat, zs, hla, hz, ezs⟩ := hF.at g1
    obtain ⟨asc, len⟩ := hlen _ (List.mem_of_getElem? g1)
    rw [← ezs, List.length_map] at len
    refine ⟨_, (pss_cons (ps_asg (pv 0) (pg_tup (by rfl) (pgs_cons (pg_name (i := 2) sc_filter_rows.nd rfl (.inl rfl)) (pgs_cons (pg_name (i := 3) sc_filter_rows.nd rfl (.inr rfl)) (pgs_cons (pg_name (i := 4) sc_filter_rows.nd rfl (.inl rfl)) pgs_nil)))))
      (pss_one (ps_ret (pe_lc (own := [("row", 5)]) (g := gName 5) rfl sc_filter_rows.nd (pi_list (pe_ix (ix_listK K) (pv 1) (pv 4) (fun _ _ => rfl))) (blkOk_by (N := N_filter_rows) (sc := defScope s_filter_rows) (by decide +kernel)) (fun _ _ _ _ _ => (pg_name (i := 5) sc_filter_rows.nd rfl (.inl rfl))) (fun _ _ _ _ _ => (pts_one (pt_val (pe_u c_is_true hr (by first | decide | omega) (by rfl) (pa_cons (pe_u c_evaluate hr (by first | decide | omega) (by rfl) (pa_cons (pv 3) (pa_cons (pv 5) pa_nil))) pa_nil))))) (fun _ _ _ _ _ => (pv 5)))))), ?_⟩
    refine ⟨_, rfl, pa, _, rfl, hpa, rfl, _, _, rfl, _, _, rfl, _, _, rfl, rfl, ?_⟩
    refine ⟨_, rfl, _, rfl, fa, fxs, _, _, rfl, rfl, .of hfa, hat, la, rfl, ⟨_, .of hla⟩, fun D nD => ?_⟩
    refine lc_list (K := K) (a := la) (xs := zs.map fun x => V.ref x.1) (fun j Hj => Same H Hj ∧ Hj D = some (.lst (((zs.take j).filter fun x => (e.ev x.2).tr).map fun x => V.ref x.1))) ⟨same_upd nD, upd_same⟩ (fun j Hj _ hp => .of (hp.1 _ _ hla)) (fun j y Hj hy hp => ?_) (fun H1 hp => ?_)
    · obtain ⟨sj, eD⟩ := hp
      rw [List.getElem?_map] at hy
      obtain ⟨u, hu, rfl⟩ := Option.map_eq_some_iff.mp hy
      have hm := List.mem_of_getElem? hu
      obtain ⟨lu, ou⟩ := g2 u.2 (ezs ▸ List.mem_map.mpr ⟨u, hm, rfl⟩)
      have lf := fil_len (zs := zs) j fun x => (e.ev x).tr
      have etk := fil_snoc (fun x => (e.ev x).tr) hu
      refine ⟨rfl, ?_⟩
      refine ⟨_, rfl, _, rfl, xe, u.1, e, u.2, rfl, Dp.ext sj _ _ de, .of (sj _ _ (hz u hm)), by rw [lu]; exact h2, ou, h3, fun H' s' => ⟨_, rfl, _, rfl, ?_⟩⟩
      refine ite2 (fun g => ?_) (fun g => ?_)
      · refine ⟨_, rfl, _, s' _ _ eD, by rw [List.length_map]; exact small1 (by omega), fun b o e => ?_, ?_⟩
        · rw [upd_ne (ne_of_none e nD)]
          exact s' _ _ (sj _ _ e)
        · rw [upd_same, etk, if_pos g, List.map_append]
          rfl
      · refine ⟨sj.trans s', ?_⟩
        have g' : ¬ (e.ev u.2).tr = true := by simpa using g
        rw [etk, if_neg g', List.append_nil]
        exact s' _ _ eD
    · obtain ⟨s1, eD⟩ := hp
      rw [List.length_map, List.take_of_length_le (Nat.le_refl _)] at eD
      refine q H1 D s1 nD ?_
      have : opR [] [] Fs (.fil e qi) = (zs.filter fun x => (e.ev x.2).tr).map Prod.snd := by
        rw [mfil zs fun x => (e.ev x).tr, ezs]
        rfl
      rw [this, ord_self (by rw [← this]; exact asc_filter asc _)]
      exact rlz _ eD fun x hx => s1 _ _ (hz x (List.mem_filter.mp hx).1)
theorem ok_map {f : Addr} {fd : FuncData} (F : Fun K "map_rows" "map_rows" s_map_rows f fd) (M : Mg mg) (c_values_of : Cl P w K mg base 8 "values_of" (sp_vof K)) (c_in_order : Cl P w K mg base 5 "in_order" (sp_ino K)) : FnOk P w K mg base CX0 9 f fd ["operation", "found"] (sp_opf K "map") := by
  refine F.ok sc_map_rows (fun vs H Q E h => ?_) (fun cdv A outer s H vs Q E hr h => ?_)
  · obtain ⟨x, fa, o, Fs, tw, sw, ws, wd, rfl, _⟩ := h
    rfl
  · obtain ⟨x, fa, o, Fs, tw, sw, ws, wd, rfl, eo, dp, hF, hw, hok, hlen, hws, w1, w2, q⟩ := h
    obtain ⟨es, qi, rfl⟩ := Op.of_map eo
    have hR : RsOk wd (opR [] [] Fs (.map es qi)) := opR_ok0 hok hlen hw
    obtain ⟨h1, v, h2, h3⟩ := hw
    obtain ⟨g1, g2⟩ := hok.at h2
    obtain ⟨pa, xs, rfl, hpa, dxs⟩ := dp_tup dp
    obtain ⟨xe, xq, rfl, de, dq⟩ := dp_three dxs
    obtain rfl := dp_nat dq
    obtain ⟨fxs, la, hfa, hat, zs, hla, hz, ezs⟩ := hF.at g1
    obtain ⟨asc, len⟩ := hlen _ (List.mem_of_getElem? g1)
    rw [← ezs, List.length_map] at len
    have e0 : opR [] [] Fs (.map es qi) = (zs.map Prod.snd).map (keyR es) := by rw [ezs]; rfl
    rw [e0] at hR q
    refine ⟨_, (pss_cons (ps_asg (pv 0) (pg_tup (by rfl) (pgs_cons (pg_name (i := 2) sc_map_rows.nd rfl (.inl rfl)) (pgs_cons (pg_name (i := 3) sc_map_rows.nd rfl (.inr rfl)) (pgs_cons (pg_name (i := 4) sc_map_rows.nd rfl (.inl rfl)) pgs_nil)))))
      (pss_one (ps_ret (pe_u c_in_order hr (by first | decide | omega) (by rfl) (pa_cons (pe_lc (own := [("row", 5)]) (g := gName 5) (tt := tYes) rfl sc_map_rows.nd (pi_list (pe_ix (ix_listK K) (pv 1) (pv 4) (fun _ _ => rfl))) (blkOk_by (N := N_map_rows) (sc := defScope s_map_rows) (by decide +kernel)) (fun _ _ _ _ _ => (pg_name (i := 5) sc_map_rows.nd rfl (.inl rfl))) (fun _ _ _ _ _ => pts_nil) (fun _ _ _ _ _ => (pe_u c_values_of hr (by first | decide | omega) (by rfl) (pa_cons (pv 3) (pa_cons (pv 5) pa_nil))))) pa_nil))))), ?_⟩
    refine ⟨_, rfl, pa, _, rfl, hpa, rfl, _, _, rfl, _, _, rfl, _, _, rfl, rfl, ?_⟩
    refine ⟨_, rfl, _, rfl, fa, fxs, _, _, rfl, rfl, .of hfa, hat, la, rfl, ⟨_, .of hla⟩, fun D nD => ?_⟩
    refine lc_list (K := K) (a := la) (xs := zs.map fun x => V.ref x.1) (fun j Hj => Same H Hj ∧ ∃ ms : List AR, Hj D = some (.lst (ms.map fun x => V.ref x.1)) ∧ (∀ m ∈ ms, Hj m.1 = some (.tup (m.2.map Vl.v))) ∧ ms.map Prod.snd = ((zs.take j).map Prod.snd).map (keyR es)) ⟨same_upd nD, [], upd_same, (fun _ h => by cases h), rfl⟩ (fun j Hj _ hp => .of (hp.1 _ _ hla)) (fun j y Hj hy hp => ?_) (fun H1 hp => ?_)
    · obtain ⟨sj, ms, eD, hms, ems⟩ := hp
      rw [List.getElem?_map] at hy
      obtain ⟨u, hu, rfl⟩ := Option.map_eq_some_iff.mp hy
      have hm := List.mem_of_getElem? hu
      obtain ⟨lu, ou⟩ := g2 u.2 (ezs ▸ List.mem_map.mpr ⟨u, hm, rfl⟩)
      have lms : ms.length ≤ zs.length := by
        rw [← List.length_map (f := Prod.snd), ems, List.length_map, List.length_map]
        exact List.length_take_le' _ _
      refine ⟨rfl, ?_⟩
      refine ⟨_, rfl, _, rfl, xe, u.1, es, u.2, rfl, Dp.ext sj _ _ de, sj _ _ (hz u hm), by rw [lu]; exact h3, ou, by omega, fun H' p s' np e' => ?_⟩
      have eD' := s' _ _ eD
      refine ⟨_, eD', by rw [List.length_map]; exact small1 (by omega), fun b o e => ?_, ms ++ [(p, keyR es u.2)], ?_, fun m hm => ?_, ?_⟩
      · rw [upd_ne (ne_of_none e nD)]
        exact s' _ _ (sj _ _ e)
      · rw [upd_same, List.map_append]
        rfl
      · refine Tk.upd (fun ys z => by rw [eD'] at z; cases z) _ _ ?_
        rcases List.mem_append.mp hm with hm | hm
        · exact s' _ _ (hms m hm)
        · rw [List.mem_singleton.mp hm]
          exact e'
      · rw [List.map_append, ems, List.take_add_one, hu, List.map_append, List.map_append]
        rfl
    · obtain ⟨s1, ms, eD, hms, ems⟩ := hp
      rw [List.length_map, List.take_of_length_le (Nat.le_refl _)] at ems
      refine ⟨D, (zs.map Prod.snd).map (keyR es), rfl, ⟨ms, eD, hms, ems⟩, rok_of hR w1 w2, ?_, fun H' p s' np h => q H' p (s1.trans s') (s1.free np) h⟩
      rw [List.length_map, List.length_map]
      omega
theorem ok_joi {f : Addr} {fd : FuncData} (F : Fun K "join_rows" "join_rows" s_join_rows f fd) (M : Mg mg) (c_matches : Cl P w K mg base 8 "matches" (sp_mat K)) : FnOk P w K mg base CX0 9 f fd ["operation", "found"] (sp_opf K "join") := by
  refine F.ok sc_join_rows (fun vs H Q E h => ?_) (fun cdv A outer s H vs Q E hr h => ?_)
  · obtain ⟨x, fa, o, Fs, tw, sw, ws, wd, rfl, _⟩ := h
    rfl
  · obtain ⟨x, fa, o, Fs, tw, sw, ws, wd, rfl, eo, dp, hF, hw, hok, hlen, hws, w1, w2, q⟩ := h
    obtain ⟨e, qi, ri, rfl⟩ := Op.of_joi eo
    obtain ⟨na, nb, h1, h2, h3, h4, h5⟩ := hw
    obtain ⟨g1, g2⟩ := hok.at h1
    obtain ⟨k1, k2⟩ := hok.at h2
    have na1 := hws _ (List.mem_of_getElem? h1)
    have nb1 := hws _ (List.mem_of_getElem? h2)
    obtain ⟨pa, xs, rfl, hpa, dxs⟩ := dp_tup dp
    obtain ⟨xe, xq, xr, rfl, de, dq, dr⟩ := dp_four dxs
    obtain rfl := dp_nat dq
    obtain rfl := dp_nat dr
    obtain ⟨fxs, la, hfa, hat, zs, hla, hz, ezs⟩ := hF.at g1
    obtain ⟨fxs', lb, hfa', hbt, us, hlb, hu', eus⟩ := hF.at k1
    obtain rfl : fxs' = fxs := HO.lst.inj (Option.some.inj (hfa'.symm.trans hfa))
    obtain ⟨asc, len⟩ := hlen _ (List.mem_of_getElem? g1)
    obtain ⟨asc', len'⟩ := hlen _ (List.mem_of_getElem? k1)
    have e0 : opR [] [] Fs (.joi e qi ri) = (zs.map Prod.snd).flatMap fun a => ((us.map Prod.snd).filter (mtch e a)).map (a ++ ·) := by rw [ezs, eus]; rfl
    rw [e0] at q
    rw [ord_self (by rw [ezs, eus]; exact asc_join asc asc' (fun a ha => (g2 a ha).1) _)] at q
    rw [← ezs, List.length_map] at len
    rw [← eus, List.length_map] at len'
    refine ⟨_, (pss_cons (ps_asg (pv 0) (pg_tup (by rfl) (pgs_cons (pg_name (i := 2) sc_join_rows.nd rfl (.inl rfl)) (pgs_cons (pg_name (i := 3) sc_join_rows.nd rfl (.inr rfl)) (pgs_cons (pg_name (i := 4) sc_join_rows.nd rfl (.inl rfl)) (pgs_cons (pg_name (i := 5) sc_join_rows.nd rfl (.inr rfl)) pgs_nil))))))
      (pss_one (ps_ret (pe_lc2 (own := [("one", 6), ("other", 7)]) (vs1 := [7]) (g := gName 6) (g1 := gName 7) (tt := tYes) rfl sc_join_rows.nd (pi_list (pe_ix (ix_listK K) (pv 1) (pv 4) (fun _ _ => rfl))) (blkOk_by (N := N_join_rows) (sc := defScope s_join_rows) (by decide +kernel)) (by decide) (fun _ _ _ _ _ => (pg_name (i := 6) sc_join_rows.nd rfl (.inl rfl))) (fun _ _ _ _ _ => pts_nil) (fun _ _ _ _ _ => (pi_listK K (pe_ix (ix_listK K) (pv 1) (pv 5) (fun _ _ => rfl)))) (fun _ _ _ _ _ => (pg_name (i := 7) sc_join_rows.nd rfl (.inl rfl))) (fun _ _ _ _ _ => (pts_one (pt_val (pe_u c_matches hr (by first | decide | omega) (by rfl) (pa_cons (pv 3) (pa_cons (pv 6) (pa_cons (pv 7) pa_nil))))))) (fun _ _ _ _ _ => (pe_op (op_catAK K) (pv 6) (pv 7))))))), ?_⟩
    refine ⟨_, rfl, pa, _, rfl, hpa, rfl, _, _, rfl, _, _, rfl, _, _, rfl, _, _, rfl, rfl, ?_⟩
    refine ⟨_, rfl, _, rfl, fa, fxs', _, _, rfl, rfl, .of hfa, hat, la, rfl, ⟨_, .of hla⟩, fun D nD => ?_⟩
    refine lw_list (K := K) (a := la) (xs := zs.map fun x => V.ref x.1) (fun j Hj => Same H Hj ∧ ∃ ms : List AR, Hj D = some (.lst (ms.map fun x => V.ref x.1)) ∧ (∀ m ∈ ms, Hj m.1 = some (.tup (m.2.map Vl.v))) ∧ ms.map Prod.snd = ((zs.take j).map Prod.snd).flatMap (fun a => ((us.map Prod.snd).filter (mtch e a)).map (a ++ ·)) ∧ ms.length ≤ j * us.length) ⟨same_upd nD, [], upd_same, (fun _ h => by cases h), rfl, Nat.zero_le _⟩ (fun j Hj _ hp => .of (hp.1 _ _ hla)) (fun j y Hj hy hp => ?_) (fun H1 hp => ?_)
    · obtain ⟨sj, ms, eD, hms, ems, lms⟩ := hp
      have hj : j < zs.length := by
        have := (List.getElem?_eq_some_iff.mp hy).1
        rwa [List.length_map] at this
      rw [List.getElem?_map] at hy
      obtain ⟨x, hx, rfl⟩ := Option.map_eq_some_iff.mp hy
      have hm := List.mem_of_getElem? hx
      obtain ⟨lx, ox⟩ := g2 x.2 (ezs ▸ List.mem_map.mpr ⟨x, hm, rfl⟩)
      refine ⟨rfl, ?_⟩
      refine ⟨_, rfl, _, rfl, fa, fxs', _, _, rfl, rfl, .of (sj _ _ hfa), hbt, lb, rfl, ⟨_, .of (sj _ _ hlb)⟩, ?_⟩
      refine lw_list (K := K) (a := lb) (xs := us.map fun x => V.ref x.1) (fun k Hk => Same H Hk ∧ ∃ ms' : List AR, Hk D = some (.lst (ms'.map fun x => V.ref x.1)) ∧ (∀ m ∈ ms', Hk m.1 = some (.tup (m.2.map Vl.v))) ∧ ms'.map Prod.snd = ms.map Prod.snd ++ (((us.take k).map Prod.snd).filter (mtch e x.2)).map (x.2 ++ ·) ∧ ms'.length ≤ j * us.length + k) ⟨sj, ms, eD, hms, by rw [List.take_zero, List.map_nil, List.filter_nil, List.map_nil, List.append_nil], lms⟩ (fun k Hk _ hp => .of (hp.1 _ _ hlb)) (fun k y Hk hy hp => ?_) (fun H1 hp => ?_)
      · obtain ⟨sk, ms', eD', hms', ems', lms'⟩ := hp
        have hk : k < us.length := by
          have := (List.getElem?_eq_some_iff.mp hy).1
          rwa [List.length_map] at this
        rw [List.getElem?_map] at hy
        obtain ⟨u, hu, rfl⟩ := Option.map_eq_some_iff.mp hy
        have hmu := List.mem_of_getElem? hu
        obtain ⟨lu, ou⟩ := k2 u.2 (eus ▸ List.mem_map.mpr ⟨u, hmu, rfl⟩)
        have etk : ((us.take (k + 1)).map Prod.snd).filter (mtch e x.2) = ((us.take k).map Prod.snd).filter (mtch e x.2) ++ if mtch e x.2 u.2 = true then [u.2] else [] := by
          rw [List.take_add_one, hu, List.map_append, List.filter_append]
          show _ ++ List.filter _ [u.2] = _
          rw [List.filter_cons, List.filter_nil]
        have hsm : ms'.length ≤ 1000000 := by
          have := Nat.mul_le_mul (show j + 1 ≤ 1000 by omega) len'
          rw [Nat.succ_mul] at this
          omega
        refine ⟨rfl, ?_⟩
        refine ⟨_, rfl, _, rfl, _, rfl, xe, x.1, u.1, e, x.2, u.2, rfl, Dp.ext sk _ _ de, sk _ _ (hz x hm), sk _ _ (hu' u hmu), by rw [lx, lu]; exact h4, h5, ox, ou, by omega, by omega, fun H' s' => ⟨_, rfl, ?_⟩⟩
        refine ite2 (fun g => ?_) (fun g => ?_)
        · have go : ∀ (H7 : Hp) (p : Addr), Same H' H7 → H7 p = some (.tup ((x.2 ++ u.2).map Vl.v)) → ∃ acc, H7 D = some (.lst acc) ∧ acc.length < sizeLine ∧ (Same H (upd H7 D (.lst (acc ++ [V.ref p]))) ∧ ∃ ms2 : List AR, upd H7 D (.lst (acc ++ [V.ref p])) D = some (.lst (ms2.map fun x => V.ref x.1)) ∧ (∀ m ∈ ms2, upd H7 D (.lst (acc ++ [V.ref p])) m.1 = some (.tup (m.2.map Vl.v))) ∧ ms2.map Prod.snd = ms.map Prod.snd ++ (((us.take (k + 1)).map Prod.snd).filter (mtch e x.2)).map (x.2 ++ ·) ∧ ms2.length ≤ j * us.length + (k + 1)) := fun H7 p s7 hp => by
            have eD7 := s7 _ _ (s' _ _ eD')
            refine ⟨_, eD7, by rw [List.length_map]; exact Nat.lt_of_le_of_lt hsm (by decide), fun b o e => ?_, ms' ++ [(p, x.2 ++ u.2)], ?_, fun m hm => ?_, ?_, ?_⟩
            · rw [upd_ne (ne_of_none e nD)]
              exact s7 _ _ (s' _ _ (sk _ _ e))
            · rw [upd_same, List.map_append]
              rfl
            · refine Tk.upd (fun ys z => by rw [eD7] at z; cases z) _ _ ?_
              rcases List.mem_append.mp hm with hm | hm
              · exact s7 _ _ (s' _ _ (hms' m hm))
              · rw [List.mem_singleton.mp hm]
                exact hp
            · rw [List.map_append, ems', etk, if_pos g, List.map_append, List.append_assoc]
              rfl
            · rw [List.length_append, List.length_singleton]
              omega
          refine ⟨_, rfl, _, rfl, x.1, u.1, _, _, rfl, rfl, .of (s' _ _ (sk _ _ (hz x hm))), .of (s' _ _ (sk _ _ (hu' u hmu))), ?_, fun en => ?_, fun _ en => ?_, fun _ _ p np => ?_⟩
          · rw [List.length_map, List.length_map]
            exact Nat.le_trans (m := 2000) (by omega) (by decide)
          · refine go H' u.1 (fun _ _ h => h) ?_
            have : x.2 = [] := List.map_eq_nil_iff.mp en
            rw [this]
            exact s' _ _ (sk _ _ (hu' u hmu))
          · refine go H' x.1 (fun _ _ h => h) ?_
            have : u.2 = [] := List.map_eq_nil_iff.mp en
            rw [this, List.append_nil]
            exact s' _ _ (sk _ _ (hz x hm))
          · exact go _ p (same_upd np) (by rw [upd_same, List.map_append])
        · have g' : ¬ mtch e x.2 u.2 = true := by simpa using g
          exact ⟨sk.trans s', ms', s' _ _ eD', fun m hm => s' _ _ (hms' m hm), by rw [ems', etk, if_neg g', List.append_nil], by omega⟩
      · obtain ⟨sn, ms', eD', hms', ems', lms'⟩ := hp
        rw [List.length_map] at ems' lms'
        rw [List.take_of_length_le (Nat.le_refl _)] at ems'
        refine ⟨sn, ms', eD', hms', ?_, by rw [Nat.succ_mul]; exact lms'⟩
        rw [ems', ems, List.take_add_one, hx, List.map_append, List.flatMap_append]
        show _ = _ ++ List.flatMap _ [x.2]
        rw [List.flatMap_singleton]
    · obtain ⟨s1, ms, eD, hms, ems, _⟩ := hp
      rw [List.length_map, List.take_of_length_le (Nat.le_refl _)] at ems
      exact q H1 D s1 nD ⟨ms, eD, hms, ems⟩
theorem ok_uni {f : Addr} {fd : FuncData} (F : Fun K "union_rows" "union_rows" s_union_rows f fd) (M : Mg mg) (c_in_order : Cl P w K mg base 5 "in_order" (sp_ino K)) : FnOk P w K mg base CX0 6 f fd ["operation", "found"] (sp_opf K "union") := by
  refine F.ok sc_union_rows (fun vs H Q E h => ?_) (fun cdv A outer s H vs Q E hr h => ?_)
  · obtain ⟨x, fa, o, Fs, tw, sw, ws, wd, rfl, _⟩ := h
    rfl
  · obtain ⟨x, fa, o, Fs, tw, sw, ws, wd, rfl, eo, dp, hF, hw, hok, hlen, hws, w1, w2, q⟩ := h
    obtain ⟨qi, ri, rfl⟩ := Op.of_uni eo
    have hR : RsOk wd (opR [] [] Fs (.uni qi ri)) := opR_ok0 hok hlen hw
    obtain ⟨h1, h2⟩ := hw
    obtain ⟨g1, g2⟩ := hok.at h1
    obtain ⟨k1, k2⟩ := hok.at h2
    obtain ⟨pa, xs, rfl, hpa, dxs⟩ := dp_tup dp
    obtain ⟨xq, xr, rfl, dq, dr⟩ := dp_three dxs
    obtain rfl := dp_nat dq
    obtain rfl := dp_nat dr
    obtain ⟨fxs, la, hfa, hat, zs, hla, hz, ezs⟩ := hF.at g1
    obtain ⟨fxs', lb, hfa', hbt, us, hlb, hu', eus⟩ := hF.at k1
    obtain rfl : fxs' = fxs := HO.lst.inj (Option.some.inj (hfa'.symm.trans hfa))
    obtain ⟨asc, len⟩ := hlen _ (List.mem_of_getElem? g1)
    obtain ⟨asc', len'⟩ := hlen _ (List.mem_of_getElem? k1)
    have e0 : opR [] [] Fs (.uni qi ri) = (zs ++ us).map Prod.snd := by rw [List.map_append, ezs, eus]; rfl
    rw [e0] at q hR
    rw [← ezs, List.length_map] at len
    rw [← eus, List.length_map] at len'
    refine ⟨_, (pss_cons (ps_asg (pv 0) (pg_tup (by rfl) (pgs_cons (pg_name (i := 2) sc_union_rows.nd rfl (.inl rfl)) (pgs_cons (pg_name (i := 3) sc_union_rows.nd rfl (.inl rfl)) (pgs_cons (pg_name (i := 4) sc_union_rows.nd rfl (.inl rfl)) pgs_nil)))))
      (pss_one (ps_ret (pe_u c_in_order hr (by first | decide | omega) (by rfl) (pa_cons (pe_op op_cat (pe_ix (ix_listK K) (pv 1) (pv 3) (fun _ _ => rfl)) (pe_ix (ix_listK K) (pv 1) (pv 4) (fun _ _ => rfl))) pa_nil))))), ?_⟩
    refine ⟨_, rfl, pa, _, rfl, hpa, rfl, _, _, rfl, _, _, rfl, _, _, rfl, rfl, ?_⟩
    refine ⟨_, rfl, _, rfl, fa, fxs', _, _, rfl, rfl, .of hfa, hat, ?_⟩
    refine ⟨_, rfl, _, rfl, fa, fxs', _, _, rfl, rfl, .of hfa, hbt, ?_⟩
    refine ⟨la, lb, _, _, rfl, rfl, hla, hlb, ?_, fun p np => ?_⟩
    · rw [List.length_map, List.length_map]
      exact Nat.le_trans (m := 2000) (by omega) (by decide)
    refine ⟨p, (zs ++ us).map Prod.snd, rfl, ⟨zs ++ us, by rw [upd_same, List.map_append], fun m hm => ?_, rfl⟩, rok_of hR w1 w2, ?_, fun H' p' s' np' h => q H' p' ((same_upd np).trans s') ((same_upd np).free np') h⟩
    · rcases List.mem_append.mp hm with hm | hm
      · exact same_upd np _ _ (hz m hm)
      · exact same_upd np _ _ (hu' m hm)
    · rw [List.length_map, List.length_append]
      omega
theorem ok_min {f : Addr} {fd : FuncData} (F : Fun K "minus_rows" "minus_rows" s_minus_rows f fd) (M : Mg mg) : FnOk P w K mg base CX0 1 f fd ["operation", "found"] (sp_opf K "minus") := by
  refine F.ok sc_minus_rows (fun vs H Q E h => ?_) (fun cdv A outer s H vs Q E hr h => ?_)
  · obtain ⟨x, fa, o, Fs, tw, sw, ws, wd, rfl, _⟩ := h
    rfl
  · obtain ⟨x, fa, o, Fs, tw, sw, ws, wd, rfl, eo, dp, hF, hw, hok, hlen, hws, w1, w2, q⟩ := h
    obtain ⟨qi, ri, rfl⟩ := Op.of_min eo
    obtain ⟨h1, h2⟩ := hw
    obtain ⟨g1, g2⟩ := hok.at h1
    obtain ⟨k1, k2⟩ := hok.at h2
    obtain ⟨pa, xs, rfl, hpa, dxs⟩ := dp_tup dp
    obtain ⟨xq, xr, rfl, dq, dr⟩ := dp_three dxs
    obtain rfl := dp_nat dq
    obtain rfl := dp_nat dr
    obtain ⟨fxs, la, hfa, hat, zs, hla, hz, ezs⟩ := hF.at g1
    obtain ⟨fxs', lb, hfa', hbt, us, hlb, hu', eus⟩ := hF.at k1
    obtain rfl : fxs' = fxs := HO.lst.inj (Option.some.inj (hfa'.symm.trans hfa))
    obtain ⟨asc, len⟩ := hlen _ (List.mem_of_getElem? g1)
    obtain ⟨asc', len'⟩ := hlen _ (List.mem_of_getElem? k1)
    rw [← ezs, List.length_map] at len
    rw [← eus, List.length_map] at len'
    refine ⟨_, (pss_cons (ps_asg (pv 0) (pg_tup (by rfl) (pgs_cons (pg_name (i := 2) sc_minus_rows.nd rfl (.inl rfl)) (pgs_cons (pg_name (i := 3) sc_minus_rows.nd rfl (.inl rfl)) (pgs_cons (pg_name (i := 4) sc_minus_rows.nd rfl (.inl rfl)) pgs_nil)))))
      (pss_cons (ps_set (i := 5) sc_minus_rows.nd rfl (.inr rfl) (pe_dcR P w (hu_of hr) (own := [("row", 6)]) (g := gName 6) (tt := tYes) rfl sc_minus_rows.nd (pi_list (pe_ix (ix_listK K) (pv 1) (pv 4) (fun _ _ => rfl))) (blkOk_by (N := N_minus_rows) (sc := defScope s_minus_rows) (by decide +kernel)) (fun _ _ _ _ _ => (pg_name (i := 6) sc_minus_rows.nd rfl (.inl rfl))) (fun _ _ _ _ _ => pts_nil) (fun _ _ _ _ _ => (pv 6)) (fun _ _ _ _ _ => pe_bl)))
      (pss_one (ps_ret (pe_lc (own := [("row", 6)]) (g := gName 6) rfl sc_minus_rows.nd (pi_list (pe_ix (ix_listK K) (pv 1) (pv 3) (fun _ _ => rfl))) (blkOk_by (N := N_minus_rows) (sc := defScope s_minus_rows) (by decide +kernel)) (fun _ _ _ _ _ => (pg_name (i := 6) sc_minus_rows.nd rfl (.inl rfl))) (fun _ _ _ _ _ => (pts_one (pt_cmp (pc_rnotin P w (hu_of hr) (pv 6) (pv 5))))) (fun _ _ _ _ _ => (pv 6))))))), ?_⟩
    refine ⟨_, rfl, pa, _, rfl, hpa, rfl, _, _, rfl, _, _, rfl, _, _, rfl, rfl, ?_⟩
    refine ⟨_, rfl, _, rfl, fa, fxs', _, _, rfl, rfl, .of hfa, hbt, lb, rfl, ⟨_, .of hlb⟩, fun D nD => ?_⟩
    refine dcr_list (K := K) (a := lb) (xs := us.map fun x => V.ref x.1) (fun j Hj => Same H Hj ∧ ∃ ks, Hj D = some (rdO P w D ks) ∧ RowsAt Hj ks ∧ (∀ r, r ∈ ks.map Prod.fst ↔ r ∈ (us.take j).map Prod.snd) ∧ ks.length ≤ j) ⟨same_upd nD, [], upd_same, (fun _ h => by cases h), (fun r => Iff.rfl), Nat.le_refl _⟩ (fun j Hj _ hp => SqL.same hp.1 (.of hlb)) (fun j y Hj hy hp => ?_) (fun H1 hp => ?_)
    · obtain ⟨sj, ks, eD, hrw, ek, lk⟩ := hp
      rw [List.getElem?_map] at hy
      obtain ⟨x, hx, rfl⟩ := Option.map_eq_some_iff.mp hy
      have hj : j < us.length := (List.getElem?_eq_some_iff.mp hx).1
      have hxr := sj _ _ (hu' x (List.mem_of_getElem? hx))
      refine ⟨rfl, ?_⟩
      refine ⟨_, rfl, ks, x.2, x.1, rfl, eD, hrw, hxr, Nat.lt_of_le_of_lt (m := 1000) (by omega) (by decide), fun b o e => ?_, putR ks x.2 x.1 (.bl true), upd_same, ?_, ?_, ?_⟩
      · rw [upd_ne (ne_of_none e nD)]
        exact sj _ _ e
      · exact (hrw.put hxr).same (Tk.upd fun ys z => by rw [eD] at z; cases z)
      · intro r
        rw [putR_keys, List.take_add_one, hx, List.map_append]
        show _ ↔ r ∈ _ ++ [x.2]
        rw [List.mem_append, ← ek r, List.mem_singleton]
        by_cases h : x.2 ∈ ks.map Prod.fst
        · rw [if_pos h]
          exact ⟨.inl, fun z => z.elim id fun z => z ▸ h⟩
        · rw [if_neg h, List.mem_append, List.mem_singleton]
      · have := putR_len ks x.2 x.1 (.bl true)
        omega
    · obtain ⟨s1, ks, eD, hrw, ek, lk⟩ := hp
      rw [List.length_map, List.take_of_length_le (Nat.le_refl _), eus] at ek
      have hv : ∀ r, (valR ks r).isSome = decide (r ∈ Fs.getD ri []) := fun r => by
        cases ev : valR ks r with
        | none =>
          refine (decide_eq_false fun hm => ?_).symm
          obtain ⟨x, hx, ex⟩ := List.mem_map.mp ((ek r).mpr hm)
          exact valR_none ev x hx ex
        | some v =>
          obtain ⟨a, hm⟩ := valR_some ev
          exact (decide_eq_true ((ek r).mp (List.mem_map.mpr ⟨_, hm, rfl⟩))).symm
      refine ⟨_, rfl, _, rfl, fa, fxs', _, _, rfl, rfl, .of (s1 _ _ hfa), hat, la, rfl, ⟨_, .of (s1 _ _ hla)⟩, fun D2 nD2 => ?_⟩
      refine lc_list (K := K) (a := la) (xs := zs.map fun x => V.ref x.1) (fun j Hj => Same H1 Hj ∧ Hj D2 = some (.lst (((zs.take j).filter fun x => !decide (x.2 ∈ Fs.getD ri [])).map fun x => V.ref x.1))) ⟨same_upd nD2, upd_same⟩ (fun j Hj _ hp => .of (hp.1 _ _ (s1 _ _ hla))) (fun j y Hj hy hp => ?_) (fun H2 hp => ?_)
      · obtain ⟨sj, eD2⟩ := hp
        rw [List.getElem?_map] at hy
        obtain ⟨u, hu, rfl⟩ := Option.map_eq_some_iff.mp hy
        have hm := List.mem_of_getElem? hu
        have lf := fil_len (zs := zs) j fun x => !decide (x ∈ Fs.getD ri [])
        have etk := fil_snoc (fun x => !decide (x ∈ Fs.getD ri [])) hu
        refine ⟨rfl, ?_⟩
        refine ⟨_, rfl, _, rfl, D, ks, u.2, u.1, rfl, rfl, sj _ _ eD, hrw.same (Tk.same sj), sj _ _ (s1 _ _ (hz u hm)), _, rfl, ?_⟩
        rw [hv u.2]
        refine ite2 (fun g => ?_) (fun g => ?_)
        · refine ⟨_, rfl, _, eD2, by rw [List.length_map]; exact small1 (by omega), fun b o e => ?_, ?_⟩
          · rw [upd_ne (ne_of_none e nD2)]
            exact sj _ _ e
          · rw [upd_same, etk, if_pos g, List.map_append]
            rfl
        · refine ⟨sj, ?_⟩
          rw [etk, if_neg g, List.append_nil]
          exact eD2
      · obtain ⟨s2, eD2⟩ := hp
        rw [List.length_map, List.take_of_length_le (Nat.le_refl _)] at eD2
        refine q H2 D2 (s1.trans s2) (s1.free nD2) ?_
        have : opR [] [] Fs (.min qi ri) = (zs.filter fun x => !decide (x.2 ∈ Fs.getD ri [])).map Prod.snd := by
          rw [mfil zs fun x => !decide (x ∈ Fs.getD ri []), ezs]
          rfl
        rw [this, ord_self (by rw [← this]; exact asc_filter asc _)]
        exact rlz _ eD2 fun x hx => s2 _ _ (s1 _ _ (hz x (List.mem_filter.mp hx).1))
theorem ok_ant {f : Addr} {fd : FuncData} (F : Fun K "anti_rows" "anti_rows" s_anti_rows f fd) (M : Mg mg) (c_matches_any : Cl P w K mg base 9 "matches_any" (sp_many K)) : FnOk P w K mg base CX0 10 f fd ["operation", "found"] (sp_opf K "anti") := by
  refine F.ok sc_anti_rows (fun vs H Q E h => ?_) (fun cdv A outer s H vs Q E hr h => ?_)
  · obtain ⟨x, fa, o, Fs, tw, sw, ws, wd, rfl, _⟩ := h
    rfl
  · obtain ⟨x, fa, o, Fs, tw, sw, ws, wd, rfl, eo, dp, hF, hw, hok, hlen, hws, w1, w2, q⟩ := h
    obtain ⟨e, qi, ri, rfl⟩ := Op.of_ant eo
    obtain ⟨h1, nb, h2, h3, h4⟩ := hw
    obtain ⟨g1, g2⟩ := hok.at h1
    obtain ⟨k1, k2⟩ := hok.at h2
    have nb1 := hws _ (List.mem_of_getElem? h2)
    obtain ⟨pa, xs, rfl, hpa, dxs⟩ := dp_tup dp
    obtain ⟨xe, xq, xr, rfl, de, dq, dr⟩ := dp_four dxs
    obtain rfl := dp_nat dq
    obtain rfl := dp_nat dr
    obtain ⟨fxs, la, hfa, hat, zs, hla, hz, ezs⟩ := hF.at g1
    obtain ⟨fxs', lb, hfa', hbt, hlb⟩ := hF.at k1
    obtain rfl : fxs' = fxs := HO.lst.inj (Option.some.inj (hfa'.symm.trans hfa))
    obtain ⟨asc, len⟩ := hlen _ (List.mem_of_getElem? g1)
    rw [← ezs, List.length_map] at len
    refine ⟨_, (pss_cons (ps_asg (pv 0) (pg_tup (by rfl) (pgs_cons (pg_name (i := 2) sc_anti_rows.nd rfl (.inl rfl)) (pgs_cons (pg_name (i := 3) sc_anti_rows.nd rfl (.inr rfl)) (pgs_cons (pg_name (i := 4) sc_anti_rows.nd rfl (.inl rfl)) (pgs_cons (pg_name (i := 5) sc_anti_rows.nd rfl (.inr rfl)) pgs_nil))))))
      (pss_one (ps_ret (pe_lc (own := [("row", 6)]) (g := gName 6) rfl sc_anti_rows.nd (pi_list (pe_ix (ix_listK K) (pv 1) (pv 4) (fun _ _ => rfl))) (blkOk_by (N := N_anti_rows) (sc := defScope s_anti_rows) (by decide +kernel)) (fun _ _ _ _ _ => (pg_name (i := 6) sc_anti_rows.nd rfl (.inl rfl))) (fun _ _ _ _ _ => (pts_one (pt_not (pt_val (pe_u c_matches_any hr (by first | decide | omega) (by rfl) (pa_cons (pv 3) (pa_cons (pv 6) (pa_cons (pe_ix (ix_listK K) (pv 1) (pv 5) (fun _ _ => rfl)) pa_nil)))))))) (fun _ _ _ _ _ => (pv 6)))))), ?_⟩
    refine ⟨_, rfl, pa, _, rfl, hpa, rfl, _, _, rfl, _, _, rfl, _, _, rfl, _, _, rfl, rfl, ?_⟩
    refine ⟨_, rfl, _, rfl, fa, fxs', _, _, rfl, rfl, .of hfa, hat, la, rfl, ⟨_, .of hla⟩, fun D nD => ?_⟩
    refine lc_list (K := K) (a := la) (xs := zs.map fun x => V.ref x.1) (fun j Hj => Same H Hj ∧ Hj D = some (.lst (((zs.take j).filter fun x => !(Fs.getD ri []).any (mtch e x.2)).map fun x => V.ref x.1))) ⟨same_upd nD, upd_same⟩ (fun j Hj _ hp => .of (hp.1 _ _ hla)) (fun j y Hj hy hp => ?_) (fun H1 hp => ?_)
    · obtain ⟨sj, eD⟩ := hp
      rw [List.getElem?_map] at hy
      obtain ⟨u, hu, rfl⟩ := Option.map_eq_some_iff.mp hy
      have hm := List.mem_of_getElem? hu
      obtain ⟨lu, ou⟩ := g2 u.2 (ezs ▸ List.mem_map.mpr ⟨u, hm, rfl⟩)
      have lf := fil_len (zs := zs) j fun x => !(Fs.getD ri []).any (mtch e x)
      have etk := fil_snoc (fun x => !(Fs.getD ri []).any (mtch e x)) hu
      refine ⟨rfl, ?_⟩
      refine ⟨_, rfl, _, rfl, _, rfl, _, rfl, fa, fxs', _, _, rfl, rfl, .of (sj _ _ hfa), hbt, ?_⟩
      refine ⟨xe, u.1, lb, e, u.2, Fs.getD ri [], nb, rfl, Dp.ext sj _ _ de, sj _ _ (hz u hm), hlb.same sj, by rw [lu]; exact h3, h4, ou, k2, by omega, nb1, fun H' s' => ⟨_, rfl, ?_⟩⟩
      refine ite2 (fun g => ?_) (fun g => ?_)
      · refine ⟨_, rfl, _, s' _ _ eD, by rw [List.length_map]; exact small1 (by omega), fun b o e => ?_, ?_⟩
        · rw [upd_ne (ne_of_none e nD)]
          exact s' _ _ (sj _ _ e)
        · rw [upd_same, etk, if_pos g, List.map_append]
          rfl
      · refine ⟨sj.trans s', ?_⟩
        rw [etk, if_neg g, List.append_nil]
        exact s' _ _ eD
    · obtain ⟨s1, eD⟩ := hp
      rw [List.length_map, List.take_of_length_le (Nat.le_refl _)] at eD
      refine q H1 D s1 nD ?_
      have : opR [] [] Fs (.ant e qi ri) = (zs.filter fun x => !(Fs.getD ri []).any (mtch e x.2)).map Prod.snd := by
        rw [mfil zs fun x => !(Fs.getD ri []).any (mtch e x), ezs]
        rfl
      rw [this, ord_self (by rw [← this]; exact asc_filter asc _)]
      exact rlz _ eD fun x hx => s1 _ _ (hz x (List.mem_filter.mp hx).1)
end

/-! ### a def that a name holds is called -/
def tCallH (P : Program) (w : World) (K : PySem.W.Frag) (mg : Str → Option Value) (base : Heap) (k i : Nat) (t : TA) : TE := fun σ H Q => ∃ f sp, σ[i]? = some (some (.ref f)) ∧ Hd P w K mg base k f sp ∧ t σ H fun vs H1 => sp vs H1 Q E0
section
variable {X : Cx} {k j i : Nat} {m x : Str} {C : Addr} {sp : Sp} {p pos apos : Pos} {o e : Expr} {es : List Expr} {t : TA} {ta : TE}
theorem pe_callH (hr : Room j X.A) (hk : k ≤ j) (hN : X.N[i]? = some x) (hv : Vis X.env.scope x) (ha : PA X (e :: es) t) (hdb : (x == ("__debug__" : Str)) = false := by decide) (hcd : (x == ("__classdict__" : Str)) = false := by decide) (he : starEach (e :: es) X.env = (false, eval e X.env) :: starEach es X.env := by rfl) (hpl : (backTo pos (starEach es X.env)).any (·.1) = false := by rfl) :
    PE X (.Call (.Name x p) (e :: es) [] pos) (tCallH X.prog X.w X.K X.mg X.base k i t) := by
  refine ⟨fun pins s σ H Q I h => ?_⟩
  obtain ⟨f, sp, hs, ⟨fd, ps, F, kp, b⟩, ht⟩ := h
  refine (pe_callL (i := i) (f := f) (sp := sp) (dvs := []) (E := E0) F (hr.mono hk) hN hv kp b .nil pass0 ha hdb hcd he hpl).run pins s σ H Q I ⟨hs, ?_⟩
  rw [show (fun (vs : List V) (H1 : Hp) => sp (vs ++ []) H1 Q E0) = fun vs H1 => sp vs H1 Q E0 from by funext vs H1; rw [List.append_nil]]
  exact ht
end

/-! ### group, the operations by their words, the plan -/
def sp_oprs (K : PySem.W.Frag) : Sp := fun vs H Q _ => ∃ (x : V) (ta sa fa : Addr) (o : Op) (T S F : List (List Row)) (tw sw ws : List Nat) (w : Nat), vs = [x, .ref ta, .ref sa, .ref fa] ∧ Dp K H x o.d ∧ FL H ta T ∧ FL H sa S ∧ FL H fa F ∧ o.okW tw sw ws w ∧ FsOk tw T ∧ FsOk sw S ∧ FsOk ws F ∧ (∀ rs ∈ T, rs.length ≤ 1000) ∧ (∀ rs ∈ S, rs.length ≤ 1000) ∧ (∀ rs ∈ F, Asc rs ∧ rs.length ≤ 1000) ∧ (∀ v ∈ ws, v ≤ 1000) ∧ 1 ≤ w ∧ w ≤ 1000 ∧ ∀ (H' : Hp) (p : Addr), Same H H' → H p = none → RL H' p (ord (opR T S F o)) → Q (.ref p) H'
def qWords : List String := ["filter", "map", "join", "union", "minus", "anti", "group"]
structure QpG (P : Program) (w : World) (K : PySem.W.Frag) (mg : Str → Option Value) (base : Heap) (kk : Nat) (aO : Addr) (eO : Array DictEntry) (nO : Nat) : Prop where
  OPERATIONS_queries : ∃ u, mg "OPERATIONS_queries" = some u ∧ RelV (.ref aO) u
  OPERATIONS_queries_D : KDict K w aO eO nO
  hit : ∀ wd ∈ qWords, ∃ f, PySem.W.nsIn K aO (Str.ofString wd) = some (some (.ref f)) ∧ Hd P w K mg base kk f (sp_opf K wd)
theorem nodup_inj {α β : Type} {f : α → β} : ∀ {l : List α}, (l.map f).Nodup → ∀ {a b : α}, a ∈ l → b ∈ l → f a = f b → a = b
  | [], _, _, _, h, _, _ => by cases h
  | x :: l, hn, a, b, ha, hb, e => by
    rw [List.map_cons, List.nodup_cons] at hn
    rcases List.mem_cons.mp ha with h1 | h1
    · rcases List.mem_cons.mp hb with h2 | h2
      · rw [h1, h2]
      · exact absurd (List.mem_map.mpr ⟨b, h2, by rw [← e, h1]⟩) hn.1
    · rcases List.mem_cons.mp hb with h2 | h2
      · exact absurd (List.mem_map.mpr ⟨a, h1, by rw [e, h2]⟩) hn.1
      · exact nodup_inj hn.2 h1 h2 e
/-- a group: its key, the key's tuple, the list of its rows -/
abbrev Gp := Row × Addr × Addr
def gE (g : Gp) : RE := (g.1, g.2.1, V.ref g.2.2)
def mem (es : List Ep) (zs : List AR) (k : Row) : List AR := zs.filter fun x => decide (keyR es x.2 = k)
theorem mem_snd (es : List Ep) (zs : List AR) (k : Row) : (mem es zs k).map Prod.snd = (zs.map Prod.snd).filter fun r => decide (keyR es r = k) := mfil zs fun x => decide (keyR es x = k)
theorem mem_snoc (es : List Ep) {zs : List AR} {j : Nat} {x : AR} (k : Row) (hx : zs[j]? = some x) : mem es (zs.take (j + 1)) k = mem es (zs.take j) k ++ if keyR es x.2 = k then [x] else [] := by
  have := fil_snoc (fun x => decide (keyR es x = k)) hx
  unfold mem
  rw [this]
  by_cases e : keyR es x.2 = k
  · rw [if_pos e, if_pos (decide_eq_true e)]
  · rw [if_neg e, if_neg (by simpa using e)]
structure GI (P : Program) (w : World) (es : List Ep) (zs : List AR) (H : Hp) (D : Addr) (j : Nat) (Hj : Hp) (gs : List Gp) : Prop where
  nd : H D = none
  sm : Same H Hj
  dD : Hj D = some (rdO P w D (gs.map gE))
  ka : ∀ g ∈ gs, Hj g.2.1 = some (.tup (g.1.map Vl.v))
  li : ∀ g ∈ gs, H g.2.2 = none ∧ Hj g.2.2 = some (.lst ((mem es (zs.take j) g.1).map fun x => V.ref x.1))
  ln : (gs.map fun g => g.2.2).Nodup
  ky : gs.map Prod.fst = keysR es ((zs.take j).map Prod.snd)
theorem keysR_nodup (es : List Ep) (rs : List Row) : (keysR es rs).Nodup := by
  unfold keysR
  split
  · exact List.pairwise_singleton _ _
  · exact distG_nodup _
theorem keysR_snoc (es : List Ep) (rs : List Row) (r : Row) : keysR es (rs ++ [r]) = if keyR es r ∈ keysR es rs then keysR es rs else keysR es rs ++ [keyR es r] := by
  unfold keysR
  by_cases e : es = []
  · subst e
    rw [if_pos rfl, if_pos rfl, if_pos (show keyR [] r ∈ [([] : Row)] from List.mem_singleton.mpr rfl)]
  · rw [if_neg e, if_neg e, List.map_append]
    show distG (_ ++ [keyR es r]) = _
    rw [distG_snoc]
    by_cases h : keyR es r ∈ distG (rs.map (keyR es))
    · rw [if_pos h, if_pos h]
    · rw [if_neg h, if_neg h]
section
variable {P : Program} {w : World}
theorem GI.rows {es : List Ep} {zs : List AR} {H : Hp} {D : Addr} {j : Nat} {Hj : Hp} {gs : List Gp} (h : GI P w es zs H D j Hj gs) : RowsAt Hj (gs.map gE) := fun x hx => by
  obtain ⟨g, hg, rfl⟩ := List.mem_map.mp hx
  exact h.ka g hg
theorem GI.keys {es : List Ep} {zs : List AR} {H : Hp} {D : Addr} {j : Nat} {Hj : Hp} {gs : List Gp} (h : GI P w es zs H D j Hj gs) : (gs.map Prod.fst).Nodup := by rw [h.ky]; exact keysR_nodup _ _
theorem GI.len {es : List Ep} {zs : List AR} {H : Hp} {D : Addr} {j : Nat} {Hj : Hp} {gs : List Gp} (h : GI P w es zs H D j Hj gs) (hl : zs.length ≤ 1000) : gs.length ≤ 1000 := by
  have e : gs.length = (gs.map Prod.fst).length := (List.length_map _).symm
  have := keysR_len (ks := es) (rs := (zs.take j).map Prod.snd)
  rw [← h.ky, List.length_map, List.length_map, List.length_take] at this
  omega
/-- a row's group is there -/
theorem GI.old {es : List Ep} {zs : List AR} {H : Hp} {D : Addr} {j : Nat} {Hj H' : Hp} {gs : List Gp} (h : GI P w es zs H D j Hj gs) (s' : Same Hj H') {x : AR} (hx : zs[j]? = some x) {g : Gp} (hg : g ∈ gs) (hk : g.1 = keyR es x.2) : GI P w es zs H D (j + 1) (upd H' g.2.2 (.lst (((mem es (zs.take j) g.1).map fun x => V.ref x.1) ++ [V.ref x.1]))) gs := by
  have kn := h.keys
  obtain ⟨l1, l2⟩ := h.li g hg
  have l2' := s' _ _ l2
  refine ⟨h.nd, fun b o e => ?_, ?_, fun y hy => ?_, fun y hy => ⟨(h.li y hy).1, ?_⟩, h.ln, ?_⟩
  · rw [upd_ne (ne_of_none e l1)]
    exact s' _ _ (h.sm _ _ e)
  · rw [upd_ne (fun e => ?_)]
    · exact s' _ _ h.dD
    · have := h.dD
      rw [e, l2] at this
      cases this
  · exact Tk.upd (fun ys z => by rw [l2'] at z; cases z) _ _ (s' _ _ (h.ka y hy))
  · rw [mem_snoc es y.1 hx]
    by_cases e : y = g
    · subst e
      rw [upd_same, if_pos hk.symm, List.map_append]
      rfl
    · have n1 : y.1 ≠ g.1 := fun z => e (nodup_inj (f := Prod.fst) kn hy hg z)
      have n2 : y.2.2 ≠ g.2.2 := fun z => e (nodup_inj (f := fun g : Gp => g.2.2) h.ln hy hg z)
      rw [upd_ne n2, if_neg (fun z => n1 (z.symm.trans hk.symm)), List.append_nil]
      exact s' _ _ (h.li y hy).2
  · rw [List.take_add_one, hx, List.map_append]
    show _ = keysR es (_ ++ [x.2])
    rw [keysR_snoc, ← h.ky, if_pos (List.mem_map.mpr ⟨g, hg, hk⟩)]
/-- a row's group is new -/
theorem GI.new {es : List Ep} {zs : List AR} {H : Hp} {D : Addr} {j : Nat} {Hj H' : Hp} {gs : List Gp} (h : GI P w es zs H D j Hj gs) (s' : Same Hj H') {x : AR} (hx : zs[j]? = some x) {p l : Addr} (hp : H' p = some (.tup ((keyR es x.2).map Vl.v))) (hl : H' l = none) (hk : keyR es x.2 ∉ gs.map Prod.fst) : GI P w es zs H D (j + 1) (upd (upd (upd H' l (.lst [])) D (rdO P w D (gs.map gE ++ [gE (keyR es x.2, p, l)]))) l (.lst [V.ref x.1])) (gs ++ [(keyR es x.2, p, l)]) := by
  have dD' := s' _ _ h.dD
  have nlD : l ≠ D := fun z => by rw [z, dD'] at hl; cases hl
  have npl : p ≠ l := fun z => by rw [z, hl] at hp; cases hp
  have npD : p ≠ D := fun z => by rw [z, dD'] at hp; cases hp
  have old : ∀ b o, H' b = some o → b ≠ D → (upd (upd (upd H' l (.lst [])) D (rdO P w D (gs.map gE ++ [gE (keyR es x.2, p, l)]))) l (.lst [V.ref x.1])) b = some o := fun b o e n => by
    have n1 : b ≠ l := fun z => by rw [z, hl] at e; cases e
    rw [upd_ne n1, upd_ne n, upd_ne n1]
    exact e
  have nm : mem es (zs.take j) (keyR es x.2) = [] := by
    refine List.filter_eq_nil_iff.mpr fun y hy => ?_
    intro e
    refine hk ?_
    rw [h.ky]
    have hd : keyR es x.2 ∈ (((zs.take j).map Prod.snd).map (keyR es)) := by
      rw [List.map_map]
      exact List.mem_map.mpr ⟨y, hy, of_decide_eq_true e⟩
    unfold keysR
    split
    · rename_i e0
      rw [e0]
      exact List.mem_singleton.mpr rfl
    · exact (distG_mem _ _).mpr hd
  have hD := h.nd
  refine ⟨hD, fun b o e => old b o (s' _ _ (h.sm _ _ e)) (ne_of_none e hD), ?_, fun y hy => ?_, fun y hy => ?_, ?_, ?_⟩
  · rw [upd_ne (Ne.symm nlD), upd_same, List.map_append]
    rfl
  · rcases List.mem_append.mp hy with hy | hy
    · refine old _ _ (s' _ _ (h.ka y hy)) fun z => ?_
      have := h.ka y hy
      rw [z, h.dD] at this
      cases this
    · rw [List.mem_singleton.mp hy]
      exact old _ _ hp npD
  · rcases List.mem_append.mp hy with hy | hy
    · have n1 : y.1 ≠ keyR es x.2 := fun z => hk (List.mem_map.mpr ⟨y, hy, z⟩)
      refine ⟨(h.li y hy).1, old _ _ ?_ fun z => ?_⟩
      · rw [mem_snoc es y.1 hx, if_neg (Ne.symm n1), List.append_nil]
        exact s' _ _ (h.li y hy).2
      · have := (h.li y hy).2
        rw [z, h.dD] at this
        cases this
    · rw [List.mem_singleton.mp hy]
      refine ⟨h.sm.free (s'.free hl), ?_⟩
      show upd _ l _ l = _
      rw [upd_same, mem_snoc es _ hx, nm, if_pos rfl]
      rfl
  · rw [List.map_append]
    refine List.nodup_append.mpr ⟨h.ln, List.pairwise_singleton _ _, fun a ha b hb e => ?_⟩
    obtain ⟨y, hy, rfl⟩ := List.mem_map.mp ha
    rw [List.mem_singleton.mp hb] at e
    have := s' _ _ (h.li y hy).2
    rw [show y.2.2 = l from e, hl] at this
    cases this
  · rw [List.take_add_one, hx, List.map_append, List.map_append]
    show _ = keysR es (_ ++ [x.2])
    rw [keysR_snoc, ← h.ky, if_neg hk]
    rfl
end
section
variable {P : Program} {w : World} {K : PySem.W.Frag} {mg : Str → Option Value} {base : Heap}
theorem ok_grp {f : Addr} {fd : FuncData} (F : Fun K "group_rows" "group_rows" s_group_rows f fd) (M : Mg mg) (c_values_of : Cl P w K mg base 8 "values_of" (sp_vof K)) (c_totals_of : Cl P w K mg base 9 "totals_of" (sp_tof K)) (c_in_order : Cl P w K mg base 5 "in_order" (sp_ino K)) : FnOk P w K mg base CX0 10 f fd ["operation", "found"] (sp_opf K "group") := by
  refine F.ok sc_group_rows (fun vs H Q E h => ?_) (fun cdv A outer s H vs Q E hr h => ?_)
  · obtain ⟨x, fa, o, Fs, tw, sw, ws, wd, rfl, _⟩ := h
    rfl
  · obtain ⟨x, fa, o, Fs, tw, sw, ws, wd, rfl, eo, dp, hF, hw, hok, hlen, hws, w1, w2, q⟩ := h
    obtain ⟨ks, ts, qi, rfl⟩ := Op.of_grp eo
    have hR : RsOk wd (opR [] [] Fs (.grp ks ts qi)) := opR_ok0 hok hlen hw
    obtain ⟨h1, v, h2, h3, h4⟩ := hw
    obtain ⟨g1, g2⟩ := hok.at h2
    obtain ⟨pa, xs, rfl, hpa, dxs⟩ := dp_tup dp
    obtain ⟨xk, xt, xq, rfl, dk, dt, dq⟩ := dp_four dxs
    obtain rfl := dp_nat dq
    obtain ⟨fxs, la, hfa, hat, zs, hla, hz, ezs⟩ := hF.at g1
    obtain ⟨asc, len⟩ := hlen _ (List.mem_of_getElem? g1)
    obtain ⟨ka, kxs, rfl, hka, dka⟩ := dpl_get dk
    have hkx : kxs.isEmpty = true ↔ ks = [] := by
      rw [List.isEmpty_iff, ← List.length_eq_zero_iff, DpAll.len dka, List.length_map, List.length_eq_zero_iff]
    rw [← ezs, List.length_map] at len
    have hts : ts.length ≤ 1000 := by omega
    have hks : ks.length ≤ 1000 := by omega
    have key0 : ∃ n : Nat, n = 0 := ⟨0, rfl⟩
    refine ⟨_, (pss_cons (ps_asg (pv 0) (pg_tup (by rfl) (pgs_cons (pg_name (i := 2) sc_group_rows.nd rfl (.inl rfl)) (pgs_cons (pg_name (i := 3) sc_group_rows.nd rfl (.inl rfl)) (pgs_cons (pg_name (i := 4) sc_group_rows.nd rfl (.inr rfl)) (pgs_cons (pg_name (i := 5) sc_group_rows.nd rfl (.inl rfl)) pgs_nil))))))
      (pss_cons (ps_set (i := 6) sc_group_rows.nd rfl (.inl rfl) (pe_ifExp (pt_truthK K (pv 3) (by intro _; rfl)) (pe_rnew P w) (pe_rdisp1 P w (hu_of hr) (pe_tup pa_nil) (pe_lst pa_nil))))
      (pss_cons (ps_for PassesOwn.never rfl (pi_list (pe_ix (ix_listK K) (pv 1) (pv 5) (fun _ _ => rfl))) (pg_name (i := 7) sc_group_rows.nd rfl (.inl rfl)) (pss_one (ps_expr (pe_bmK K PySem.F.plainAttrs_list PySem.F.slot_list_append PySem.F.type_list_append mt_append (pe_rsetd P w (hu_of hr) (pv 6) (pe_u c_values_of hr (by first | decide | omega) (by rfl) (pa_cons (pv 3) (pa_cons (pv 7) pa_nil))) (pe_lst pa_nil) ⟨rfl, rfl, rfl, rfl⟩) (pa_cons (pv 7) pa_nil)))))
      (pss_one (ps_ret (pe_u c_in_order hr (by first | decide | omega) (by rfl) (pa_cons (pe_lc (own := [("key", 8), ("rows", 9)]) (g := gTup K 2 (gCons (gName 8) (gCons (gName 9) (gNil)))) (tt := tYes) rfl sc_group_rows.nd (pi_ritems P w (pv 6)) (blkOk_by (N := N_group_rows) (sc := defScope s_group_rows) (by decide +kernel)) (fun _ _ _ _ _ => (pg_tup (by rfl) (pgs_cons (pg_name (i := 8) sc_group_rows.nd rfl (.inl rfl)) (pgs_cons (pg_name (i := 9) sc_group_rows.nd rfl (.inl rfl)) pgs_nil)))) (fun _ _ _ _ _ => pts_nil) (fun _ _ _ _ _ => (pe_op (op_catAK K) (pv 8) (pe_u c_totals_of hr (by first | decide | omega) (by rfl) (pa_cons (pv 4) (pa_cons (pv 9) pa_nil)))))) pa_nil))))))), ?_⟩
    refine ⟨_, rfl, pa, _, rfl, hpa, rfl, _, _, rfl, _, _, rfl, _, _, rfl, _, _, rfl, rfl, ?_⟩
    refine ⟨_, rfl, _, .inl ⟨kxs, hka, rfl⟩, ite2 (fun hc => ?h1) (fun hc => ?h2)⟩
    case' h1 =>
      have ke : ks ≠ [] := fun z => by
        rw [hkx.mpr z] at hc
        cases hc
      intro D nD
      have h0 : GI P w ks zs H D 0 (upd H D (rdO P w D [])) [] := ⟨nD, same_upd nD, upd_same, (fun _ h => by cases h), (fun _ h => by cases h), List.nodup_nil, by unfold keysR; rw [if_neg ke]; rfl⟩
      generalize upd H D (rdO P w D []) = H0 at h0 ⊢
      generalize ([] : List Gp) = gs0 at h0
    case' h2 =>
      have ke : ks = [] := hkx.mp (by cases e : kxs.isEmpty with | true => rfl | false => rw [e] at hc; exact absurd rfl hc)
      intro D nD
      refine ⟨Nat.zero_le _, fun p np => ⟨Nat.zero_le _, fun l nl => ⟨[], p, rfl, ?_, ?_, ?_⟩⟩⟩
      · have npD : D ≠ p := fun z => by rw [← z, upd_same] at np; cases np
        have nlD : D ≠ l := fun z => by rw [← z, upd_ne npD, upd_same] at nl; cases nl
        rw [upd_ne nlD, upd_ne npD, upd_same]
      · have npl : p ≠ l := fun z => by rw [← z, upd_same] at nl; cases nl
        rw [upd_ne npl, upd_same]
        rfl
      have npD : D ≠ p := fun z => by rw [← z, upd_same] at np; cases np
      have nlD : D ≠ l := fun z => by rw [← z, upd_ne npD, upd_same] at nl; cases nl
      have npl : p ≠ l := fun z => by rw [← z, upd_same] at nl; cases nl
      have hl0 : H l = none := by
        rw [upd_ne (Ne.symm npl), upd_ne (Ne.symm nlD)] at nl
        exact nl
      have hp0 : H p = none := by
        rw [upd_ne (Ne.symm npD)] at np
        exact np
      have h0 : GI P w ks zs H D 0 (upd (upd (upd (upd H D (rdO P w D [])) p (.tup [])) l (.lst [])) D (rdO P w D [([], p, .ref l)])) [([], p, l)] := ⟨nD, fun b o e => by rw [upd_ne (ne_of_none e nD), upd_ne (ne_of_none e hl0), upd_ne (ne_of_none e hp0), upd_ne (ne_of_none e nD)]; exact e, upd_same, fun g hg => by
          rw [List.mem_singleton.mp hg]
          show upd _ D _ p = _
          rw [upd_ne (Ne.symm npD), upd_ne npl, upd_same]
          rfl, fun g hg => by
          rw [List.mem_singleton.mp hg]
          refine ⟨hl0, ?_⟩
          show upd _ D _ l = _
          rw [upd_ne (Ne.symm nlD), upd_same]
          rfl, List.pairwise_singleton _ _, by unfold keysR; rw [if_pos ke]; rfl⟩
      generalize upd (upd (upd (upd H D (rdO P w D [])) p (.tup [])) l (.lst [])) D (rdO P w D [([], p, .ref l)]) = H0 at h0 ⊢
      generalize ([([], p, l)] : List Gp) = gs0 at h0
      clear hp0 hl0 npl nlD npD nl np
    all_goals
      refine ⟨_, rfl, _, rfl, fa, fxs, _, _, rfl, rfl, .of (h0.sm _ _ hfa), hat, la, rfl, ⟨_, .of (h0.sm _ _ hla)⟩, ?_⟩
      refine for_list (K := K) (a := la) (xs := zs.map fun x => V.ref x.1) (fun j σ Hj => (∃ gs, GI P w ks zs H D j Hj gs) ∧ ∃ y z, σ = [some (.ref pa), some (.ref fa), some y, some (.ref ka), some xt, some (.int ((qi : Nat) : Int)), some (.ref D), z, none, none]) ⟨⟨gs0, h0⟩, _, _, rfl⟩ (fun j σ Hj _ hp => .of (hp.1.choose_spec.sm _ _ hla)) (fun j y σ Hj hy hp => ?_) (fun σ Hn hp => ?_)
      · obtain ⟨⟨gs, hg⟩, y1, z, rfl⟩ := hp
        rw [List.getElem?_map] at hy
        obtain ⟨x, hx, rfl⟩ := Option.map_eq_some_iff.mp hy
        have hm := List.mem_of_getElem? hx
        obtain ⟨lu, ou⟩ := g2 x.2 (ezs ▸ List.mem_map.mpr ⟨x, hm, rfl⟩)
        have lg := hg.len len
        have lm : ∀ k, (mem ks (zs.take j) k).length ≤ 1000 := fun k => Nat.le_trans (List.length_filter_le _ _) (Nat.le_trans (List.length_take_le' _ _) len)
        refine ⟨_, rfl, D, _, rfl, hg.dD, ?_⟩
        refine ⟨_, rfl, _, rfl, V.ref ka, x.1, ks, x.2, rfl, Dp.ext hg.sm _ _ dk, hg.sm _ _ (hz x hm), by rw [lu]; exact h3, ou, hks, fun H' p s' np e' => ?_⟩
        refine ⟨Nat.zero_le _, fun l nl => ?_⟩
        have s2 := same_upd (o := HO.lst []) nl
        refine ⟨gs.map gE, keyR ks x.2, p, rfl, s2 _ _ (s' _ _ hg.dD), hg.rows.same (Tk.same (s'.trans s2)), s2 _ _ e', by rw [List.length_map]; exact small1 lg, fun v' ev => ?_, fun ev => ?_⟩
        · obtain ⟨a, hmv⟩ := valR_some ev
          obtain ⟨g, hgm, eg⟩ := List.mem_map.mp hmv
          have e1 : g.1 = keyR ks x.2 := congrArg Prod.fst eg
          have e2 : V.ref g.2.2 = v' := congrArg (fun z : RE => z.2.2) eg
          subst e2
          have el := s2 _ _ (s' _ _ (hg.li g hgm).2)
          refine ⟨.inl ⟨rfl, _, .of el⟩, _, rfl, g.2.2, _, _, rfl, rfl, el, by rw [List.length_map]; exact small1 (lm _), ⟨gs, ?_⟩, _, _, rfl⟩
          exact hg.old (s'.trans s2) hx hgm e1
        · have ep : putR (gs.map gE) (keyR ks x.2) p (.ref l) = gs.map gE ++ [gE (keyR ks x.2, p, l)] := by
            unfold putR
            rw [ev]
            rfl
          have nk : keyR ks x.2 ∉ gs.map Prod.fst := fun hmk => by
            obtain ⟨g, hgm, eg⟩ := List.mem_map.mp hmk
            exact valR_none ev (gE g) (List.mem_map.mpr ⟨g, hgm, rfl⟩) eg
          have nlD : l ≠ D := fun z => by
            have := s' _ _ hg.dD
            rw [← z, nl] at this
            cases this
          rw [ep]
          have el : upd (upd H' l (.lst [])) D (rdO P w D (gs.map gE ++ [gE (keyR ks x.2, p, l)])) l = some (.lst []) := by rw [upd_ne nlD, upd_same]
          refine ⟨.inl ⟨rfl, _, .of el⟩, _, rfl, l, [], _, rfl, rfl, el, small1 (Nat.zero_le _), ⟨gs ++ [(keyR ks x.2, p, l)], ?_⟩, _, _, rfl⟩
          exact hg.new s' hx e' nl nk
      · obtain ⟨⟨gs, hg⟩, y1, z, rfl⟩ := hp
        rw [List.length_map] at hg
        have lg := hg.len len
        have htk : zs.take zs.length = zs := List.take_of_length_le (Nat.le_refl _)
        have hli := hg.li
        have hky := hg.ky
        rw [htk] at hli hky
        have e0 : opR [] [] Fs (.grp ks ts qi) = gs.map fun g => g.1 ++ ts.map fun t => t.ev ((mem ks zs g.1).map Prod.snd) := by
          show grpR ks ts (Fs.getD qi []) = _
          unfold grpR
          rw [← ezs, ← hky, List.map_map]
          refine List.map_congr_left fun g _ => ?_
          show g.1 ++ _ = g.1 ++ _
          rw [mem_snd]
        rw [e0] at q hR
        refine ⟨_, rfl, D, gs.map gE, rfl, hg.dD, fun o => ?_⟩
        have s1 : Same H (upd Hn D (rdF P w D o (gs.map gE))) := fun b o e => by
          rw [upd_ne (ne_of_none e nD)]
          exact hg.sm _ _ e
        have hli1 : ∀ g ∈ gs, upd Hn D (rdF P w D o (gs.map gE)) g.2.2 = some (.lst ((mem ks zs g.1).map fun x => V.ref x.1)) := fun g hgm => by
          rw [upd_ne (fun z => ?_)]
          · exact (hli g hgm).2
          · have := (hli g hgm).2
            rw [z, hg.dD] at this
            cases this
        have hka1 : ∀ g ∈ gs, upd Hn D (rdF P w D o (gs.map gE)) g.2.1 = some (.tup (g.1.map Vl.v)) := fun g hgm => by
          rw [upd_ne (fun z => ?_)]
          · exact hg.ka g hgm
          · have := hg.ka g hgm
            rw [z, hg.dD] at this
            cases this
        have eD1 : upd Hn D (rdF P w D o (gs.map gE)) D = some (rdF P w D o (gs.map gE)) := upd_same
        generalize upd Hn D (rdF P w D o (gs.map gE)) = Hd at s1 hli1 hka1 eD1 ⊢
        intro L nL
        refine lc_rit (P := P) (w := w) (d := D) (o := o) (ks := gs.map gE) (fun j Hj => Same Hd Hj ∧ ∃ ms : List AR, Hj L = some (.lst (ms.map fun x => V.ref x.1)) ∧ (∀ m ∈ ms, Hj m.1 = some (.tup (m.2.map Vl.v))) ∧ ms.map Prod.snd = (gs.take j).map fun g => g.1 ++ ts.map fun t => t.ev ((mem ks zs g.1).map Prod.snd)) ⟨same_upd nL, [], upd_same, (fun _ h => by cases h), rfl⟩ (fun j Hj _ hp => hp.1 _ _ eD1) (fun j y Hj T hy hp nT => ?_) (fun H2 hp => ?_)
        · obtain ⟨sj, ms, eL, hms, ems⟩ := hp
          rw [List.getElem?_map] at hy
          obtain ⟨g, hgj, rfl⟩ := Option.map_eq_some_iff.mp hy
          have hgm := List.mem_of_getElem? hgj
          have lms : ms.length ≤ 1000 := by
            rw [← List.length_map (f := Prod.snd), ems, List.length_map]
            exact Nat.le_trans (List.length_take_le' _ _) lg
          have sT := same_upd (o := HO.tup [V.ref (gE g).2.1, (gE g).2.2]) nT
          have hmr : RsOk v ((mem ks zs g.1).map Prod.snd) := fun r hr => by
            rw [mem_snd, ezs] at hr
            exact g2 r (List.mem_filter.mp hr).1
          have lmm : (mem ks zs g.1).length ≤ 1000 := Nat.le_trans (List.length_filter_le _ _) len
          refine ⟨T, _, rfl, .of upd_same, rfl, _, _, rfl, _, _, rfl, rfl, rfl, ?_⟩
          refine ⟨_, rfl, _, rfl, _, rfl, xt, g.2.2, ts, (mem ks zs g.1).map Prod.snd, v, rfl, Dp.ext (s1.trans (sj.trans sT)) _ _ dt, rlz _ (sT _ _ (sj _ _ (hli1 g hgm))) (fun x hx => sT _ _ (sj _ _ (s1 _ _ (hz x (List.mem_filter.mp hx).1)))), h4, hmr, by rw [List.length_map]; exact lmm, hts, fun H' p s' np e' => ?_⟩
          have sa := sj.trans (sT.trans s')
          have eL' := s' _ _ (sT _ _ eL)
          have go : ∀ (H7 : Hp) (p7 : Addr), Same H' H7 → H7 p7 = some (.tup ((g.1 ++ ts.map fun t => t.ev ((mem ks zs g.1).map Prod.snd)).map Vl.v)) → ∃ acc, H7 L = some (.lst acc) ∧ acc.length < sizeLine ∧ (Same Hd (upd H7 L (.lst (acc ++ [V.ref p7]))) ∧ ∃ ms : List AR, upd H7 L (.lst (acc ++ [V.ref p7])) L = some (.lst (ms.map fun x => V.ref x.1)) ∧ (∀ m ∈ ms, upd H7 L (.lst (acc ++ [V.ref p7])) m.1 = some (.tup (m.2.map Vl.v))) ∧ ms.map Prod.snd = (gs.take (j + 1)).map fun g => g.1 ++ ts.map fun t => t.ev ((mem ks zs g.1).map Prod.snd)) := fun H7 p7 s7 hp7 => by
            have eL7 := s7 _ _ eL'
            refine ⟨_, eL7, by rw [List.length_map]; exact small1 lms, fun b o e => ?_, ms ++ [(p7, g.1 ++ ts.map fun t => t.ev ((mem ks zs g.1).map Prod.snd))], ?_, fun m hm => ?_, ?_⟩
            · rw [upd_ne (ne_of_none e nL)]
              exact s7 _ _ (sa _ _ e)
            · rw [upd_same, List.map_append]
              rfl
            · refine Tk.upd (fun ys z => by rw [eL7] at z; cases z) _ _ ?_
              rcases List.mem_append.mp hm with hm | hm
              · exact s7 _ _ (s' _ _ (sT _ _ (hms m hm)))
              · rw [List.mem_singleton.mp hm]
                exact hp7
            · rw [List.map_append, ems, List.take_add_one, hgj, List.map_append]
              rfl
          refine ⟨g.2.1, p, _, _, rfl, rfl, .of (sa _ _ (hka1 g hgm)), .of e', ?_, fun en => ?_, fun _ en => ?_, fun _ _ p2 np2 => ?_⟩
          · rw [List.length_map, List.length_map, List.length_map]
            have kl : g.1.length ≤ 1000 := by
              have hkm : g.1 ∈ keysR ks (zs.map Prod.snd) := hky ▸ List.mem_map.mpr ⟨g, hgm, rfl⟩
              rcases keysR_mem hkm with ⟨_, e2⟩ | ⟨r, _, e⟩
              · rw [e2]
                exact Nat.zero_le _
              · rw [← e]
                unfold keyR
                rw [List.length_map]
                exact hks
            exact Nat.le_trans (m := 2000) (by omega) (by decide)
          · have : g.1 = [] := List.map_eq_nil_iff.mp en
            refine go H' p (fun _ _ h => h) ?_
            rw [this] at e' ⊢
            exact e'
          · refine go H' g.2.1 (fun _ _ h => h) ?_
            rw [List.map_append, en, List.append_nil]
            exact sa _ _ (hka1 g hgm)
          · exact go _ p2 (same_upd np2) (by rw [upd_same, List.map_append])
        · obtain ⟨s2, ms, eL, hms, ems⟩ := hp
          rw [List.length_map, List.take_of_length_le (Nat.le_refl _)] at ems
          refine ⟨L, _, rfl, ⟨ms, eL, hms, ems⟩, rok_of hR w1 w2, ?_, fun H' p s' np h => q H' p (s1.trans (s2.trans s')) (s1.free (s2.free np)) h⟩
          rw [List.length_map]
          omega
theorem ok_oprs {kk : Nat} {aO : Addr} {eO : Array DictEntry} {nO : Nat} (hkk : kk ≤ 11) (G : QpG P w K mg base kk aO eO nO) {f : Addr} {fd : FuncData} (F : Fun K "operation_rows" "operation_rows" s_operation_rows f fd) (M : Mg mg) (c_in_order : Cl P w K mg base 5 "in_order" (sp_ino K)) : FnOk P w K mg base CX0 12 f fd ["operation", "tables", "steps", "found"] (sp_oprs K) := by
  refine F.ok sc_operation_rows (fun vs H Q E h => ?_) (fun cdv A outer s H vs Q E hr h => ?_)
  · obtain ⟨x, ta, sa, fa, o, T, S, Fs, tw, sw, ws, wd, rfl, _⟩ := h
    rfl
  · obtain ⟨x, ta, sa, fa, o, T, S, Fs, tw, sw, ws, wd, rfl, dp, hT, hS, hF, hw, okT, okS, hok, lenT, lenS, hlen, hws, w1, w2, q⟩ := h
    refine ⟨_, (pss_cons (ps_set (i := 4) sc_operation_rows.nd rfl (.inl rfl) (pe_ix (ix_tupK K) (pv 0) pe_int (fun _ _ => rfl)))
      (pss_cons (ps_if (pt_cmpR op_eq (pv 4) pe_str (nomark _)) (pss_one (ps_ret (pe_u c_in_order hr (by first | decide | omega) (by rfl) (pa_cons (pe_ix (ix_listK K) (pv 1) (pe_ix (ix_tupK K) (pv 0) pe_int (fun _ _ => rfl)) (fun _ _ => rfl)) pa_nil)))) pss_nil)
      (pss_cons (ps_if (pt_cmpR op_eq (pv 4) pe_str (nomark _)) (pss_one (ps_ret (pe_u c_in_order hr (by first | decide | omega) (by rfl) (pa_cons (pe_ix (ix_listK K) (pv 2) (pe_ix (ix_tupK K) (pv 0) pe_int (fun _ _ => rfl)) (fun _ _ => rfl)) pa_nil)))) pss_nil)
      (pss_cons (ps_set (i := 5) sc_operation_rows.nd rfl (.inl rfl) (pe_ix ix_kdict (C8.pe_gc (by rfl) G.OPERATIONS_queries) (pv 4) (fun _ _ => rfl)))
      (pss_one (ps_ret (pe_callH (k := kk) hr (by first | decide | omega) (i := 5) rfl (.inl rfl) (pa_cons (pv 0) (pa_cons (pv 3) pa_nil))))))))), ?_⟩
    by_cases ht : ∃ i, o = .tab i
    · obtain ⟨i, rfl⟩ := ht
      have dp : Dp K H x (.tuple [.str (Str.ofString "table"), nI i]) := dp
      obtain ⟨pa, xs, rfl, hpa, dxs⟩ := dp_tup dp
      obtain ⟨u, rfl, du⟩ := dp_two dxs
      obtain rfl := dp_nat du
      obtain ⟨g1, g2⟩ := okT.at hw
      obtain ⟨txs, a, hta, hat, hRL⟩ := hT.at g1
      have := lenT _ (List.mem_of_getElem? g1)
      refine ⟨_, rfl, pa, _, _, _, rfl, rfl, hpa, atI_nat (j := 0) rfl, ?_⟩
      refine ⟨_, rfl, rfl, _, rfl, ?_⟩
      rw [weq]
      refine iteT ⟨_, rfl, _, rfl, pa, _, _, _, rfl, rfl, hpa, atI_nat (j := 1) rfl, ta, _, _, _, rfl, rfl, .of hta, hat, ?_⟩
      exact ⟨a, T.getD i [], rfl, hRL, rok_of g2 w1 w2, by omega, q⟩
    by_cases hs : ∃ i, o = .stp i
    · obtain ⟨i, rfl⟩ := hs
      have dp : Dp K H x (.tuple [.str (Str.ofString "step"), nI i]) := dp
      obtain ⟨pa, xs, rfl, hpa, dxs⟩ := dp_tup dp
      obtain ⟨u, rfl, du⟩ := dp_two dxs
      obtain rfl := dp_nat du
      obtain ⟨g1, g2⟩ := okS.at hw
      obtain ⟨txs, a, hta, hat, hRL⟩ := hS.at g1
      have := lenS _ (List.mem_of_getElem? g1)
      refine ⟨_, rfl, pa, _, _, _, rfl, rfl, hpa, atI_nat (j := 0) rfl, ?_⟩
      refine ⟨_, rfl, rfl, _, rfl, ?_⟩
      rw [wne "step" "table" (by decide +kernel)]
      refine iteF ⟨_, rfl, rfl, _, rfl, ?_⟩
      rw [weq]
      refine iteT ⟨_, rfl, _, rfl, pa, _, _, _, rfl, rfl, hpa, atI_nat (j := 1) rfl, sa, _, _, _, rfl, rfl, .of hta, hat, ?_⟩
      exact ⟨a, S.getD i [], rfl, hRL, rok_of g2 w1 w2, by omega, q⟩
    · obtain ⟨z1, z2, z3, z4⟩ : (Str.ofString o.wd == Str.ofString "table") = false ∧ (Str.ofString o.wd == Str.ofString "step") = false ∧ o.wd ∈ qWords ∧ opR T S Fs o = opR [] [] Fs o := by
        cases o with
        | tab i => exact absurd ⟨i, rfl⟩ ht
        | stp i => exact absurd ⟨i, rfl⟩ hs
        | _ => exact ⟨(by simp only [Op.wd]; decide +kernel), (by simp only [Op.wd]; decide +kernel), (by simp [qWords, Op.wd]), rfl⟩
      obtain ⟨fo, hns, hd⟩ := G.hit _ z3
      have dp' := dp
      obtain ⟨pa, xs, rfl, hpa, dxs⟩ := dp_tup dp
      obtain ⟨vs, rfl⟩ : ∃ vs, xs = .str (Str.ofString o.wd) :: vs := by
        cases dxs with
        | cons h1 h2 => cases h1; exact ⟨_, rfl⟩
      refine ⟨_, rfl, pa, _, _, _, rfl, rfl, hpa, atI_nat (j := 0) rfl, ?_⟩
      refine ⟨_, rfl, rfl, _, rfl, ?_⟩
      rw [wne _ _ z1]
      refine iteF ⟨_, rfl, rfl, _, rfl, ?_⟩
      rw [wne _ _ z2]
      refine iteF ?_
      refine ⟨_, rfl, aO, _, .ref fo, rfl, rfl, ⟨eO, nO, _, G.OPERATIONS_queries_D.1, G.OPERATIONS_queries_D.2, hns, rfl⟩, ?_⟩
      refine ⟨fo, _, rfl, hd, _, rfl, _, rfl, ?_⟩
      exact ⟨.ref pa, fa, o, Fs, tw, sw, ws, wd, rfl, rfl, dp', hF, hw, hok, hlen, hws, w1, w2, fun H' p s np h => q H' p s np (by rw [z4]; exact h)⟩
end

/-! ### a plan is run -/
/-- a plan whose operations fit, over tables and steps -/
def PlOk (tw sw : List Nat) (T S : List (List Row)) (ops : List Op) (ws : List Nat) : Prop := ws.length = ops.length ∧ (∀ (i : Nat) (o : Op) (w : Nat), ops[i]? = some o → ws[i]? = some w → o.okW tw sw (ws.take i) w ∧ 1 ≤ w ∧ w ≤ 1000) ∧ ∀ rs ∈ runs T S ops, rs.length ≤ 1000
def sp_qr (K : PySem.W.Frag) : Sp := fun vs H Q _ => ∃ (x : V) (ta sa : Addr) (ops : List Op) (T S : List (List Row)) (tw sw ws : List Nat), vs = [x, .ref ta, .ref sa] ∧ Dp K H x (.list (ops.map Op.d)) ∧ ops ≠ [] ∧ ops.length ≤ 1000 ∧ FL H ta T ∧ FL H sa S ∧ FsOk tw T ∧ FsOk sw S ∧ (∀ rs ∈ T, rs.length ≤ 1000) ∧ (∀ rs ∈ S, rs.length ≤ 1000) ∧ PlOk tw sw T S ops ws ∧ ∀ (H' : Hp) (p : Addr), Same H H' → H p = none → RL H' p ((runs T S ops).getLastD []) → Q (.ref p) H'
theorem RL.upd {H : Hp} {p D : Addr} {rs : List Row} {xs : List V} {o : HO} (h : RL H p rs) (hD : H D = some (.lst xs)) (n : p ≠ D) : RL (upd H D o) p rs := by
  obtain ⟨zs, h1, h2, h3⟩ := h
  refine ⟨zs, by rw [upd_ne n]; exact h1, fun x hx => ?_, h3⟩
  exact Tk.upd (fun ys z => by rw [hD] at z; cases z) _ _ (h2 x hx)
theorem runs_take (T S : List (List Row)) {ops : List Op} {j : Nat} {o : Op} (h : ops[j]? = some o) : runs T S (ops.take (j + 1)) = runs T S (ops.take j) ++ [ord (opR T S (runs T S (ops.take j)) o)] := by
  rw [List.take_add_one, h]
  exact runs_snoc T S _ o
theorem runs_pre (T S : List (List Row)) (ops : List Op) (j : Nat) : ∀ rs ∈ runs T S (ops.take j), rs ∈ runs T S ops := by
  have go : ∀ (n j : Nat), ops.length = j + n → ∀ rs ∈ runs T S (ops.take j), rs ∈ runs T S ops := by
    intro n
    induction n with
    | zero => intro j e rs h; rw [List.take_of_length_le (by omega)] at h; exact h
    | succ n ih =>
      intro j e rs h
      have hj : j < ops.length := by omega
      refine ih (j + 1) (by omega) rs ?_
      rw [runs_take T S (List.getElem?_eq_getElem hj)]
      exact List.mem_append_left _ h
  intro rs h
  by_cases hj : j ≤ ops.length
  · exact go (ops.length - j) j (by omega) rs h
  · rw [List.take_of_length_le (by omega)] at h
    exact h
section
variable {P : Program} {w : World} {K : PySem.W.Frag} {mg : Str → Option Value} {base : Heap}
/-- what stands before an operation is run -/
theorem plOk_at {tw sw : List Nat} {T S : List (List Row)} {ops : List Op} {ws : List Nat} (okT : FsOk tw T) (okS : FsOk sw S) (h : PlOk tw sw T S ops ws) : ∀ j, j ≤ ops.length → FsOk (ws.take j) (runs T S (ops.take j)) ∧ ∀ rs ∈ runs T S (ops.take j), Asc rs ∧ rs.length ≤ 1000
  | 0, _ => ⟨⟨rfl, fun i rs w h => by simp [runs] at h⟩, fun rs h => by simp [runs] at h⟩
  | j + 1, hj => by
    obtain ⟨i1, i2⟩ := plOk_at okT okS h j (by omega)
    have ho := List.getElem?_eq_getElem (show j < ops.length from hj)
    have hw := List.getElem?_eq_getElem (show j < ws.length from by rw [h.1]; exact hj)
    obtain ⟨k1, k2, k3⟩ := h.2.1 j _ _ ho hw
    have hR := opR_ok okT okS i1 (fun rs h => Nat.le_trans (i2 rs h).2 (by omega)) k1
    have lr : (runs T S (ops.take j)).length = j := by rw [runs_len, List.length_take]; omega
    have lw : (ws.take j).length = j := by rw [List.length_take, h.1]; omega
    rw [runs_take T S ho, List.take_add_one, hw]
    refine ⟨⟨by rw [List.length_append, List.length_append, lr, lw]; rfl, fun i rs w g1 g2 => ?_⟩, fun rs hm => ?_⟩
    · by_cases e : i < j
      · rw [List.getElem?_append_left (by omega)] at g1 g2
        exact i1.2 i rs w g1 g2
      · rw [List.getElem?_append_right (by omega)] at g1 g2
        have e2 : i - j = 0 := by
          have := (List.getElem?_eq_some_iff.mp g1).1
          rw [List.length_singleton, lr] at this
          omega
        rw [lr, e2] at g1
        rw [lw, e2] at g2
        obtain rfl := Option.some.inj g1
        obtain rfl := Option.some.inj g2
        exact fun r hr => hR r ((ord_mem _ r).mp hr)
    · rcases List.mem_append.mp hm with hm | hm
      · exact i2 rs hm
      · rw [List.mem_singleton.mp hm]
        refine ⟨ord_asc _, h.2.2 _ ?_⟩
        refine runs_pre T S ops (j + 1) _ ?_
        rw [runs_take T S ho]
        exact List.mem_append_right _ List.mem_cons_self
theorem ok_qr {f : Addr} {fd : FuncData} (F : Fun K "query_rows" "query_rows" s_query_rows f fd) (M : Mg mg) (c_operation_rows : Cl P w K mg base 12 "operation_rows" (sp_oprs K)) : FnOk P w K mg base CX0 13 f fd ["plan", "tables", "steps"] (sp_qr K) := by
  refine F.ok sc_query_rows (fun vs H Q E h => ?_) (fun cdv A outer s H vs Q E hr h => ?_)
  · obtain ⟨x, ta, sa, ops, T, S, tw, sw, ws, rfl, _⟩ := h
    rfl
  · obtain ⟨x, ta, sa, ops, T, S, tw, sw, ws, rfl, dp, hne, hl, hT, hS, okT, okS, lenT, lenS, hp0, q⟩ := h
    obtain ⟨pa, xs, rfl, hpa, dxs⟩ := dpl_get dp
    have lxs : xs.length = ops.length := by rw [DpAll.len dxs, List.length_map]
    refine ⟨_, (pss_cons (ps_set (i := 3) sc_query_rows.nd rfl (.inl rfl) (pe_lst pa_nil))
      (pss_cons (ps_for PassesOwn.never rfl (pi_list (pv 0)) (pg_name (i := 4) sc_query_rows.nd rfl (.inl rfl)) (pss_one (ps_expr (pe_bmK K PySem.F.plainAttrs_list PySem.F.slot_list_append PySem.F.type_list_append mt_append (pv 3) (pa_cons (pe_u c_operation_rows hr (by first | decide | omega) (by rfl) (pa_cons (pv 4) (pa_cons (pv 1) (pa_cons (pv 2) (pa_cons (pv 3) pa_nil))))) pa_nil)))))
      (pss_one (ps_ret (pe_ix (ix_listK K) (pv 3) (pe_un un_neg pe_int) (fun _ _ => rfl)))))), ?_⟩
    refine ⟨Nat.zero_le _, fun D nD => ?_⟩
    refine ⟨_, rfl, pa, rfl, ⟨_, SqL.same (same_upd nD) hpa⟩, ?_⟩
    refine for_list (K := K) (a := pa) (xs := xs) (fun j σ Hj => Same H Hj ∧ (∃ as : List Addr, Hj D = some (.lst (as.map V.ref)) ∧ as.length = j ∧ (∀ a ∈ as, a ≠ D ∧ H a = none) ∧ ∀ (i : Nat) (a : Addr) (rs : List Row), as[i]? = some a → (runs T S (ops.take j))[i]? = some rs → RL Hj a rs) ∧ ∃ z, σ = [some (.ref pa), some (.ref ta), some (.ref sa), some (.ref D), z]) ⟨same_upd nD, ⟨[], upd_same, rfl, (fun _ h => by cases h), fun i a rs h => by simp at h⟩, _, rfl⟩ (fun j σ Hj _ hp => SqL.same hp.1 hpa) (fun j y σ Hj hy hp => ?_) (fun σ Hn hp => ?_)
    · obtain ⟨sj, ⟨as, eD, las, has, hrl⟩, z, rfl⟩ := hp
      have hj : j < ops.length := by rw [← lxs]; exact (List.getElem?_eq_some_iff.mp hy).1
      have ho := List.getElem?_eq_getElem hj
      obtain ⟨y', hy', dy⟩ := DpAll.get dxs (show (ops.map Op.d)[j]? = some (ops[j]).d by rw [List.getElem?_map, ho]; rfl)
      obtain rfl : y = y' := Option.some.inj (hy.symm.trans hy')
      have hjw : j < ws.length := by rw [hp0.1]; exact hj
      have hwj := List.getElem?_eq_getElem hjw
      obtain ⟨k1, k2, k3⟩ := hp0.2.1 j _ _ ho hwj
      obtain ⟨f1, f2⟩ := plOk_at okT okS hp0 j (by omega)
      have lr : (runs T S (ops.take j)).length = j := by rw [runs_len, List.length_take]; omega
      have wsb : ∀ v ∈ ws.take j, v ≤ 1000 := fun v hv => by
        obtain ⟨i, hi⟩ := List.mem_iff_getElem?.mp (List.mem_of_mem_take hv)
        have hil := (List.getElem?_eq_some_iff.mp hi).1
        rw [hp0.1] at hil
        exact (hp0.2.1 i _ v (List.getElem?_eq_getElem hil) hi).2.2
      refine ⟨_, rfl, .inl ⟨rfl, _, .of eD⟩, ?_⟩
      refine ⟨_, rfl, _, rfl, _, rfl, _, rfl, ?_⟩
      refine ⟨y, ta, sa, D, ops[j], T, S, runs T S (ops.take j), tw, sw, ws.take j, ws[j], rfl, Dp.ext sj _ _ dy, hT.same sj, hS.same sj, ⟨as, eD, by rw [las, lr], hrl⟩, k1, okT, okS, f1, lenT, lenS, f2, wsb, k2, k3, fun H' p s' np hR => ?_⟩
      have eD' := s' _ _ eD
      have npD : p ≠ D := fun e => by rw [e, eD] at np; cases np
      refine ⟨D, _, _, rfl, rfl, eD', by rw [List.length_map]; exact small1 (by omega), fun b o e => ?_, ⟨as ++ [p], ?_, by rw [List.length_append, las]; rfl, fun a ha => ?_, fun i a rs h1 h2 => ?_⟩, _, rfl⟩
      · rw [upd_ne (ne_of_none e nD)]
        exact s' _ _ (sj _ _ e)
      · rw [upd_same, List.map_append]
        rfl
      · rcases List.mem_append.mp ha with ha | ha
        · exact has a ha
        · rw [List.mem_singleton.mp ha]
          exact ⟨npD, sj.free np⟩
      · rw [runs_take T S ho] at h2
        by_cases e : i < j
        · rw [List.getElem?_append_left (by omega)] at h1 h2
          exact ((hrl i a rs h1 h2).same s').upd eD' (has a (List.mem_of_getElem? h1)).1
        · rw [List.getElem?_append_right (by omega)] at h1 h2
          have e2 : i - j = 0 := by
            have := (List.getElem?_eq_some_iff.mp h1).1
            rw [List.length_singleton, las] at this
            omega
          rw [las, e2] at h1
          rw [lr, e2] at h2
          obtain rfl := Option.some.inj h1
          obtain rfl := Option.some.inj h2
          exact hR.upd eD' npD
    · obtain ⟨sn, ⟨as, eD, las, has, hrl⟩, z, rfl⟩ := hp
      rw [lxs, List.take_of_length_le (Nat.le_refl _)] at hrl
      rw [lxs] at las
      have hpos : 0 < ops.length := List.length_pos_iff.mpr hne
      have hasne : as ≠ [] := fun e => by rw [e] at las; simp at las; omega
      obtain ⟨al, a, rfl⟩ : ∃ al a, as = al ++ [a] := ⟨as.dropLast, as.getLast hasne, (List.dropLast_concat_getLast hasne).symm⟩
      have hrne : runs T S ops ≠ [] := fun e => by have := runs_len T S ops; rw [e] at this; simp at this; omega
      obtain ⟨rl, r, er⟩ : ∃ rl r, runs T S ops = rl ++ [r] := ⟨(runs T S ops).dropLast, (runs T S ops).getLast hrne, (List.dropLast_concat_getLast hrne).symm⟩
      have ll : al.length = rl.length := by
        have h1 := runs_len T S ops
        rw [er, List.length_append] at h1
        rw [List.length_append] at las
        simp at h1 las
        omega
      have ha := has a (List.mem_append_right _ List.mem_cons_self)
      have hr2 := hrl al.length a r (by rw [List.getElem?_append_right (Nat.le_refl _), Nat.sub_self]; rfl) (by rw [er, ll, List.getElem?_append_right (Nat.le_refl _), Nat.sub_self]; rfl)
      rw [List.map_append] at eD
      refine ⟨_, rfl, 1, rfl, D, _, _, _, rfl, rfl, .of eD, atI_last _ _, ?_⟩
      refine q Hn a sn ha.2 ?_
      rw [er, List.getLastD_eq_getLast?, List.getLast?_concat]
      exact hr2
end

/-! ### the law's plans: what their operations mean, as the law says it -/
def sp_lholds (K : PySem.W.Frag) : Sp := fun vs H Q _ => ∃ (x : V) (a : Addr) (e : Ep) (r : Row), vs = [x, .ref a] ∧ Dp K H x e.d ∧ H a = some (.tup (r.map Vl.v)) ∧ e.ok r.length ∧ e.ht < 5 ∧ (∀ v ∈ r, v.ok) ∧ ∀ H', Same H H' → Q (.bl (e.ev r).tr) H'
def sp_lgrp (K : PySem.W.Frag) : Sp := fun vs H Q _ => ∃ (x : V) (a : Addr) (ks : List Ep) (ts : List Fm) (q v : Nat) (rs : List Row), vs = [x, .ref a] ∧ Dp K H x (Op.grp ks ts q).d ∧ RL H a rs ∧ (∀ e ∈ ks, e.ok v ∧ e.ht < 5) ∧ (∀ t ∈ ts, t.ok v) ∧ RsOk v rs ∧ rs.length ≤ 1000 ∧ ks.length ≤ 1000 ∧ ts.length ≤ 1000 ∧ ∀ (H' : Hp) (p : Addr), Same H H' → RL H' p (grpR ks ts rs) → Q (.ref p) H'
def jonR (o : Op) (rs qs : List Row) : List Row := match o with
  | .joi e _ _ => rs.flatMap fun a => (qs.filter (mtch e a)).map (a ++ ·)
  | .ant e _ _ => rs.filter fun a => !qs.any (mtch e a)
  | _ => []
def sp_ljon (K : PySem.W.Frag) : Sp := fun vs H Q _ => ∃ (x : V) (a b : Addr) (o : Op) (e : Ep) (q r : Nat) (n m : Nat) (rs qs : List Row), vs = [x, .ref a, .ref b] ∧ (o = .joi e q r ∨ o = .ant e q r) ∧ Dp K H x o.d ∧ RL H a rs ∧ RL H b qs ∧ e.ok (n + m) ∧ e.ht < 5 ∧ RsOk n rs ∧ RsOk m qs ∧ rs.length ≤ 1000 ∧ qs.length ≤ 1000 ∧ n ≤ 1000 ∧ m ≤ 1000 ∧ ∀ (H' : Hp) (p : Addr), Same H H' → RL H' p (jonR o rs qs) → Q (.ref p) H'
theorem catA_ok {K : PySem.W.Frag} {H : Hp} {a b : Addr} {r q : Row} {Q : VK} (ha : H a = some (.tup (r.map Vl.v))) (hb : H b = some (.tup (q.map Vl.v))) (l : r.length + q.length ≤ 2000) (go : ∀ (H7 : Hp) (p7 : Addr), Same H H7 → H7 p7 = some (.tup ((r ++ q).map Vl.v)) → Q (.ref p7) H7) : rCatA K (.ref a) (.ref b) H Q := by
  refine ⟨a, b, _, _, rfl, rfl, .of ha, .of hb, ?_, fun en => ?_, fun _ en => ?_, fun _ _ p np => ?_⟩
  · rw [List.length_map, List.length_map]
    exact Nat.le_trans l (by decide)
  · have : r = [] := List.map_eq_nil_iff.mp en
    subst this
    exact go H b (fun _ _ h => h) hb
  · have : q = [] := List.map_eq_nil_iff.mp en
    subst this
    exact go H a (fun _ _ h => h) (by rw [List.append_nil]; exact ha)
  · exact go _ p (same_upd np) (by rw [upd_same, List.map_append])
section
variable {P : Program} {w : World} {K : PySem.W.Frag} {mg : Str → Option Value} {base : Heap}
theorem ok_lholds {f : Addr} {fd : FuncData} (F : Fun K "_law_holds" "_law_holds" s__law_holds f fd) (M : Mg mg) (c__law_due : Cl P w K mg base 8 "_law_due" (sp_eval K 5)) (c__law_known : Cl P w K mg base 1 "_law_known" sp_known) : FnOk P w K mg base CX0 9 f fd ["tree", "row"] (sp_lholds K) := by
  refine F.ok sc__law_holds (fun vs H Q E h => ?_) (fun cdv A outer s H vs Q E hr h => ?_)
  · obtain ⟨x, a, e, r, rfl, _⟩ := h
    rfl
  · obtain ⟨x, a, e, r, rfl, dp, ha, hok, hht, hv, q⟩ := h
    refine ⟨_, (pss_one (ps_ret (pe_cmpR op_isO (pe_u c__law_known hr (by first | decide | omega) (by rfl) (pa_cons (pe_u c__law_due hr (by first | decide | omega) (by rfl) (pa_cons (pv 0) (pa_cons (pv 1) pa_nil))) pa_nil)) pe_bl (nomark _)))), ?_⟩
    refine ⟨_, rfl, _, rfl, x, a, e, r, rfl, dp, .of ha, hok, hv, hht, fun H' s' => ?_⟩
    refine ⟨e.ev r, rfl, (e.ev r).kn, true, rfl, rfl, ?_⟩
    rw [← kn_tr]
    exact q H' s'
theorem ok_lgrp {f : Addr} {fd : FuncData} (F : Fun K "_law_grouped" "_law_grouped" s__law_grouped f fd) (M : Mg mg) (c__law_due : Cl P w K mg base 8 "_law_due" (sp_eval K 5)) (c__law_distinct : Cl P w K mg base 1 "_law_distinct" (sp_ldist K)) (c__law_total : Cl P w K mg base 9 "_law_total" (sp_total K)) : FnOk P w K mg base CX0 10 f fd ["operation", "rows"] (sp_lgrp K) := by
  refine F.ok sc__law_grouped (fun vs H Q E h => ?_) (fun cdv A outer s H vs Q E hr h => ?_)
  · obtain ⟨x, a, ks, ts, q, v, rs, rfl, _⟩ := h
    rfl
  · obtain ⟨x, a, ks, ts, qi, v, rs, rfl, dp, hR, hks, hts, hv, lrs, lks, lts, q⟩ := h
    obtain ⟨pa, xs, rfl, hpa, dxs⟩ := dp_tup dp
    obtain ⟨xk, xt, xq, rfl, dk, dt, dq⟩ := dp_four dxs
    obtain rfl := dp_nat dq
    obtain ⟨ka, kxs, rfl, hka, dka⟩ := dpl_get dk
    obtain ⟨tta, txs, rfl, htt, dtt⟩ := dpl_get dt
    have hkx : kxs.isEmpty = true ↔ ks = [] := by
      rw [List.isEmpty_iff, ← List.length_eq_zero_iff, DpAll.len dka, List.length_map, List.length_eq_zero_iff]
    have lkx : kxs.length = ks.length := by rw [DpAll.len dka, List.length_map]
    have ltx : txs.length = ts.length := by rw [DpAll.len dtt, List.length_map]
    obtain ⟨zs, ha, hz, rfl⟩ := hR
    rw [List.length_map] at lrs
    refine ⟨_, (pss_cons (ps_set (i := 2) sc__law_grouped.nd rfl (.inr rfl) (pe_lc (own := [("row", 7)]) (g := gName 7) (tt := tYes) rfl sc__law_grouped.nd (pi_list (pv 1)) (blkOk_by (N := N__law_grouped) (sc := defScope s__law_grouped) (by decide +kernel)) (fun _ _ _ _ _ => (pg_name (i := 7) sc__law_grouped.nd rfl (.inr rfl))) (fun _ _ _ _ _ => pts_nil) (fun _ _ _ _ _ => (pe_callTy (tupleK K) (by rfl) M.tuple (by decide +kernel) (pa_cons (pe_lc (own := [("tree", 9)]) (g := gName 9) (tt := tYes) rfl sc__law_grouped.nd (pi_listK K (pe_ix (ix_tupK K) (pv 0) pe_int (fun _ _ => rfl))) (blkOk_by (N := N__law_grouped) (sc := relS { kind := PySem.ScopeKind.function, names := [ (PySem.Str.ofString ".0", PySem.NameKind.local), (PySem.Str.ofString "row", PySem.NameKind.cell), (PySem.Str.ofString "tuple", PySem.NameKind.globalImplicit), (PySem.Str.ofString "operation", PySem.NameKind.free)], isGenerator := false, isCoroutine := false, more := [] : PySem.Scope } (defScope s__law_grouped)) (by decide +kernel)) (fun _ _ _ _ _ => (pg_name (i := 9) sc__law_grouped.nd rfl (.inl rfl))) (fun _ _ _ _ _ => pts_nil) (fun _ _ _ _ _ => (pe_u c__law_due hr (by first | decide | omega) (by rfl) (pa_cons (pv 9) (pa_cons (pv 7) pa_nil))))) pa_nil)))))
      (pss_cons (ps_set (i := 3) sc__law_grouped.nd rfl (.inl rfl) (pe_ifExp (pt_truthK K (pe_ix (ix_tupK K) (pv 0) pe_int (fun _ _ => rfl)) (by intro _; rfl)) (pe_u c__law_distinct hr (by first | decide | omega) (by rfl) (pa_cons (pv 2) pa_nil)) (pe_lst (pa_cons (pe_tup pa_nil) pa_nil))))
      (pss_cons (ps_set (i := 4) sc__law_grouped.nd rfl (.inl rfl) (pe_lst pa_nil))
      (pss_cons (ps_for PassesOwn.never rfl (pi_list (pv 3)) (pg_name (i := 5) sc__law_grouped.nd rfl (.inr rfl)) (pss_cons (ps_set (i := 6) sc__law_grouped.nd rfl (.inr rfl) (pe_lc (own := [("k", 8)]) (g := gName 8) rfl sc__law_grouped.nd (pi_range1 (by rfl) M.range (pa_cons (pe_callB (len_seqK K) (by rfl) M.len PySem.boot_len (pa_cons (pv 1) pa_nil)) pa_nil)) (blkOk_by (N := N__law_grouped) (sc := defScope s__law_grouped) (by decide +kernel)) (fun _ _ _ _ _ => (pg_name (i := 8) sc__law_grouped.nd rfl (.inl rfl))) (fun _ _ _ _ _ => (pts_one (pt_cmpR (eqDK K hr.units) (pe_ix (ix_listK K) (pv 2) (pv 8) (fun _ _ => rfl)) (pv 5) (nomark _)))) (fun _ _ _ _ _ => (pe_ix (ix_listK K) (pv 1) (pv 8) (fun _ _ => rfl)))))
      (pss_one (ps_expr (pe_bmK K PySem.F.plainAttrs_list PySem.F.slot_list_append PySem.F.type_list_append mt_append (pv 4) (pa_cons (pe_op (op_catAK K) (pv 5) (pe_callTy (tupleK K) (by rfl) M.tuple (by decide +kernel) (pa_cons (pe_lc (own := [("form", 10)]) (g := gName 10) (tt := tYes) rfl sc__law_grouped.nd (pi_list (pe_ix (ix_tupK K) (pv 0) pe_int (fun _ _ => rfl))) (blkOk_by (N := N__law_grouped) (sc := defScope s__law_grouped) (by decide +kernel)) (fun _ _ _ _ _ => (pg_name (i := 10) sc__law_grouped.nd rfl (.inl rfl))) (fun _ _ _ _ _ => pts_nil) (fun _ _ _ _ _ => (pe_u c__law_total hr (by first | decide | omega) (by rfl) (pa_cons (pv 10) (pa_cons (pv 6) pa_nil))))) pa_nil))) pa_nil))))))
      (pss_one (ps_ret (pv 4))))))), ?_⟩
    refine ⟨_, rfl, a, rfl, ⟨_, .of ha⟩, fun D nD => ?_⟩
    refine lc_list (K := K) (a := a) (xs := zs.map fun x => V.ref x.1) (fun j Hj => Same H Hj ∧ ∃ ms : List AR, Hj D = some (.lst (ms.map fun x => V.ref x.1)) ∧ (∀ m ∈ ms, Hj m.1 = some (.tup (m.2.map Vl.v))) ∧ ms.map Prod.snd = ((zs.take j).map Prod.snd).map (keyR ks)) ⟨same_upd nD, [], upd_same, (fun _ h => by cases h), rfl⟩ (fun j Hj _ hp => .of (hp.1 _ _ ha)) (fun j y Hj hy hp => ?_) (fun H1 hp => ?_)
    · obtain ⟨sj, ms, eD, hms, ems⟩ := hp
      rw [List.getElem?_map] at hy
      obtain ⟨u, hu, rfl⟩ := Option.map_eq_some_iff.mp hy
      have hm := List.mem_of_getElem? hu
      obtain ⟨lu, ou⟩ := hv u.2 (List.mem_map.mpr ⟨u, hm, rfl⟩)
      have lms : ms.length ≤ zs.length := by
        rw [← List.length_map (f := Prod.snd), ems, List.length_map, List.length_map]
        exact List.length_take_le' _ _
      refine ⟨rfl, ?_⟩
      refine ⟨_, rfl, pa, _, _, _, rfl, rfl, SqT.ext sj hpa, atI_nat (j := 1) rfl, ka, rfl, ⟨_, SqL.same sj hka⟩, fun D2 nD2 => ?_⟩
      refine lc_list (K := K) (a := ka) (xs := kxs) (fun k Hk => Same Hj Hk ∧ Hk D2 = some (.lst ((keyR (ks.take k) u.2).map Vl.v))) ⟨same_upd nD2, upd_same⟩ (fun k Hk _ hp => SqL.same (sj.trans hp.1) hka) (fun k y Hk hy hp => ?_) (fun H2 hp => ?_)
      · obtain ⟨sk, eD2⟩ := hp
        have hk : k < ks.length := by rw [← lkx]; exact (List.getElem?_eq_some_iff.mp hy).1
        obtain ⟨y', hy', dy⟩ := DpAll.get dka (show (ks.map Ep.d)[k]? = some (ks[k]).d by rw [List.getElem?_map, List.getElem?_eq_getElem hk]; rfl)
        obtain rfl : y = y' := Option.some.inj (hy.symm.trans hy')
        have he := hks ks[k] (List.getElem_mem hk)
        refine ⟨rfl, ?_⟩
        refine ⟨_, rfl, _, rfl, y, u.1, ks[k], u.2, rfl, Dp.ext (sj.trans sk) _ _ dy, .of (sk _ _ (sj _ _ (hz u hm))), by rw [lu]; exact he.1, ou, he.2, fun H' s' => ?_⟩
        refine ⟨_, s' _ _ eD2, ?_, fun b o e => ?_, ?_⟩
        · unfold keyR
          rw [List.length_map, List.length_map, List.length_take]
          exact small1 (by omega)
        · rw [upd_ne (ne_of_none e nD2)]
          exact s' _ _ (sk _ _ e)
        · unfold keyR
          rw [upd_same, List.take_add_one, List.getElem?_eq_getElem hk, List.map_append, List.map_append]
          rfl
      · obtain ⟨s1, eD2⟩ := hp
        rw [lkx, List.take_of_length_le (Nat.le_refl _)] at eD2
        refine ⟨D2, _, rfl, .inl ⟨.of eD2, fun p np => ?_⟩⟩
        have sp := same_upd np (o := .tup ((keyR ks u.2).map Vl.v))
        have eD' := sp _ _ (s1 _ _ eD)
        refine ⟨_, eD', by rw [List.length_map]; exact small1 (by omega), fun b o e => ?_, ms ++ [(p, keyR ks u.2)], ?_, fun m hm => ?_, ?_⟩
        · rw [upd_ne (ne_of_none e nD)]
          exact sp _ _ (s1 _ _ (sj _ _ e))
        · rw [upd_same, List.map_append]
          rfl
        · refine Tk.upd (fun ys z => by rw [eD'] at z; cases z) _ _ ?_
          rcases List.mem_append.mp hm with hm | hm
          · exact sp _ _ (s1 _ _ (hms m hm))
          · rw [List.mem_singleton.mp hm]
            exact upd_same
        · rw [List.map_append, ems, List.take_add_one, hu, List.map_append, List.map_append]
          rfl
    · obtain ⟨s1, ms, eD, hms, ems⟩ := hp
      rw [List.length_map, List.take_of_length_le (Nat.le_refl _)] at ems
      have lms : ms.length = zs.length := by rw [← List.length_map (f := Prod.snd), ems, List.length_map, List.length_map]
      have hmo : ∀ m ∈ ms, ∀ v ∈ m.2, v.ok := fun m hm => by
        have h1 : m.2 ∈ (zs.map Prod.snd).map (keyR ks) := ems ▸ List.mem_map.mpr ⟨m, hm, rfl⟩
        obtain ⟨r, hr, e⟩ := List.mem_map.mp h1
        rw [← e]
        exact keyR_ok (hv r hr).1 (hv r hr).2 hks
      refine ⟨_, rfl, pa, _, _, _, rfl, rfl, SqT.ext s1 hpa, atI_nat (j := 1) rfl, _, .inl ⟨kxs, SqL.same s1 hka, rfl⟩, ite2 (fun hc => ?h1) (fun hc => ?h2)⟩
      case' h1 =>
        have ke : ks ≠ [] := fun z => by
          rw [hkx.mpr z] at hc
          cases hc
        refine ⟨_, rfl, D, ms.map arG, rfl, by rw [List.map_map]; exact .of eD, fun x hx => ?_, fun x hx => ?_, by rw [List.length_map]; omega, fun H2 L s2 nL eL => ?_⟩
        · obtain ⟨y, hy, rfl⟩ := List.mem_map.mp hx
          exact dp_rowP (.of (hms y hy))
        · obtain ⟨y, hy, rfl⟩ := List.mem_map.mp hx
          exact rowP_lay (hmo y hy)
        rw [distP_rows, List.map_map] at eL
        have ekz : (distA ms).map Prod.snd = keysR ks (zs.map Prod.snd) := by
          rw [distA_rows, ems]
          unfold keysR
          rw [if_neg ke]
        have hkz : ∀ m ∈ distA ms, H2 m.1 = some (.tup (m.2.map Vl.v)) := fun m hm => s2 _ _ (hms m ((distA_spec ms).2.1 m hm))
        have eL : H2 L = some (.lst ((distA ms).map fun x => V.ref x.1)) := eL
        generalize distA ms = kz at eL ekz hkz
      case' h2 =>
        have ke : ks = [] := hkx.mp (by cases e : kxs.isEmpty with | true => rfl | false => rw [e] at hc; exact absurd rfl hc)
        refine ⟨Nat.zero_le _, fun p np => ⟨(by show 1 ≤ sizeLine; decide), fun L nL => ?_⟩⟩
        have sp := same_upd np (o := .tup [])
        have ekz : [((p, []) : AR)].map Prod.snd = keysR ks (zs.map Prod.snd) := by
          unfold keysR
          rw [if_pos ke]
          rfl
        have s2 : Same H1 (upd (upd H1 p (.tup [])) L (.lst [.ref p])) := sp.trans (same_upd nL)
        have npL : p ≠ L := fun z => by rw [← z, upd_same] at nL; cases nL
        have hkz : ∀ m ∈ [((p, []) : AR)], (upd (upd H1 p (.tup [])) L (.lst [.ref p])) m.1 = some (.tup (m.2.map Vl.v)) := fun m hm => by
          rw [List.mem_singleton.mp hm]
          show upd _ L _ p = _
          rw [upd_ne npL, upd_same]
          rfl
        have eL : (upd (upd H1 p (.tup [])) L (.lst [.ref p])) L = some (.lst ([((p, []) : AR)].map fun x => V.ref x.1)) := upd_same
        clear nL
        generalize upd (upd H1 p (.tup [])) L (.lst [.ref p]) = H2 at s2 hkz eL ⊢
        generalize [((p, []) : AR)] = kz at eL ekz hkz
        clear npL sp np
      all_goals
        have s02 := s1.trans s2
        refine ⟨Nat.zero_le _, fun S nS => ?_⟩
        have s3 := same_upd nS (o := .lst [])
        have eS : upd H2 S (.lst []) S = some (.lst []) := upd_same
        refine ⟨_, rfl, L, rfl, ⟨_, .of (s3 _ _ eL)⟩, ?_⟩
        refine for_list (K := K) (a := L) (xs := kz.map fun x => V.ref x.1) (fun j σ Hj => Same H2 Hj ∧ (∃ ss : List AR, Hj S = some (.lst (ss.map fun x => V.ref x.1)) ∧ (∀ m ∈ ss, Hj m.1 = some (.tup (m.2.map Vl.v))) ∧ ss.map Prod.snd = (kz.take j).map fun k => k.2 ++ ts.map fun t => t.ev ((mem ks zs k.2).map Prod.snd)) ∧ ∃ z5 z6, σ = [some (.ref pa), some (.ref a), some (.ref D), some (.ref L), some (.ref S), z5, z6, none, none, none, none]) ⟨s3, ⟨[], eS, (fun _ h => by cases h), rfl⟩, _, _, rfl⟩ (fun j σ Hj _ hp => .of (hp.1 _ _ eL)) (fun j y σ Hj hy hp => ?_) (fun σ Hn hp => ?_)
        · obtain ⟨sj, ⟨ss, eS, hss, ess⟩, z5, z6, rfl⟩ := hp
          rw [List.getElem?_map] at hy
          obtain ⟨k, hk, rfl⟩ := Option.map_eq_some_iff.mp hy
          have hkm := List.mem_of_getElem? hk
          have lkz : kz.length ≤ 1000 := by
            have := keysR_len (ks := ks) (rs := zs.map Prod.snd)
            rw [← ekz, List.length_map, List.length_map] at this
            omega
          have okk : (∀ v ∈ k.2, v.ok) ∧ k.2.length ≤ 1000 := by
            have hkm2 : k.2 ∈ keysR ks (zs.map Prod.snd) := ekz ▸ List.mem_map.mpr ⟨k, hkm, rfl⟩
            rcases keysR_mem hkm2 with ⟨_, e2⟩ | ⟨r, hr, e⟩
            · rw [e2]
              exact ⟨(fun _ h => by cases h), Nat.zero_le _⟩
            · rw [← e]
              refine ⟨keyR_ok (hv r hr).1 (hv r hr).2 hks, ?_⟩
              unfold keyR
              rw [List.length_map]
              exact lks
          have eDj := sj _ _ (s2 _ _ eD)
          have haj := sj _ _ (s02 _ _ ha)
          refine ⟨_, rfl, a, _, rfl, .inl (.of haj), _, rfl, by omega, by rw [List.length_map]; omega, fun Mm nM => ?_⟩
          rw [List.length_map]
          refine lc_range (lo := 0) (n := ((zs.length : Nat) : Int).toNat) (fun i Hi => Same Hj Hi ∧ Hi Mm = some (.lst ((mem ks (zs.take i) k.2).map fun x => V.ref x.1))) ⟨same_upd nM, upd_same⟩ (fun i Hi hi hp => ?_) (fun H4 hp => ?_)
          · obtain ⟨si, eM⟩ := hp
            rw [Int.zero_add]
            have hil : i < zs.length := by omega
            have hx := List.getElem?_eq_getElem hil
            have hmi : i < ms.length := by omega
            have hmx := List.getElem?_eq_getElem hmi
            have emi : ms[i].2 = keyR ks zs[i].2 := by
              have h1 : (ms.map Prod.snd)[i]? = some ms[i].2 := by rw [List.getElem?_map, hmx]; rfl
              rw [ems, List.getElem?_map, List.getElem?_map, hx] at h1
              exact (Option.some.inj h1).symm
            have hmem := List.getElem_mem hmi
            refine ⟨rfl, ?_⟩
            refine ⟨_, rfl, _, rfl, D, _, _, _, rfl, rfl, .of (si _ _ eDj), atI_nat (by rw [List.getElem?_map, hmx]; rfl), _, rfl, rowP ms[i].2, rowP k.2, dp_rowP (.of (si _ _ (sj _ _ (s2 _ _ (hms _ hmem))))), dp_rowP (.of (si _ _ (sj _ _ (hkz k hkm)))), shaped_one (rowP_lay (hmo _ hmem)), shaped_one (rowP_lay okk.1), _, rfl, ?_⟩
            rw [rowP_eqv, emi]
            have etk := mem_snoc ks k.2 hx
            have lmm : (mem ks (zs.take i) k.2).length ≤ 1000 := Nat.le_trans (List.length_filter_le _ _) (Nat.le_trans (List.length_take_le' _ _) lrs)
            refine ite2 (fun g => ?_) (fun g => ?_)
            · refine ⟨_, rfl, _, rfl, a, _, _, _, rfl, rfl, .of (si _ _ haj), atI_nat (by rw [List.getElem?_map, hx]; rfl), ?_⟩
              refine ⟨_, eM, by rw [List.length_map]; exact small1 lmm, fun b o e => ?_, ?_⟩
              · rw [upd_ne (ne_of_none e nM)]
                exact si _ _ e
              · rw [upd_same, etk, if_pos (of_decide_eq_true g), List.map_append]
                rfl
            · refine ⟨si, ?_⟩
              rw [etk, if_neg (fun z => g (decide_eq_true z)), List.append_nil]
              exact eM
          · obtain ⟨s4, eM⟩ := hp
            have htn : ((zs.length : Nat) : Int).toNat = zs.length := Int.toNat_natCast _
            rw [htn, List.take_of_length_le (Nat.le_refl _)] at eM
            have eS4 := s4 _ _ eS
            have lss : ss.length ≤ 1000 := by
              rw [← List.length_map (f := Prod.snd), ess, List.length_map]
              exact Nat.le_trans (List.length_take_le' _ _) lkz
            have hmr : RsOk v ((mem ks zs k.2).map Prod.snd) := fun r hr => by
              rw [mem_snd] at hr
              exact hv r (List.mem_filter.mp hr).1
            have lmm : (mem ks zs k.2).length ≤ 1000 := Nat.le_trans (List.length_filter_le _ _) lrs
            have s04 := s02.trans (sj.trans s4)
            refine ⟨_, rfl, .inl ⟨rfl, _, .of eS4⟩, ?_⟩
            refine ⟨_, rfl, ?_⟩
            refine ⟨_, rfl, pa, _, _, _, rfl, rfl, SqT.ext s04 hpa, atI_nat (j := 2) rfl, tta, rfl, ⟨_, SqL.same s04 htt⟩, fun D3 nD3 => ?_⟩
            refine lc_list (K := K) (a := tta) (xs := txs) (fun i Hi => Same H4 Hi ∧ Hi D3 = some (.lst (((ts.take i).map fun t => t.ev ((mem ks zs k.2).map Prod.snd)).map Vl.v))) ⟨same_upd nD3, upd_same⟩ (fun i Hi _ hp => SqL.same (s04.trans hp.1) htt) (fun i y Hi hy hp => ?_) (fun H5 hp => ?_)
            · obtain ⟨si, eD3⟩ := hp
              have hi : i < ts.length := by rw [← ltx]; exact (List.getElem?_eq_some_iff.mp hy).1
              obtain ⟨y', hy', dy⟩ := DpAll.get dtt (show (ts.map Fm.d)[i]? = some (ts[i]).d by rw [List.getElem?_map, List.getElem?_eq_getElem hi]; rfl)
              obtain rfl : y = y' := Option.some.inj (hy.symm.trans hy')
              refine ⟨rfl, ?_⟩
              refine ⟨_, rfl, _, rfl, y, Mm, (mem ks zs k.2).map Prod.fst, ts[i], (mem ks zs k.2).map Prod.snd, v, rfl, Dp.ext (s04.trans si) _ _ dy, (rl_rws eM (fun x hx => s04 _ _ (hz x (List.mem_filter.mp hx).1))).ext si, hts _ (List.getElem_mem hi), hmr, by rw [List.length_map]; exact lmm, fun H' s' => ?_⟩
              refine ⟨_, s' _ _ eD3, ?_, fun b o e => ?_, ?_⟩
              · rw [List.length_map, List.length_map, List.length_take]
                exact small1 (by omega)
              · rw [upd_ne (ne_of_none e nD3)]
                exact s' _ _ (si _ _ e)
              · rw [upd_same, List.take_add_one, List.getElem?_eq_getElem hi, List.map_append, List.map_append]
                rfl
            · obtain ⟨s5, eD3⟩ := hp
              rw [ltx, List.take_of_length_le (Nat.le_refl _)] at eD3
              refine ⟨D3, _, rfl, .inl ⟨.of eD3, fun p np => ?_⟩⟩
              have sp := same_upd np (o := .tup ((ts.map fun t => t.ev ((mem ks zs k.2).map Prod.snd)).map Vl.v))
              have ep : upd H5 p (.tup ((ts.map fun t => t.ev ((mem ks zs k.2).map Prod.snd)).map Vl.v)) p = _ := upd_same
              generalize upd H5 p (.tup ((ts.map fun t => t.ev ((mem ks zs k.2).map Prod.snd)).map Vl.v)) = H6 at sp ep
              have s46 := s5.trans sp
              have ek6 := s46 _ _ (s4 _ _ (sj _ _ (hkz k hkm)))
              have eS6 := s46 _ _ eS4
              have go : ∀ (H7 : Hp) (p7 : Addr), Same H6 H7 → H7 p7 = some (.tup ((k.2 ++ ts.map fun t => t.ev ((mem ks zs k.2).map Prod.snd)).map Vl.v)) → ∃ (l : Addr) (xs : List V) (y : V), V.ref S = .ref l ∧ [V.ref p7] = [y] ∧ H7 l = some (.lst xs) ∧ xs.length < sizeLine ∧ (Same H2 (upd H7 l (.lst (xs ++ [y]))) ∧ (∃ ss : List AR, upd H7 l (.lst (xs ++ [y])) S = some (.lst (ss.map fun x => V.ref x.1)) ∧ (∀ m ∈ ss, upd H7 l (.lst (xs ++ [y])) m.1 = some (.tup (m.2.map Vl.v))) ∧ ss.map Prod.snd = (kz.take (j + 1)).map fun k => k.2 ++ ts.map fun t => t.ev ((mem ks zs k.2).map Prod.snd)) ∧ ∃ z5 z6, [some (V.ref pa), some (.ref a), some (.ref D), some (.ref L), some (.ref S), some (.ref k.1), some (.ref Mm), none, none, none, none] = [some (V.ref pa), some (.ref a), some (.ref D), some (.ref L), some (.ref S), z5, z6, none, none, none, none]) := fun H7 p7 s7 hp7 => by
                have eS7 := s7 _ _ eS6
                refine ⟨S, _, _, rfl, rfl, eS7, by rw [List.length_map]; exact small1 lss, fun b o e => ?_, ⟨ss ++ [(p7, k.2 ++ ts.map fun t => t.ev ((mem ks zs k.2).map Prod.snd))], ?_, fun m hm => ?_, ?_⟩, _, _, rfl⟩
                · rw [upd_ne (ne_of_none e nS)]
                  exact s7 _ _ (s46 _ _ (s4 _ _ (sj _ _ e)))
                · rw [upd_same, List.map_append]
                  rfl
                · refine Tk.upd (fun ys z => by rw [eS7] at z; cases z) _ _ ?_
                  rcases List.mem_append.mp hm with hm | hm
                  · exact s7 _ _ (s46 _ _ (s4 _ _ (hss m hm)))
                  · rw [List.mem_singleton.mp hm]
                    exact hp7
                · rw [List.map_append, ess, List.take_add_one, hk, List.map_append]
                  rfl
              refine ⟨k.1, p, _, _, rfl, rfl, .of ek6, .of ep, ?_, fun en => ?_, fun _ en => ?_, fun _ _ p2 np2 => ?_⟩
              · rw [List.length_map, List.length_map, List.length_map]
                have := okk.2
                exact Nat.le_trans (m := 2000) (by omega) (by decide)
              · have : k.2 = [] := List.map_eq_nil_iff.mp en
                refine go H6 p (fun _ _ h => h) ?_
                rw [this] at ep ⊢
                exact ep
              · refine go H6 k.1 (fun _ _ h => h) ?_
                rw [List.map_append, en, List.append_nil]
                exact ek6
              · exact go _ p2 (same_upd np2) (by rw [upd_same, List.map_append])
        · obtain ⟨sn, ⟨ss, eS, hss, ess⟩, z5, z6, rfl⟩ := hp
          rw [List.length_map, List.take_of_length_le (Nat.le_refl _)] at ess
          refine ⟨_, rfl, ?_⟩
          refine q Hn S (s02.trans sn) ⟨ss, eS, hss, ?_⟩
          rw [ess]
          unfold grpR
          rw [← ekz, List.map_map]
          refine List.map_congr_left fun g _ => ?_
          show g.2 ++ _ = g.2 ++ _
          rw [mem_snd]
theorem ok_ljon {f : Addr} {fd : FuncData} (F : Fun K "_law_joined" "_law_joined" s__law_joined f fd) (M : Mg mg) (c__law_holds : Cl P w K mg base 9 "_law_holds" (sp_lholds K)) : FnOk P w K mg base CX0 10 f fd ["operation", "rows", "others"] (sp_ljon K) := by
  refine F.ok sc__law_joined (fun vs H Q E h => ?_) (fun cdv A outer s H vs Q E hr h => ?_)
  · obtain ⟨x, a, b, o, e, q, r, n, m, rs, qs, rfl, _⟩ := h
    rfl
  · obtain ⟨x, a, b, o, e, qi, ri, n, m, rs, qs, rfl, ho, dp, hA, hB, hok, hht, okA, okB, lA, lB, ln, lm, q⟩ := h
    obtain ⟨xs, xe, pa, rfl, hpa, hx0, hx1, de⟩ : ∃ (xs : List V) (xe : V) (pa : Addr), x = .ref pa ∧ SqT K H pa xs ∧ atI xs ((0 : Nat) : Int) = some (.str (Str.ofString o.wd)) ∧ atI xs ((1 : Nat) : Int) = some xe ∧ Dp K H xe e.d := by
      obtain ⟨pa, xs, rfl, hpa, dxs⟩ := dp_tup dp
      rcases ho with rfl | rfl
      · obtain ⟨xe, xq, xr, rfl, de, _, _⟩ := dp_four dxs
        exact ⟨_, xe, pa, rfl, hpa, rfl, rfl, de⟩
      · obtain ⟨xe, xq, xr, rfl, de, _, _⟩ := dp_four dxs
        exact ⟨_, xe, pa, rfl, hpa, rfl, rfl, de⟩
    obtain ⟨zs, ha, hz, rfl⟩ := hA
    obtain ⟨us, hb, hu', rfl⟩ := hB
    rw [List.length_map] at lA lB
    refine ⟨_, (pss_cons (ps_set (i := 3) sc__law_joined.nd rfl (.inl rfl) (pe_lst pa_nil))
      (pss_cons (ps_for PassesOwn.never rfl (pi_list (pv 1)) (pg_name (i := 4) sc__law_joined.nd rfl (.inr rfl)) (pss_cons (ps_setLc (i := 5) (own := [("other", 6)]) (g := gName 6) rfl sc__law_joined.nd rfl rfl (sw_true rfl rfl rfl (by decide +kernel)) (pi_list (pv 2)) (blkOk_by (N := N__law_joined) (sc := defScope s__law_joined) (by decide +kernel)) (fun _ _ _ _ _ => (pg_name (i := 6) sc__law_joined.nd rfl (.inl rfl))) (fun _ _ _ _ _ => (pts_one (pt_truthK K (pe_u c__law_holds hr (by first | decide | omega) (by rfl) (pa_cons (pe_ix (ix_tupK K) (pv 0) pe_int (fun _ _ => rfl)) (pa_cons (pe_op (op_catAK K) (pv 4) (pv 6)) pa_nil))) (by intro _; rfl)))) (fun _ _ _ _ _ => (pe_op (op_catAK K) (pv 4) (pv 6))))
      (pss_one (ps_if (pt_cmpR op_eq (pe_ix (ix_tupK K) (pv 0) pe_int (fun _ _ => rfl)) pe_str (nomark _)) (pss_one (ps_set (i := 3) sc__law_joined.nd rfl (.inl rfl) (pe_op op_cat (pv 3) (pv 5)))) (pss_one (ps_if (pt_not (pt_truthK K (pv 5) (by intro _; rfl))) (pss_one (ps_expr (pe_bmK K PySem.F.plainAttrs_list PySem.F.slot_list_append PySem.F.type_list_append mt_append (pv 3) (pa_cons (pv 4) pa_nil)))) pss_nil))))))
      (pss_one (ps_ret (pv 3))))), ?_⟩
    refine ⟨Nat.zero_le _, fun S nS => ?_⟩
    refine ⟨_, rfl, a, rfl, ⟨_, .of (same_upd nS _ _ ha)⟩, ?_⟩
    refine for_list (K := K) (a := a) (xs := zs.map fun x => V.ref x.1) (fun j σ Hj => Same H Hj ∧ ∃ (S : Addr) (ss : List AR), H S = none ∧ Hj S = some (.lst (ss.map fun x => V.ref x.1)) ∧ (∀ m ∈ ss, Hj m.1 = some (.tup (m.2.map Vl.v))) ∧ ss.map Prod.snd = jonR o ((zs.take j).map Prod.snd) (us.map Prod.snd) ∧ ss.length ≤ j * 1000 ∧ ∃ z4 z5, σ = [some (.ref pa), some (.ref a), some (.ref b), some (.ref S), z4, z5, none]) ⟨same_upd nS, S, [], nS, upd_same, (fun _ h => by cases h), by rcases ho with rfl | rfl <;> rfl, Nat.zero_le _, _, _, rfl⟩ (fun j σ Hj _ hp => .of (hp.1 _ _ ha)) (fun j y σ Hj hy hp => ?_) (fun σ Hn hp => ?_)
    · obtain ⟨sj, S, ss, nS, eS, hss, ess, lss, z4, z5, rfl⟩ := hp
      have hj : j < zs.length := by
        have := (List.getElem?_eq_some_iff.mp hy).1
        rwa [List.length_map] at this
      rw [List.getElem?_map] at hy
      obtain ⟨x, hx, rfl⟩ := Option.map_eq_some_iff.mp hy
      have hm := List.mem_of_getElem? hx
      obtain ⟨lx, ox⟩ := okA x.2 (List.mem_map.mpr ⟨x, hm, rfl⟩)
      have hxj := sj _ _ (hz x hm)
      have estep : jonR o ((zs.take (j + 1)).map Prod.snd) (us.map Prod.snd) = jonR o ((zs.take j).map Prod.snd) (us.map Prod.snd) ++ jonR o [x.2] (us.map Prod.snd) := by
        rw [List.take_add_one, hx, List.map_append]
        rcases ho with rfl | rfl
        · exact List.flatMap_append
        · exact List.filter_append _ _
      refine ⟨_, rfl, b, rfl, ⟨_, .of (sj _ _ hb)⟩, fun D nD => ?_⟩
      refine lc_list (K := K) (a := b) (xs := us.map fun x => V.ref x.1) (tt := fun σ H Q => tCall (sp_lholds K) [] E0 (tCons (tOp (rIxT K) (tVar 0) (tC (V.int 1))) (tCons (tOp (rCatA K) (tVar 4) (tVar 6)) tNil)) σ H fun x H' => ∃ k, TruV K x H' k ∧ Q k H') (fun k Hk => Same Hj Hk ∧ ∃ ps : List AR, Hk D = some (.lst (ps.map fun x => V.ref x.1)) ∧ (∀ m ∈ ps, Hk m.1 = some (.tup (m.2.map Vl.v))) ∧ ps.map Prod.snd = (((us.take k).map Prod.snd).filter (mtch e x.2)).map (x.2 ++ ·)) ⟨same_upd nD, [], upd_same, (fun _ h => by cases h), rfl⟩ (fun k Hk _ hp => .of (hp.1 _ _ (sj _ _ hb))) (fun k y Hk hy hp => ?_) (fun H1 hp => ?_)
      · obtain ⟨sk, ps, eD, hps, eps⟩ := hp
        rw [List.getElem?_map] at hy
        obtain ⟨u, hu, rfl⟩ := Option.map_eq_some_iff.mp hy
        have hmu := List.mem_of_getElem? hu
        obtain ⟨lu, ou⟩ := okB u.2 (List.mem_map.mpr ⟨u, hmu, rfl⟩)
        have huk := sk _ _ (sj _ _ (hu' u hmu))
        have hxk := sk _ _ hxj
        have lps : ps.length ≤ 1000 := by
          rw [← List.length_map (f := Prod.snd), eps, List.length_map]
          refine Nat.le_trans (List.length_filter_le _ _) ?_
          rw [List.length_map]
          exact Nat.le_trans (List.length_take_le' _ _) lB
        have etk : ((us.take (k + 1)).map Prod.snd).filter (mtch e x.2) = ((us.take k).map Prod.snd).filter (mtch e x.2) ++ if mtch e x.2 u.2 = true then [u.2] else [] := by
          rw [List.take_add_one, hu, List.map_append, List.filter_append]
          show _ ++ List.filter _ [u.2] = _
          rw [List.filter_cons, List.filter_nil]
        refine ⟨rfl, ?_⟩
        refine ⟨_, rfl, pa, _, _, _, rfl, rfl, SqT.ext (sj.trans sk) hpa, hx1, _, rfl, _, rfl, catA_ok hxk huk (by omega) fun H7 p7 s7 hp7 => ?_⟩
        refine ⟨xe, p7, e, x.2 ++ u.2, rfl, Dp.ext (sj.trans (sk.trans s7)) _ _ de, hp7, by rw [List.length_append, lx, lu]; exact hok, hht, fun v hv => (List.mem_append.mp hv).elim (ox v) (ou v), fun H8 s8 => ⟨_, rfl, ?_⟩⟩
        have s78 := s7.trans s8
        refine ite2 (fun g => ?_) (fun g => ?_)
        · have g : mtch e x.2 u.2 = true := g
          refine ⟨_, rfl, _, rfl, catA_ok (s78 _ _ hxk) (s78 _ _ huk) (by omega) fun H9 p9 s9 hp9 => ?_⟩
          have eD9 := s9 _ _ (s78 _ _ eD)
          refine ⟨_, eD9, by rw [List.length_map]; exact small1 lps, fun b o e => ?_, ps ++ [(p9, x.2 ++ u.2)], ?_, fun m hm => ?_, ?_⟩
          · rw [upd_ne (ne_of_none e nD)]
            exact s9 _ _ (s78 _ _ (sk _ _ e))
          · rw [upd_same, List.map_append]
            rfl
          · refine Tk.upd (fun ys z => by rw [eD9] at z; cases z) _ _ ?_
            rcases List.mem_append.mp hm with hm | hm
            · exact s9 _ _ (s78 _ _ (hps m hm))
            · rw [List.mem_singleton.mp hm]
              exact hp9
          · rw [List.map_append, eps, etk, if_pos g, List.map_append]
            rfl
        · have g : ¬ mtch e x.2 u.2 = true := g
          exact ⟨sk.trans s78, ps, s78 _ _ eD, fun m hm => s78 _ _ (hps m hm), by rw [eps, etk, if_neg g, List.append_nil]⟩
      · obtain ⟨s1, ps, eD, hps, eps⟩ := hp
        rw [List.length_map, List.take_of_length_le (Nat.le_refl _)] at eps
        have lps : ps.length ≤ 1000 := by
          rw [← List.length_map (f := Prod.snd), eps, List.length_map]
          refine Nat.le_trans (List.length_filter_le _ _) ?_
          rw [List.length_map]
          exact lB
        have eS1 := s1 _ _ eS
        have lsm : ss.length ≤ 1000000 := by
          have := Nat.mul_le_mul_right 1000 (show j ≤ 1000 by omega)
          omega
        refine ⟨_, rfl, pa, _, _, _, rfl, rfl, SqT.ext (sj.trans s1) hpa, hx0, ?_⟩
        rcases ho with rfl | rfl
        · refine ⟨rfl, _, rfl, ?_⟩
          rw [show decide (V.str (Str.ofString (Op.joi e qi ri).wd) = V.str (Str.ofString "join")) = true from weq _]
          refine iteT ⟨_, rfl, _, rfl, S, D, _, _, rfl, rfl, eS1, eD, ?_, fun p np => ?_⟩
          · rw [List.length_map, List.length_map]
            exact Nat.le_trans (m := 1001000) (by omega) (by decide)
          have sp := same_upd np (o := .lst ((ss.map fun x => V.ref x.1) ++ (ps.map fun x => V.ref x.1)))
          refine ⟨(sj.trans s1).trans sp, p, ss ++ ps, sj.free (s1.free np), by rw [upd_same, List.map_append], fun m hm => ?_, ?_, ?_, _, _, rfl⟩
          · rcases List.mem_append.mp hm with hm | hm
            · exact sp _ _ (s1 _ _ (hss m hm))
            · exact sp _ _ (hps m hm)
          · rw [List.map_append, ess, eps, estep]
            show _ = _ ++ List.flatMap _ [x.2]
            rw [List.flatMap_singleton]
          · rw [List.length_append, Nat.succ_mul]
            omega
        · refine ⟨rfl, _, rfl, ?_⟩
          rw [show decide (V.str (Str.ofString (Op.ant e qi ri).wd) = V.str (Str.ofString "join")) = false from wne "anti" "join" (by decide +kernel)]
          have epe : (ps.map fun x => V.ref x.1).isEmpty = !(us.map Prod.snd).any (mtch e x.2) := by
            rw [Bool.eq_iff_iff, List.isEmpty_iff, List.map_eq_nil_iff, Bool.not_eq_true', List.any_eq_false, ← List.map_eq_nil_iff (f := Prod.snd), eps, List.map_eq_nil_iff, List.filter_eq_nil_iff]
          have ej : jonR (.ant e qi ri) [x.2] (us.map Prod.snd) = if (!(us.map Prod.snd).any (mtch e x.2)) = true then [x.2] else [] := by
            show List.filter (fun a => !(us.map Prod.snd).any (mtch e a)) [x.2] = _
            rw [List.filter_cons, List.filter_nil]
          refine iteF ⟨_, rfl, _, .inl ⟨_, .of eD, rfl⟩, ?_⟩
          refine ite2 (fun g => ?_) (fun g => ?_)
          · rw [Bool.not_not, epe] at g
            refine ⟨_, rfl, .inl ⟨rfl, _, .of eS1⟩, _, rfl, S, _, _, rfl, rfl, eS1, by rw [List.length_map]; exact Nat.lt_of_le_of_lt lsm (by decide), fun b o e => ?_, S, ss ++ [x], nS, ?_, fun m hm => ?_, ?_, ?_, _, _, rfl⟩
            · rw [upd_ne (ne_of_none e nS)]
              exact s1 _ _ (sj _ _ e)
            · rw [upd_same, List.map_append]
              rfl
            · refine Tk.upd (fun ys z => by rw [eS1] at z; cases z) _ _ ?_
              rcases List.mem_append.mp hm with hm | hm
              · exact s1 _ _ (hss m hm)
              · rw [List.mem_singleton.mp hm]
                exact s1 _ _ hxj
            · rw [List.map_append, ess, estep, ej, if_pos g]
              rfl
            · rw [List.length_append, List.length_singleton, Nat.succ_mul]
              omega
          · rw [Bool.not_not, epe] at g
            exact ⟨sj.trans s1, S, ss, nS, eS1, fun m hm => s1 _ _ (hss m hm), by rw [ess, estep, ej, if_neg g, List.append_nil], by rw [Nat.succ_mul]; omega, _, _, rfl⟩
    · obtain ⟨sn, S, ss, nS, eS, hss, ess, lss, z4, z5, rfl⟩ := hp
      rw [List.length_map, List.take_of_length_le (Nat.le_refl _)] at ess
      exact ⟨_, rfl, q Hn S sn ⟨ss, eS, hss, ess⟩⟩
end

/-! ### the law's operations and plans -/
def lruns (T S : List (List Row)) (ops : List Op) : List (List Row) := ops.foldl (fun F o => F ++ [distG (opR T S F o)]) []
theorem lruns_snoc (T S : List (List Row)) (ops : List Op) (o : Op) : lruns T S (ops ++ [o]) = lruns T S ops ++ [distG (opR T S (lruns T S ops) o)] := by
  unfold lruns
  rw [List.foldl_append]
  rfl
theorem lruns_take (T S : List (List Row)) {ops : List Op} {j : Nat} {o : Op} (h : ops[j]? = some o) : lruns T S (ops.take (j + 1)) = lruns T S (ops.take j) ++ [distG (opR T S (lruns T S (ops.take j)) o)] := by
  rw [List.take_add_one, h]
  exact lruns_snoc T S _ o
theorem lruns_len (T S : List (List Row)) (ops : List Op) : (lruns T S ops).length = ops.length := by
  have go : ∀ (ops : List Op) (F : List (List Row)), (ops.foldl (fun F o => F ++ [distG (opR T S F o)]) F).length = F.length + ops.length := by
    intro ops
    induction ops with
    | nil => exact fun F => rfl
    | cons o ops ih =>
      intro F
      rw [List.foldl_cons, ih, List.length_append, List.length_singleton, List.length_cons]
      omega
  have := go ops []
  rw [List.length_nil, Nat.zero_add] at this
  exact this
def LPlOk (tw sw : List Nat) (T S : List (List Row)) (ops : List Op) (ws : List Nat) : Prop := ws.length = ops.length ∧ (∀ (i : Nat) (o : Op) (w : Nat), ops[i]? = some o → ws[i]? = some w → o.okW tw sw (ws.take i) w ∧ 1 ≤ w ∧ w ≤ 1000) ∧ ∀ (i : Nat) (o : Op), ops[i]? = some o → (opR T S (lruns T S (ops.take i)) o).length ≤ 1000
def sp_lops (K : PySem.W.Frag) : Sp := fun vs H Q _ => ∃ (x : V) (da ta sa : Addr) (o : Op) (T S F : List (List Row)) (tw sw ws : List Nat) (w : Nat), vs = [x, .ref da, .ref ta, .ref sa] ∧ Dp K H x o.d ∧ FL H da F ∧ FL H ta T ∧ FL H sa S ∧ o.okW tw sw ws w ∧ FsOk tw T ∧ FsOk sw S ∧ FsOk ws F ∧ (∀ rs ∈ F, rs.length ≤ 1000) ∧ (∀ v ∈ ws, v ≤ 1000) ∧ w ≤ 1000 ∧ ∀ (H' : Hp) (p : Addr), Same H H' → RL H' p (opR T S F o) → Q (.ref p) H'
def sp_lplr (K : PySem.W.Frag) : Sp := fun vs H Q _ => ∃ (x : V) (ta sa : Addr) (ops : List Op) (T S : List (List Row)) (tw sw ws : List Nat), vs = [x, .ref ta, .ref sa] ∧ Dp K H x (.list (ops.map Op.d)) ∧ ops ≠ [] ∧ ops.length ≤ 1000 ∧ FL H ta T ∧ FL H sa S ∧ FsOk tw T ∧ FsOk sw S ∧ LPlOk tw sw T S ops ws ∧ ∀ (H' : Hp) (p : Addr), Same H H' → RL H' p ((lruns T S ops).getLastD []) → Q (.ref p) H'
/-- what stands before an operation is run -/
theorem lpl_at {tw sw : List Nat} {T S : List (List Row)} {ops : List Op} {ws : List Nat} (okT : FsOk tw T) (okS : FsOk sw S) (h : LPlOk tw sw T S ops ws) : ∀ j, j ≤ ops.length → FsOk (ws.take j) (lruns T S (ops.take j)) ∧ ∀ rs ∈ lruns T S (ops.take j), rs.Nodup ∧ rs.length ≤ 1000
  | 0, _ => ⟨⟨rfl, fun i rs w h => by simp [lruns] at h⟩, fun rs h => by simp [lruns] at h⟩
  | j + 1, hj => by
    obtain ⟨i1, i2⟩ := lpl_at okT okS h j (by omega)
    have ho := List.getElem?_eq_getElem (show j < ops.length from hj)
    have hw := List.getElem?_eq_getElem (show j < ws.length from by rw [h.1]; exact hj)
    obtain ⟨k1, k2, k3⟩ := h.2.1 j _ _ ho hw
    have hR := opR_ok okT okS i1 (fun rs h => Nat.le_trans (i2 rs h).2 (by omega)) k1
    have lr : (lruns T S (ops.take j)).length = j := by rw [lruns_len, List.length_take]; omega
    have lw : (ws.take j).length = j := by rw [List.length_take, h.1]; omega
    rw [lruns_take T S ho, List.take_add_one, hw]
    refine ⟨⟨by rw [List.length_append, List.length_append, lr, lw]; rfl, fun i rs w g1 g2 => ?_⟩, fun rs hm => ?_⟩
    · by_cases e : i < j
      · rw [List.getElem?_append_left (by omega)] at g1 g2
        exact i1.2 i rs w g1 g2
      · rw [List.getElem?_append_right (by omega)] at g1 g2
        have e2 : i - j = 0 := by
          have := (List.getElem?_eq_some_iff.mp g1).1
          rw [List.length_singleton, lr] at this
          omega
        rw [lr, e2] at g1
        rw [lw, e2] at g2
        obtain rfl := Option.some.inj g1
        obtain rfl := Option.some.inj g2
        exact fun r hr => hR r ((distG_mem _ r).mp hr)
    · rcases List.mem_append.mp hm with hm | hm
      · exact i2 rs hm
      · rw [List.mem_singleton.mp hm]
        exact ⟨distG_nodup _, Nat.le_trans (distG_len _) (h.2.2 j _ ho)⟩
theorem dpa_arows {K : PySem.W.Frag} {H : Hp} : ∀ {us : List AR}, (∀ x ∈ us, H x.1 = some (.tup (x.2.map Vl.v))) → DpAll K H (us.map fun x => V.ref x.1) (us.map fun x => rowP x.2)
  | [], _ => .nil
  | x :: us, h => .cons (dp_rowP (.of (h x List.mem_cons_self))) (dpa_arows fun y hy => h y (List.mem_cons_of_mem _ hy))
section
variable {P : Program} {w : World} {K : PySem.W.Frag} {mg : Str → Option Value} {base : Heap}
theorem ok_lops {f : Addr} {fd : FuncData} (F : Fun K "_law_operation_rows" "_law_operation_rows" s__law_operation_rows f fd) (M : Mg mg) (c__law_due : Cl P w K mg base 8 "_law_due" (sp_eval K 5)) (c__law_holds : Cl P w K mg base 9 "_law_holds" (sp_lholds K)) (c__law_grouped : Cl P w K mg base 10 "_law_grouped" (sp_lgrp K)) (c__law_joined : Cl P w K mg base 10 "_law_joined" (sp_ljon K)) : FnOk P w K mg base CX0 11 f fd ["operation", "done", "tables", "steps"] (sp_lops K) := by
  refine F.ok sc__law_operation_rows (fun vs H Q E h => ?_) (fun cdv A outer s H vs Q E hr h => ?_)
  · obtain ⟨x, da, ta, sa, o, T, S, Fs, tw, sw, ws, w, rfl, _⟩ := h
    rfl
  · obtain ⟨x, da, ta, sa, o, T, S, Fs, tw, sw, ws, wd, rfl, dp, hF, hT, hS, hw, okT, okS, hok, hlen, hws, w2, q⟩ := h
    refine ⟨_, (pss_cons (ps_set (i := 4) sc__law_operation_rows.nd rfl (.inl rfl) (pe_ix (ix_tupK K) (pv 0) pe_int (fun _ _ => rfl)))
      (pss_cons (ps_if (pt_cmpR op_eq (pv 4) pe_str (nomark _)) (pss_one (ps_ret (pe_ix (ix_listK K) (pv 2) (pe_ix (ix_tupK K) (pv 0) pe_int (fun _ _ => rfl)) (fun _ _ => rfl)))) pss_nil)
      (pss_cons (ps_if (pt_cmpR op_eq (pv 4) pe_str (nomark _)) (pss_one (ps_ret (pe_ix (ix_listK K) (pv 3) (pe_ix (ix_tupK K) (pv 0) pe_int (fun _ _ => rfl)) (fun _ _ => rfl)))) pss_nil)
      (pss_cons (ps_if (pt_cmpR op_eq (pv 4) pe_str (nomark _)) (pss_one (ps_ret (pe_op op_cat (pe_ix (ix_listK K) (pv 1) (pe_ix (ix_tupK K) (pv 0) pe_int (fun _ _ => rfl)) (fun _ _ => rfl)) (pe_ix (ix_listK K) (pv 1) (pe_ix (ix_tupK K) (pv 0) pe_int (fun _ _ => rfl)) (fun _ _ => rfl))))) pss_nil)
      (pss_cons (ps_if (pt_cmpR op_eq (pv 4) pe_str (nomark _)) (pss_one (ps_ret (pe_lc (own := [("row", 6)]) (g := gName 6) rfl sc__law_operation_rows.nd (pi_list (pe_ix (ix_listK K) (pv 1) (pe_ix (ix_tupK K) (pv 0) pe_int (fun _ _ => rfl)) (fun _ _ => rfl))) (blkOk_by (N := N__law_operation_rows) (sc := defScope s__law_operation_rows) (by decide +kernel)) (fun _ _ _ _ _ => (pg_name (i := 6) sc__law_operation_rows.nd rfl (.inl rfl))) (fun _ _ _ _ _ => (pts_one (pt_cmpR (notInDK K (hu65 hr)) (pv 6) (pe_ix (ix_listK K) (pv 1) (pe_ix (ix_tupK K) (pv 0) pe_int (fun _ _ => rfl)) (fun _ _ => rfl)) (by rfl)))) (fun _ _ _ _ _ => (pv 6))))) pss_nil)
      (pss_cons (ps_if (pt_cmpR op_eq (pv 4) pe_str (nomark _)) (pss_one (ps_ret (pe_u c__law_grouped hr (by first | decide | omega) (by rfl) (pa_cons (pv 0) (pa_cons (pe_ix (ix_listK K) (pv 1) (pe_ix (ix_tupK K) (pv 0) pe_int (fun _ _ => rfl)) (fun _ _ => rfl)) pa_nil))))) pss_nil)
      (pss_cons (ps_set (i := 5) sc__law_operation_rows.nd rfl (.inl rfl) (pe_ix (ix_listK K) (pv 1) (pe_ix (ix_tupK K) (pv 0) pe_int (fun _ _ => rfl)) (fun _ _ => rfl)))
      (pss_cons (ps_if (pt_cmpR op_eq (pv 4) pe_str (nomark _)) (pss_one (ps_ret (pe_lc (own := [("row", 6)]) (g := gName 6) rfl sc__law_operation_rows.nd (pi_list (pv 5)) (blkOk_by (N := N__law_operation_rows) (sc := defScope s__law_operation_rows) (by decide +kernel)) (fun _ _ _ _ _ => (pg_name (i := 6) sc__law_operation_rows.nd rfl (.inl rfl))) (fun _ _ _ _ _ => (pts_one (pt_truthK K (pe_u c__law_holds hr (by first | decide | omega) (by rfl) (pa_cons (pe_ix (ix_tupK K) (pv 0) pe_int (fun _ _ => rfl)) (pa_cons (pv 6) pa_nil))) (by intro _; rfl)))) (fun _ _ _ _ _ => (pv 6))))) pss_nil)
      (pss_cons (ps_if (pt_cmpR op_eq (pv 4) pe_str (nomark _)) (pss_one (ps_ret (pe_lc (own := [("row", 6)]) (g := gName 6) (tt := tYes) rfl sc__law_operation_rows.nd (pi_list (pv 5)) (blkOk_by (N := N__law_operation_rows) (sc := defScope s__law_operation_rows) (by decide +kernel)) (fun _ _ _ _ _ => (pg_name (i := 6) sc__law_operation_rows.nd rfl (.inr rfl))) (fun _ _ _ _ _ => pts_nil) (fun _ _ _ _ _ => (pe_callTy (tupleK K) (by rfl) M.tuple (by decide +kernel) (pa_cons (pe_lc (own := [("tree", 7)]) (g := gName 7) (tt := tYes) rfl sc__law_operation_rows.nd (pi_listK K (pe_ix (ix_tupK K) (pv 0) pe_int (fun _ _ => rfl))) (blkOk_by (N := N__law_operation_rows) (sc := relS { kind := PySem.ScopeKind.function, names := [ (PySem.Str.ofString ".0", PySem.NameKind.local), (PySem.Str.ofString "row", PySem.NameKind.cell), (PySem.Str.ofString "tuple", PySem.NameKind.globalImplicit), (PySem.Str.ofString "operation", PySem.NameKind.free)], isGenerator := false, isCoroutine := false, more := [] : PySem.Scope } (defScope s__law_operation_rows)) (by decide +kernel)) (fun _ _ _ _ _ => (pg_name (i := 7) sc__law_operation_rows.nd rfl (.inl rfl))) (fun _ _ _ _ _ => pts_nil) (fun _ _ _ _ _ => (pe_u c__law_due hr (by first | decide | omega) (by rfl) (pa_cons (pv 7) (pa_cons (pv 6) pa_nil))))) pa_nil)))))) pss_nil)
      (pss_one (ps_ret (pe_u c__law_joined hr (by first | decide | omega) (by rfl) (pa_cons (pv 0) (pa_cons (pv 5) (pa_cons (pe_ix (ix_listK K) (pv 1) (pe_ix (ix_tupK K) (pv 0) pe_int (fun _ _ => rfl)) (fun _ _ => rfl)) pa_nil))))))))))))))), ?_⟩
    cases o with
    | tab i =>
      have dp : Dp K H x (.tuple [.str (Str.ofString "table"), nI i]) := dp
      obtain ⟨pa, xs, rfl, hpa, dxs⟩ := dp_tup dp
      obtain ⟨u, rfl, du⟩ := dp_two dxs
      obtain rfl := dp_nat du
      obtain ⟨g1, g2⟩ := okT.at hw
      obtain ⟨txs, a, hta, hat, hRL⟩ := hT.at g1
      refine ⟨_, rfl, pa, _, _, _, rfl, rfl, hpa, atI_nat (j := 0) rfl, ?_⟩
      refine ⟨_, rfl, rfl, _, rfl, ?_⟩
      rw [weq]
      exact iteT ⟨_, rfl, _, rfl, pa, _, _, _, rfl, rfl, hpa, atI_nat (j := 1) rfl, ta, _, _, _, rfl, rfl, .of hta, hat, q H a (fun _ _ h => h) hRL⟩
    | stp i =>
      have dp : Dp K H x (.tuple [.str (Str.ofString "step"), nI i]) := dp
      obtain ⟨pa, xs, rfl, hpa, dxs⟩ := dp_tup dp
      obtain ⟨u, rfl, du⟩ := dp_two dxs
      obtain rfl := dp_nat du
      obtain ⟨g1, g2⟩ := okS.at hw
      obtain ⟨txs, a, hta, hat, hRL⟩ := hS.at g1
      refine ⟨_, rfl, pa, _, _, _, rfl, rfl, hpa, atI_nat (j := 0) rfl, ?_⟩
      refine ⟨_, rfl, rfl, _, rfl, ?_⟩
      rw [wne "step" "table" (by decide +kernel)]
      refine iteF ?_
      refine ⟨_, rfl, rfl, _, rfl, ?_⟩
      rw [weq]
      exact iteT ⟨_, rfl, _, rfl, pa, _, _, _, rfl, rfl, hpa, atI_nat (j := 1) rfl, sa, _, _, _, rfl, rfl, .of hta, hat, q H a (fun _ _ h => h) hRL⟩
    | uni qi ri =>
      have dp : Dp K H x (.tuple [.str (Str.ofString "union"), nI qi, nI ri]) := dp
      obtain ⟨pa, xs, rfl, hpa, dxs⟩ := dp_tup dp
      obtain ⟨xq, xr, rfl, dq, dr⟩ := dp_three dxs
      obtain rfl := dp_nat dq
      obtain rfl := dp_nat dr
      obtain ⟨g1, g2⟩ := hok.at hw.1
      obtain ⟨k1, k2⟩ := hok.at hw.2
      obtain ⟨fxs, la, hfa, hat, zs, hla, hz, ezs⟩ := hF.at g1
      obtain ⟨fxs', lb, hfa', hbt, us, hlb, hu', eus⟩ := hF.at k1
      obtain rfl : fxs' = fxs := HO.lst.inj (Option.some.inj (hfa'.symm.trans hfa))
      have len := hlen _ (List.mem_of_getElem? g1)
      have len' := hlen _ (List.mem_of_getElem? k1)
      rw [← ezs, List.length_map] at len
      rw [← eus, List.length_map] at len'
      refine ⟨_, rfl, pa, _, _, _, rfl, rfl, hpa, atI_nat (j := 0) rfl, ?_⟩
      refine ⟨_, rfl, rfl, _, rfl, ?_⟩
      rw [wne "union" "table" (by decide +kernel)]
      refine iteF ?_
      refine ⟨_, rfl, rfl, _, rfl, ?_⟩
      rw [wne "union" "step" (by decide +kernel)]
      refine iteF ?_
      refine ⟨_, rfl, rfl, _, rfl, ?_⟩
      rw [weq]
      refine iteT ⟨_, rfl, _, rfl, pa, _, _, _, rfl, rfl, hpa, atI_nat (j := 1) rfl, da, _, _, _, rfl, rfl, .of hfa, hat, ?_⟩
      refine ⟨_, rfl, _, rfl, pa, _, _, _, rfl, rfl, hpa, atI_nat (j := 2) rfl, da, _, _, _, rfl, rfl, .of hfa, hbt, ?_⟩
      refine ⟨la, lb, _, _, rfl, rfl, hla, hlb, ?_, fun p np => ?_⟩
      · rw [List.length_map, List.length_map]
        exact Nat.le_trans (m := 2000) (by omega) (by decide)
      have e0 : opR T S Fs (.uni qi ri) = (zs ++ us).map Prod.snd := by rw [List.map_append, ezs, eus]; rfl
      rw [e0] at q
      refine q _ p (same_upd np) ⟨zs ++ us, by rw [upd_same, List.map_append], fun m hm => ?_, rfl⟩
      rcases List.mem_append.mp hm with hm | hm
      · exact same_upd np _ _ (hz m hm)
      · exact same_upd np _ _ (hu' m hm)
    | min qi ri =>
      have dp : Dp K H x (.tuple [.str (Str.ofString "minus"), nI qi, nI ri]) := dp
      obtain ⟨pa, xs, rfl, hpa, dxs⟩ := dp_tup dp
      obtain ⟨xq, xr, rfl, dq, dr⟩ := dp_three dxs
      obtain rfl := dp_nat dq
      obtain rfl := dp_nat dr
      obtain ⟨g1, g2⟩ := hok.at hw.1
      obtain ⟨k1, k2⟩ := hok.at hw.2
      obtain ⟨fxs, la, hfa, hat, zs, hla, hz, ezs⟩ := hF.at g1
      obtain ⟨fxs', lb, hfa', hbt, us, hlb, hu', eus⟩ := hF.at k1
      obtain rfl : fxs' = fxs := HO.lst.inj (Option.some.inj (hfa'.symm.trans hfa))
      have len := hlen _ (List.mem_of_getElem? g1)
      have len' := hlen _ (List.mem_of_getElem? k1)
      rw [← ezs, List.length_map] at len
      rw [← eus, List.length_map] at len'
      refine ⟨_, rfl, pa, _, _, _, rfl, rfl, hpa, atI_nat (j := 0) rfl, ?_⟩
      refine ⟨_, rfl, rfl, _, rfl, ?_⟩
      rw [wne "minus" "table" (by decide +kernel)]
      refine iteF ?_
      refine ⟨_, rfl, rfl, _, rfl, ?_⟩
      rw [wne "minus" "step" (by decide +kernel)]
      refine iteF ?_
      refine ⟨_, rfl, rfl, _, rfl, ?_⟩
      rw [wne "minus" "union" (by decide +kernel)]
      refine iteF ?_
      refine ⟨_, rfl, rfl, _, rfl, ?_⟩
      rw [weq]
      refine iteT ⟨_, rfl, _, rfl, pa, _, _, _, rfl, rfl, hpa, atI_nat (j := 1) rfl, da, _, _, _, rfl, rfl, .of hfa, hat, la, rfl, ⟨_, .of hla⟩, fun D nD => ?_⟩
      refine lc_list (K := K) (a := la) (xs := zs.map fun x => V.ref x.1) (fun j Hj => Same H Hj ∧ Hj D = some (.lst (((zs.take j).filter fun x => !decide (x.2 ∈ Fs.getD ri [])).map fun x => V.ref x.1))) ⟨same_upd nD, upd_same⟩ (fun j Hj _ hp => .of (hp.1 _ _ hla)) (fun j y Hj hy hp => ?_) (fun H2 hp => ?_)
      · obtain ⟨sj, eD⟩ := hp
        rw [List.getElem?_map] at hy
        obtain ⟨u, hu, rfl⟩ := Option.map_eq_some_iff.mp hy
        have hm := List.mem_of_getElem? hu
        obtain ⟨lu, ou⟩ := g2 u.2 (ezs ▸ List.mem_map.mpr ⟨u, hm, rfl⟩)
        have lf := fil_len (zs := zs) j fun x => !decide (x ∈ Fs.getD ri [])
        have etk := fil_snoc (fun x => !decide (x ∈ Fs.getD ri [])) hu
        refine ⟨rfl, ?_⟩
        refine ⟨_, rfl, _, rfl, _, rfl, pa, _, _, _, rfl, rfl, SqT.ext sj hpa, atI_nat (j := 2) rfl, da, _, _, _, rfl, rfl, .of (sj _ _ hfa), hbt, ?_⟩
        refine ⟨rowP u.2, us.map fun x => rowP x.2, dp_rowP (.of (sj _ _ (hz u hm))), .lst (.of (sj _ _ hlb)) (dpa_arows fun x hx => sj _ _ (hu' x hx)), shaped_one (rowP_lay ou), shaped_list (fun y hy => ?_), _, rfl, ?_⟩
        · obtain ⟨x, hx, rfl⟩ := List.mem_map.mp hy
          exact rowP_lay (k2 x.2 (eus ▸ List.mem_map.mpr ⟨x, hx, rfl⟩)).2
        have hany : ((us.map fun x => rowP x.2).any fun z => PyData.eqv z (rowP u.2)) = decide (u.2 ∈ Fs.getD ri []) := by
          rw [List.any_map, Bool.eq_iff_iff, decide_eq_true_iff, List.any_eq_true, ← eus]
          constructor
          · rintro ⟨x, hx, e⟩
            have e : PyData.eqv (rowP x.2) (rowP u.2) = true := e
            rw [rowP_eqv] at e
            exact List.mem_map.mpr ⟨x, hx, of_decide_eq_true e⟩
          · intro h
            obtain ⟨x, hx, e⟩ := List.mem_map.mp h
            exact ⟨x, hx, by show PyData.eqv (rowP x.2) (rowP u.2) = true; rw [rowP_eqv]; exact decide_eq_true e⟩
        rw [hany]
        refine ite2 (fun g => ?_) (fun g => ?_)
        · refine ⟨_, rfl, _, eD, by rw [List.length_map]; exact small1 (by omega), fun b o e => ?_, ?_⟩
          · rw [upd_ne (ne_of_none e nD)]
            exact sj _ _ e
          · rw [upd_same, etk, if_pos g, List.map_append]
            rfl
        · refine ⟨sj, ?_⟩
          rw [etk, if_neg g, List.append_nil]
          exact eD
      · obtain ⟨s2, eD⟩ := hp
        rw [List.length_map, List.take_of_length_le (Nat.le_refl _)] at eD
        refine q H2 D s2 ?_
        have : opR T S Fs (.min qi ri) = (zs.filter fun x => !decide (x.2 ∈ Fs.getD ri [])).map Prod.snd := by
          rw [mfil zs fun x => !decide (x ∈ Fs.getD ri []), ezs]
          rfl
        rw [this]
        exact rlz _ eD fun x hx => s2 _ _ (hz x (List.mem_filter.mp hx).1)
    | fil e qi =>
      have dp : Dp K H x (.tuple [.str (Str.ofString "filter"), e.d, nI qi]) := dp
      obtain ⟨h1, h2, h3⟩ := hw
      obtain ⟨g1, g2⟩ := hok.at h1
      obtain ⟨pa, xs, rfl, hpa, dxs⟩ := dp_tup dp
      obtain ⟨xe, xq, rfl, de, dq⟩ := dp_three dxs
      obtain rfl := dp_nat dq
      obtain ⟨fxs, la, hfa, hat, zs, hla, hz, ezs⟩ := hF.at g1
      have len := hlen _ (List.mem_of_getElem? g1)
      rw [← ezs, List.length_map] at len
      refine ⟨_, rfl, pa, _, _, _, rfl, rfl, hpa, atI_nat (j := 0) rfl, ?_⟩
      refine ⟨_, rfl, rfl, _, rfl, ?_⟩
      rw [wne "filter" "table" (by decide +kernel)]
      refine iteF ?_
      refine ⟨_, rfl, rfl, _, rfl, ?_⟩
      rw [wne "filter" "step" (by decide +kernel)]
      refine iteF ?_
      refine ⟨_, rfl, rfl, _, rfl, ?_⟩
      rw [wne "filter" "union" (by decide +kernel)]
      refine iteF ?_
      refine ⟨_, rfl, rfl, _, rfl, ?_⟩
      rw [wne "filter" "minus" (by decide +kernel)]
      refine iteF ?_
      refine ⟨_, rfl, rfl, _, rfl, ?_⟩
      rw [wne "filter" "group" (by decide +kernel)]
      refine iteF ?_
      refine ⟨_, rfl, _, rfl, pa, _, _, _, rfl, rfl, hpa, atI_nat (j := 2) rfl, da, _, _, _, rfl, rfl, .of hfa, hat, ?_⟩
      refine ⟨_, rfl, rfl, _, rfl, ?_⟩
      rw [weq]
      refine iteT ⟨_, rfl, la, rfl, ⟨_, .of hla⟩, fun D nD => ?_⟩
      refine lc_list (K := K) (a := la) (xs := zs.map fun x => V.ref x.1) (tt := fun σ H Q => tCall (sp_lholds K) [] E0 (tCons (tOp (rIxT K) (tVar 0) (tC (V.int 1))) (tCons (tVar 6) tNil)) σ H fun x H' => ∃ k, TruV K x H' k ∧ Q k H') (fun j Hj => Same H Hj ∧ Hj D = some (.lst (((zs.take j).filter fun x => (e.ev x.2).tr).map fun x => V.ref x.1))) ⟨same_upd nD, upd_same⟩ (fun j Hj _ hp => .of (hp.1 _ _ hla)) (fun j y Hj hy hp => ?_) (fun H1 hp => ?_)
      · obtain ⟨sj, eD⟩ := hp
        rw [List.getElem?_map] at hy
        obtain ⟨u, hu, rfl⟩ := Option.map_eq_some_iff.mp hy
        have hm := List.mem_of_getElem? hu
        obtain ⟨lu, ou⟩ := g2 u.2 (ezs ▸ List.mem_map.mpr ⟨u, hm, rfl⟩)
        have lf := fil_len (zs := zs) j fun x => (e.ev x).tr
        have etk := fil_snoc (fun x => (e.ev x).tr) hu
        refine ⟨rfl, ?_⟩
        refine ⟨_, rfl, pa, _, _, _, rfl, rfl, SqT.ext sj hpa, atI_nat (j := 1) rfl, _, rfl, xe, u.1, e, u.2, rfl, Dp.ext sj _ _ de, sj _ _ (hz u hm), by rw [lu]; exact h2, h3, ou, fun H' s' => ⟨_, rfl, ?_⟩⟩
        refine ite2 (fun g => ?_) (fun g => ?_)
        · refine ⟨_, rfl, _, s' _ _ eD, by rw [List.length_map]; exact small1 (by omega), fun b o e => ?_, ?_⟩
          · rw [upd_ne (ne_of_none e nD)]
            exact s' _ _ (sj _ _ e)
          · rw [upd_same, etk, if_pos g, List.map_append]
            rfl
        · refine ⟨sj.trans s', ?_⟩
          rw [etk, if_neg g, List.append_nil]
          exact s' _ _ eD
      · obtain ⟨s1, eD⟩ := hp
        rw [List.length_map, List.take_of_length_le (Nat.le_refl _)] at eD
        refine q H1 D s1 ?_
        have : opR T S Fs (.fil e qi) = (zs.filter fun x => (e.ev x.2).tr).map Prod.snd := by
          rw [mfil zs fun x => (e.ev x).tr, ezs]
          rfl
        rw [this]
        exact rlz _ eD fun x hx => s1 _ _ (hz x (List.mem_filter.mp hx).1)
    | map es qi =>
      have dp : Dp K H x (.tuple [.str (Str.ofString "map"), .list (es.map Ep.d), nI qi]) := dp
      obtain ⟨h1, v, h2, h3⟩ := hw
      obtain ⟨g1, g2⟩ := hok.at h2
      have les : es.length ≤ 1000 := by omega
      obtain ⟨pa, xs, rfl, hpa, dxs⟩ := dp_tup dp
      obtain ⟨xe, xq, rfl, de, dq⟩ := dp_three dxs
      obtain rfl := dp_nat dq
      obtain ⟨fxs, la, hfa, hat, zs, hla, hz, ezs⟩ := hF.at g1
      have len := hlen _ (List.mem_of_getElem? g1)
      rw [← ezs, List.length_map] at len
      refine ⟨_, rfl, pa, _, _, _, rfl, rfl, hpa, atI_nat (j := 0) rfl, ?_⟩
      obtain ⟨ka, kxs, rfl, hka, dka⟩ := dpl_get de
      have lkx : kxs.length = es.length := by rw [DpAll.len dka, List.length_map]
      refine ⟨_, rfl, rfl, _, rfl, ?_⟩
      rw [wne "map" "table" (by decide +kernel)]
      refine iteF ?_
      refine ⟨_, rfl, rfl, _, rfl, ?_⟩
      rw [wne "map" "step" (by decide +kernel)]
      refine iteF ?_
      refine ⟨_, rfl, rfl, _, rfl, ?_⟩
      rw [wne "map" "union" (by decide +kernel)]
      refine iteF ?_
      refine ⟨_, rfl, rfl, _, rfl, ?_⟩
      rw [wne "map" "minus" (by decide +kernel)]
      refine iteF ?_
      refine ⟨_, rfl, rfl, _, rfl, ?_⟩
      rw [wne "map" "group" (by decide +kernel)]
      refine iteF ?_
      refine ⟨_, rfl, _, rfl, pa, _, _, _, rfl, rfl, hpa, atI_nat (j := 2) rfl, da, _, _, _, rfl, rfl, .of hfa, hat, ?_⟩
      refine ⟨_, rfl, rfl, _, rfl, ?_⟩
      rw [wne "map" "filter" (by decide +kernel)]
      refine iteF ?_
      refine ⟨_, rfl, rfl, _, rfl, ?_⟩
      rw [weq]
      refine iteT ⟨_, rfl, la, rfl, ⟨_, .of hla⟩, fun D nD => ?_⟩
      refine lc_list (K := K) (a := la) (xs := zs.map fun x => V.ref x.1) (fun j Hj => Same H Hj ∧ ∃ ms : List AR, Hj D = some (.lst (ms.map fun x => V.ref x.1)) ∧ (∀ m ∈ ms, Hj m.1 = some (.tup (m.2.map Vl.v))) ∧ ms.map Prod.snd = ((zs.take j).map Prod.snd).map (keyR es)) ⟨same_upd nD, [], upd_same, (fun _ h => by cases h), rfl⟩ (fun j Hj _ hp => .of (hp.1 _ _ hla)) (fun j y Hj hy hp => ?_) (fun H1 hp => ?_)
      · obtain ⟨sj, ms, eD, hms, ems⟩ := hp
        rw [List.getElem?_map] at hy
        obtain ⟨u, hu, rfl⟩ := Option.map_eq_some_iff.mp hy
        have hm := List.mem_of_getElem? hu
        obtain ⟨lu, ou⟩ := g2 u.2 (ezs ▸ List.mem_map.mpr ⟨u, hm, rfl⟩)
        have lms : ms.length ≤ zs.length := by
          rw [← List.length_map (f := Prod.snd), ems, List.length_map, List.length_map]
          exact List.length_take_le' _ _
        refine ⟨rfl, ?_⟩
        refine ⟨_, rfl, pa, _, _, _, rfl, rfl, SqT.ext sj hpa, atI_nat (j := 1) rfl, ka, rfl, ⟨_, SqL.same sj hka⟩, fun D2 nD2 => ?_⟩
        refine lc_list (K := K) (a := ka) (xs := kxs) (fun k Hk => Same Hj Hk ∧ Hk D2 = some (.lst ((keyR (es.take k) u.2).map Vl.v))) ⟨same_upd nD2, upd_same⟩ (fun k Hk _ hp => SqL.same (sj.trans hp.1) hka) (fun k y Hk hy hp => ?_) (fun H2 hp => ?_)
        · obtain ⟨sk, eD2⟩ := hp
          have hk : k < es.length := by rw [← lkx]; exact (List.getElem?_eq_some_iff.mp hy).1
          obtain ⟨y', hy', dy⟩ := DpAll.get dka (show (es.map Ep.d)[k]? = some (es[k]).d by rw [List.getElem?_map, List.getElem?_eq_getElem hk]; rfl)
          obtain rfl : y = y' := Option.some.inj (hy.symm.trans hy')
          have he := h3 es[k] (List.getElem_mem hk)
          refine ⟨rfl, ?_⟩
          refine ⟨_, rfl, _, rfl, y, u.1, es[k], u.2, rfl, Dp.ext (sj.trans sk) _ _ dy, .of (sk _ _ (sj _ _ (hz u hm))), by rw [lu]; exact he.1, ou, he.2, fun H' s' => ?_⟩
          refine ⟨_, s' _ _ eD2, ?_, fun b o e => ?_, ?_⟩
          · unfold keyR
            rw [List.length_map, List.length_map, List.length_take]
            exact small1 (by omega)
          · rw [upd_ne (ne_of_none e nD2)]
            exact s' _ _ (sk _ _ e)
          · unfold keyR
            rw [upd_same, List.take_add_one, List.getElem?_eq_getElem hk, List.map_append, List.map_append]
            rfl
        · obtain ⟨s1, eD2⟩ := hp
          rw [lkx, List.take_of_length_le (Nat.le_refl _)] at eD2
          refine ⟨D2, _, rfl, .inl ⟨.of eD2, fun p np => ?_⟩⟩
          have sp := same_upd np (o := .tup ((keyR es u.2).map Vl.v))
          have eD' := sp _ _ (s1 _ _ eD)
          refine ⟨_, eD', by rw [List.length_map]; exact small1 (by omega), fun b o e => ?_, ms ++ [(p, keyR es u.2)], ?_, fun m hm => ?_, ?_⟩
          · rw [upd_ne (ne_of_none e nD)]
            exact sp _ _ (s1 _ _ (sj _ _ e))
          · rw [upd_same, List.map_append]
            rfl
          · refine Tk.upd (fun ys z => by rw [eD'] at z; cases z) _ _ ?_
            rcases List.mem_append.mp hm with hm | hm
            · exact sp _ _ (s1 _ _ (hms m hm))
            · rw [List.mem_singleton.mp hm]
              exact upd_same
          · rw [List.map_append, ems, List.take_add_one, hu, List.map_append, List.map_append]
            rfl
      · obtain ⟨s1, ms, eD, hms, ems⟩ := hp
        rw [List.length_map, List.take_of_length_le (Nat.le_refl _), ezs] at ems
        exact q H1 D s1 ⟨ms, eD, hms, ems⟩
    | joi e qi ri =>
      have dp0 := dp
      have dp : Dp K H x (.tuple [.str (Str.ofString "join"), e.d, nI qi, nI ri]) := dp
      obtain ⟨na, nb, h1, h2, h3, h4, h5⟩ := hw
      obtain ⟨g1, g2⟩ := hok.at h1
      obtain ⟨k1, k2⟩ := hok.at h2
      have na1 := hws _ (List.mem_of_getElem? h1)
      have nb1 := hws _ (List.mem_of_getElem? h2)
      obtain ⟨pa, xs, rfl, hpa, dxs⟩ := dp_tup dp
      obtain ⟨xe, xq, xr, rfl, de, dq, dr⟩ := dp_four dxs
      obtain rfl := dp_nat dq
      obtain rfl := dp_nat dr
      obtain ⟨fxs, la, hfa, hat, hA⟩ := hF.at g1
      obtain ⟨fxs', lb, hfa', hbt, hB⟩ := hF.at k1
      obtain rfl : fxs' = fxs := HO.lst.inj (Option.some.inj (hfa'.symm.trans hfa))
      refine ⟨_, rfl, pa, _, _, _, rfl, rfl, hpa, atI_nat (j := 0) rfl, ?_⟩
      refine ⟨_, rfl, rfl, _, rfl, ?_⟩
      rw [wne "join" "table" (by decide +kernel)]
      refine iteF ?_
      refine ⟨_, rfl, rfl, _, rfl, ?_⟩
      rw [wne "join" "step" (by decide +kernel)]
      refine iteF ?_
      refine ⟨_, rfl, rfl, _, rfl, ?_⟩
      rw [wne "join" "union" (by decide +kernel)]
      refine iteF ?_
      refine ⟨_, rfl, rfl, _, rfl, ?_⟩
      rw [wne "join" "minus" (by decide +kernel)]
      refine iteF ?_
      refine ⟨_, rfl, rfl, _, rfl, ?_⟩
      rw [wne "join" "group" (by decide +kernel)]
      refine iteF ?_
      refine ⟨_, rfl, _, rfl, pa, _, _, _, rfl, rfl, hpa, atI_nat (j := 2) rfl, da, _, _, _, rfl, rfl, .of hfa, hat, ?_⟩
      refine ⟨_, rfl, rfl, _, rfl, ?_⟩
      rw [wne "join" "filter" (by decide +kernel)]
      refine iteF ?_
      refine ⟨_, rfl, rfl, _, rfl, ?_⟩
      rw [wne "join" "map" (by decide +kernel)]
      refine iteF ?_
      refine ⟨_, rfl, _, rfl, _, rfl, _, rfl, pa, _, _, _, rfl, rfl, hpa, atI_nat (j := 3) rfl, da, _, _, _, rfl, rfl, .of hfa, hbt, ?_⟩
      exact ⟨.ref pa, la, lb, _, e, qi, ri, na, nb, _, _, rfl, .inl rfl, dp0, hA, hB, h4, h5, g2, k2, hlen _ (List.mem_of_getElem? g1), hlen _ (List.mem_of_getElem? k1), na1, nb1, fun H' p s h => q H' p s h⟩
    | ant e qi ri =>
      have dp0 := dp
      have dp : Dp K H x (.tuple [.str (Str.ofString "anti"), e.d, nI qi, nI ri]) := dp
      obtain ⟨h1, nb, h2, h4, h5⟩ := hw
      obtain ⟨g1, g2⟩ := hok.at h1
      obtain ⟨k1, k2⟩ := hok.at h2
      have na1 := hws _ (List.mem_of_getElem? h1)
      have nb1 := hws _ (List.mem_of_getElem? h2)
      obtain ⟨pa, xs, rfl, hpa, dxs⟩ := dp_tup dp
      obtain ⟨xe, xq, xr, rfl, de, dq, dr⟩ := dp_four dxs
      obtain rfl := dp_nat dq
      obtain rfl := dp_nat dr
      obtain ⟨fxs, la, hfa, hat, hA⟩ := hF.at g1
      obtain ⟨fxs', lb, hfa', hbt, hB⟩ := hF.at k1
      obtain rfl : fxs' = fxs := HO.lst.inj (Option.some.inj (hfa'.symm.trans hfa))
      refine ⟨_, rfl, pa, _, _, _, rfl, rfl, hpa, atI_nat (j := 0) rfl, ?_⟩
      refine ⟨_, rfl, rfl, _, rfl, ?_⟩
      rw [wne "anti" "table" (by decide +kernel)]
      refine iteF ?_
      refine ⟨_, rfl, rfl, _, rfl, ?_⟩
      rw [wne "anti" "step" (by decide +kernel)]
      refine iteF ?_
      refine ⟨_, rfl, rfl, _, rfl, ?_⟩
      rw [wne "anti" "union" (by decide +kernel)]
      refine iteF ?_
      refine ⟨_, rfl, rfl, _, rfl, ?_⟩
      rw [wne "anti" "minus" (by decide +kernel)]
      refine iteF ?_
      refine ⟨_, rfl, rfl, _, rfl, ?_⟩
      rw [wne "anti" "group" (by decide +kernel)]
      refine iteF ?_
      refine ⟨_, rfl, _, rfl, pa, _, _, _, rfl, rfl, hpa, atI_nat (j := 2) rfl, da, _, _, _, rfl, rfl, .of hfa, hat, ?_⟩
      refine ⟨_, rfl, rfl, _, rfl, ?_⟩
      rw [wne "anti" "filter" (by decide +kernel)]
      refine iteF ?_
      refine ⟨_, rfl, rfl, _, rfl, ?_⟩
      rw [wne "anti" "map" (by decide +kernel)]
      refine iteF ?_
      refine ⟨_, rfl, _, rfl, _, rfl, _, rfl, pa, _, _, _, rfl, rfl, hpa, atI_nat (j := 3) rfl, da, _, _, _, rfl, rfl, .of hfa, hbt, ?_⟩
      exact ⟨.ref pa, la, lb, _, e, qi, ri, wd, nb, _, _, rfl, .inr rfl, dp0, hA, hB, h4, h5, g2, k2, hlen _ (List.mem_of_getElem? g1), hlen _ (List.mem_of_getElem? k1), na1, nb1, fun H' p s h => q H' p s h⟩
    | grp ks ts qi =>
      have dp0 := dp
      have dp : Dp K H x (.tuple [.str (Str.ofString "group"), .list (ks.map Ep.d), .list (ts.map Fm.d), nI qi]) := dp
      obtain ⟨h1, v, h2, h3, h4⟩ := hw
      obtain ⟨g1, g2⟩ := hok.at h2
      obtain ⟨pa, xs, rfl, hpa, dxs⟩ := dp_tup dp
      obtain ⟨xe, xq, xr, rfl, de, dq, dr⟩ := dp_four dxs
      obtain rfl := dp_nat dr
      obtain ⟨fxs, la, hfa, hat, hA⟩ := hF.at g1
      refine ⟨_, rfl, pa, _, _, _, rfl, rfl, hpa, atI_nat (j := 0) rfl, ?_⟩
      refine ⟨_, rfl, rfl, _, rfl, ?_⟩
      rw [wne "group" "table" (by decide +kernel)]
      refine iteF ?_
      refine ⟨_, rfl, rfl, _, rfl, ?_⟩
      rw [wne "group" "step" (by decide +kernel)]
      refine iteF ?_
      refine ⟨_, rfl, rfl, _, rfl, ?_⟩
      rw [wne "group" "union" (by decide +kernel)]
      refine iteF ?_
      refine ⟨_, rfl, rfl, _, rfl, ?_⟩
      rw [wne "group" "minus" (by decide +kernel)]
      refine iteF ?_
      refine ⟨_, rfl, rfl, _, rfl, ?_⟩
      rw [weq]
      refine iteT ⟨_, rfl, _, rfl, _, rfl, pa, _, _, _, rfl, rfl, hpa, atI_nat (j := 3) rfl, da, _, _, _, rfl, rfl, .of hfa, hat, ?_⟩
      exact ⟨.ref pa, la, ks, ts, qi, v, _, rfl, dp0, hA, h3, h4, g2, hlen _ (List.mem_of_getElem? g1), by omega, by omega, fun H' p s h => q H' p s h⟩
theorem ok_lplr {f : Addr} {fd : FuncData} (F : Fun K "_law_plan_rows" "_law_plan_rows" s__law_plan_rows f fd) (M : Mg mg) (c__law_operation_rows : Cl P w K mg base 11 "_law_operation_rows" (sp_lops K)) (c__law_distinct : Cl P w K mg base 1 "_law_distinct" (sp_ldist K)) : FnOk P w K mg base CX0 12 f fd ["plan", "tables", "steps"] (sp_lplr K) := by
  refine F.ok sc__law_plan_rows (fun vs H Q E h => ?_) (fun cdv A outer s H vs Q E hr h => ?_)
  · obtain ⟨x, ta, sa, ops, T, S, tw, sw, ws, rfl, _⟩ := h
    rfl
  · obtain ⟨x, ta, sa, ops, T, S, tw, sw, ws, rfl, dp, hne, hl, hT, hS, okT, okS, hp0, q⟩ := h
    obtain ⟨pa, xs, rfl, hpa, dxs⟩ := dpl_get dp
    have lxs : xs.length = ops.length := by rw [DpAll.len dxs, List.length_map]
    refine ⟨_, (pss_cons (ps_set (i := 3) sc__law_plan_rows.nd rfl (.inl rfl) (pe_lst pa_nil))
      (pss_cons (ps_for PassesOwn.never rfl (pi_list (pv 0)) (pg_name (i := 4) sc__law_plan_rows.nd rfl (.inl rfl)) (pss_one (ps_expr (pe_bmK K PySem.F.plainAttrs_list PySem.F.slot_list_append PySem.F.type_list_append mt_append (pv 3) (pa_cons (pe_u c__law_distinct hr (by first | decide | omega) (by rfl) (pa_cons (pe_u c__law_operation_rows hr (by first | decide | omega) (by rfl) (pa_cons (pv 4) (pa_cons (pv 3) (pa_cons (pv 1) (pa_cons (pv 2) pa_nil))))) pa_nil)) pa_nil)))))
      (pss_one (ps_ret (pe_ix (ix_listK K) (pv 3) (pe_un un_neg pe_int) (fun _ _ => rfl)))))), ?_⟩
    refine ⟨Nat.zero_le _, fun D nD => ?_⟩
    refine ⟨_, rfl, pa, rfl, ⟨_, SqL.same (same_upd nD) hpa⟩, ?_⟩
    refine for_list (K := K) (a := pa) (xs := xs) (fun j σ Hj => Same H Hj ∧ (∃ as : List Addr, Hj D = some (.lst (as.map V.ref)) ∧ as.length = j ∧ (∀ a ∈ as, a ≠ D) ∧ ∀ (i : Nat) (a : Addr) (rs : List Row), as[i]? = some a → (lruns T S (ops.take j))[i]? = some rs → RL Hj a rs) ∧ ∃ z, σ = [some (.ref pa), some (.ref ta), some (.ref sa), some (.ref D), z]) ⟨same_upd nD, ⟨[], upd_same, rfl, (fun _ h => by cases h), fun i a rs h => by simp at h⟩, _, rfl⟩ (fun j σ Hj _ hp => SqL.same hp.1 hpa) (fun j y σ Hj hy hp => ?_) (fun σ Hn hp => ?_)
    · obtain ⟨sj, ⟨as, eD, las, has, hrl⟩, z, rfl⟩ := hp
      have hj : j < ops.length := by rw [← lxs]; exact (List.getElem?_eq_some_iff.mp hy).1
      have ho := List.getElem?_eq_getElem hj
      obtain ⟨y', hy', dy⟩ := DpAll.get dxs (show (ops.map Op.d)[j]? = some (ops[j]).d by rw [List.getElem?_map, ho]; rfl)
      obtain rfl : y = y' := Option.some.inj (hy.symm.trans hy')
      have hjw : j < ws.length := by rw [hp0.1]; exact hj
      have hwj := List.getElem?_eq_getElem hjw
      obtain ⟨k1, k2, k3⟩ := hp0.2.1 j _ _ ho hwj
      obtain ⟨f1, f2⟩ := lpl_at okT okS hp0 j (by omega)
      have lr : (lruns T S (ops.take j)).length = j := by rw [lruns_len, List.length_take]; omega
      have wsb : ∀ v ∈ ws.take j, v ≤ 1000 := fun v hv => by
        obtain ⟨i, hi⟩ := List.mem_iff_getElem?.mp (List.mem_of_mem_take hv)
        have hil := (List.getElem?_eq_some_iff.mp hi).1
        rw [hp0.1] at hil
        exact (hp0.2.1 i _ v (List.getElem?_eq_getElem hil) hi).2.2
      have hRo := opR_ok okT okS f1 (fun rs h => Nat.le_trans (f2 rs h).2 (by omega)) k1
      have lo := hp0.2.2 j _ ho
      refine ⟨_, rfl, .inl ⟨rfl, _, .of eD⟩, ?_⟩
      refine ⟨_, rfl, _, rfl, _, rfl, _, rfl, ?_⟩
      refine ⟨y, D, ta, sa, ops[j], T, S, lruns T S (ops.take j), tw, sw, ws.take j, ws[j], rfl, Dp.ext sj _ _ dy, ⟨as, eD, by rw [las, lr], hrl⟩, hT.same sj, hS.same sj, k1, okT, okS, f1, fun rs h => (f2 rs h).2, wsb, k3, fun H1 p1 s1 hR => ?_⟩
      obtain ⟨zs, hp1, hz, ezs⟩ := hR
      rw [← ezs, List.length_map] at lo
      refine ⟨p1, zs.map arG, rfl, by rw [List.map_map]; exact .of hp1, fun x hx => ?_, fun x hx => ?_, by rw [List.length_map]; exact lo, fun H' p s' np eL => ?_⟩
      · obtain ⟨y, hy, rfl⟩ := List.mem_map.mp hx
        exact dp_rowP (.of (hz y hy))
      · obtain ⟨y, hy, rfl⟩ := List.mem_map.mp hx
        exact rowP_lay (hRo y.2 (ezs ▸ List.mem_map.mpr ⟨y, hy, rfl⟩)).2
      rw [distP_rows, List.map_map] at eL
      have hR : RL H' p (distG (opR T S (lruns T S (ops.take j)) ops[j])) := ⟨distA zs, eL, fun m hm => s' _ _ (hz m ((distA_spec zs).2.1 m hm)), by rw [distA_rows, ezs]⟩
      have s2 := s1.trans s'
      have eD' := s2 _ _ eD
      have npD : p ≠ D := fun e => by rw [e, s1 _ _ eD] at np; cases np
      refine ⟨D, _, _, rfl, rfl, eD', by rw [List.length_map]; exact small1 (by omega), fun b o e => ?_, ⟨as ++ [p], ?_, by rw [List.length_append, las]; rfl, fun a ha => ?_, fun i a rs h1 h2 => ?_⟩, _, rfl⟩
      · rw [upd_ne (ne_of_none e nD)]
        exact s2 _ _ (sj _ _ e)
      · rw [upd_same, List.map_append]
        rfl
      · rcases List.mem_append.mp ha with ha | ha
        · exact has a ha
        · rw [List.mem_singleton.mp ha]
          exact npD
      · rw [lruns_take T S ho] at h2
        by_cases e : i < j
        · rw [List.getElem?_append_left (by omega)] at h1 h2
          exact ((hrl i a rs h1 h2).same s2).upd eD' (has a (List.mem_of_getElem? h1))
        · rw [List.getElem?_append_right (by omega)] at h1 h2
          have e2 : i - j = 0 := by
            have := (List.getElem?_eq_some_iff.mp h1).1
            rw [List.length_singleton, las] at this
            omega
          rw [las, e2] at h1
          rw [lr, e2] at h2
          obtain rfl := Option.some.inj h1
          obtain rfl := Option.some.inj h2
          exact hR.upd eD' npD
    · obtain ⟨sn, ⟨as, eD, las, has, hrl⟩, z, rfl⟩ := hp
      rw [lxs, List.take_of_length_le (Nat.le_refl _)] at hrl
      rw [lxs] at las
      have hpos : 0 < ops.length := List.length_pos_iff.mpr hne
      have hasne : as ≠ [] := fun e => by rw [e] at las; simp at las; omega
      obtain ⟨al, a, rfl⟩ : ∃ al a, as = al ++ [a] := ⟨as.dropLast, as.getLast hasne, (List.dropLast_concat_getLast hasne).symm⟩
      have hrne : lruns T S ops ≠ [] := fun e => by have := lruns_len T S ops; rw [e] at this; simp at this; omega
      obtain ⟨rl, r, er⟩ : ∃ rl r, lruns T S ops = rl ++ [r] := ⟨(lruns T S ops).dropLast, (lruns T S ops).getLast hrne, (List.dropLast_concat_getLast hrne).symm⟩
      have ll : al.length = rl.length := by
        have h1 := lruns_len T S ops
        rw [er, List.length_append] at h1
        rw [List.length_append] at las
        simp at h1 las
        omega
      have hr2 := hrl al.length a r (by rw [List.getElem?_append_right (Nat.le_refl _), Nat.sub_self]; rfl) (by rw [er, ll, List.getElem?_append_right (Nat.le_refl _), Nat.sub_self]; rfl)
      rw [List.map_append] at eD
      refine ⟨_, rfl, 1, rfl, D, _, _, _, rfl, rfl, .of eD, atI_last _ _, ?_⟩
      refine q Hn a sn ?_
      rw [er, List.getLastD_eq_getLast?, List.getLast?_concat]
      exact hr2
end

/-! ### the law's plans and the program's: the same rows; and how many there can be -/
theorem perm_nd {l m : List Row} (h1 : l.Nodup) (h2 : m.Nodup) (h : ∀ x, x ∈ l ↔ x ∈ m) : l.Perm m := (List.perm_ext_iff_of_nodup h1 h2).mpr h
theorem any_perm {l m : List Row} (h : l.Perm m) (f : Row → Bool) : l.any f = m.any f := by
  rw [Bool.eq_iff_iff, List.any_eq_true, List.any_eq_true]
  exact ⟨fun ⟨x, a, b⟩ => ⟨x, h.mem_iff.mp a, b⟩, fun ⟨x, a, b⟩ => ⟨x, h.mem_iff.mpr a, b⟩⟩
theorem keysR_perm {ks : List Ep} {l m : List Row} (h : l.Perm m) (k : Row) : k ∈ keysR ks l ↔ k ∈ keysR ks m := by
  unfold keysR
  split
  · exact Iff.rfl
  · rw [distG_mem, distG_mem]
    exact (h.map _).mem_iff
theorem opR_rel {T S T' S' F D : List (List Row)} (hT : ∀ i r, r ∈ T.getD i [] ↔ r ∈ T'.getD i []) (hS : ∀ i r, r ∈ S.getD i [] ↔ r ∈ S'.getD i []) (hF : ∀ i, (F.getD i []).Perm (D.getD i [])) (o : Op) : ∀ r, r ∈ opR T S F o ↔ r ∈ opR T' S' D o := by
  intro r
  cases o with
  | tab i => exact hT i r
  | stp i => exact hS i r
  | fil e q => exact ((hF q).filter _).mem_iff
  | map es q => exact ((hF q).map _).mem_iff
  | joi e q p =>
    show r ∈ List.flatMap _ _ ↔ r ∈ List.flatMap _ _
    rw [List.mem_flatMap, List.mem_flatMap]
    exact ⟨fun ⟨a, h1, h2⟩ => ⟨a, (hF q).mem_iff.mp h1, (((hF p).filter _).map _).mem_iff.mp h2⟩, fun ⟨a, h1, h2⟩ => ⟨a, (hF q).mem_iff.mpr h1, (((hF p).filter _).map _).mem_iff.mpr h2⟩⟩
  | uni q p => exact ((hF q).append (hF p)).mem_iff
  | min q p =>
    show r ∈ List.filter _ _ ↔ r ∈ List.filter _ _
    rw [List.mem_filter, List.mem_filter, (hF q).mem_iff]
    have e : decide (r ∈ F.getD p []) = decide (r ∈ D.getD p []) := decide_eq_decide.mpr (hF p).mem_iff
    rw [e]
  | ant e q p =>
    show r ∈ List.filter _ _ ↔ r ∈ List.filter _ _
    rw [List.mem_filter, List.mem_filter, (hF q).mem_iff, any_perm (hF p)]
  | grp ks ts q =>
    show r ∈ List.map _ _ ↔ r ∈ List.map _ _
    have e : (fun k : Row => k ++ ts.map fun t => t.ev ((F.getD q []).filter fun r => decide (keyR ks r = k))) = fun k => k ++ ts.map fun t => t.ev ((D.getD q []).filter fun r => decide (keyR ks r = k)) := funext fun k => congrArg (k ++ ·) (List.map_congr_left fun t _ => Fm.ev_perm ((hF q).filter _) t)
    rw [e, List.mem_map, List.mem_map]
    exact ⟨fun ⟨a, h1, h2⟩ => ⟨a, (keysR_perm (hF q) a).mp h1, h2⟩, fun ⟨a, h1, h2⟩ => ⟨a, (keysR_perm (hF q) a).mpr h1, h2⟩⟩
theorem getD_snoc {α : Type} {l : List (List α)} {x : List α} (i : Nat) : (l ++ [x]).getD i [] = if i < l.length then l.getD i [] else if i = l.length then x else [] := by
  rw [List.getD_eq_getElem?_getD]
  by_cases h : i < l.length
  · rw [if_pos h, List.getElem?_append_left h, List.getD_eq_getElem?_getD]
  · rw [if_neg h, List.getElem?_append_right (by omega)]
    by_cases e : i = l.length
    · rw [if_pos e, e, Nat.sub_self]
      rfl
    · rw [if_neg e]
      obtain ⟨k, hk⟩ : ∃ k, i - l.length = k + 1 := ⟨i - l.length - 1, by omega⟩
      rw [hk]
      rfl
theorem ord_nodup (l : List Row) : (ord l).Nodup := asc_nodup (ord_asc l)
theorem runs_rel {T S T' S' : List (List Row)} (hT : ∀ i r, r ∈ T.getD i [] ↔ r ∈ T'.getD i []) (hS : ∀ i r, r ∈ S.getD i [] ↔ r ∈ S'.getD i []) (ops : List Op) : ∀ j, j ≤ ops.length → ∀ i, ((runs T S (ops.take j)).getD i []).Perm ((lruns T' S' (ops.take j)).getD i [])
  | 0, _ => fun i => .refl _
  | j + 1, hj => fun i => by
    have ih := runs_rel hT hS ops j (by omega)
    have ho := List.getElem?_eq_getElem (show j < ops.length from hj)
    rw [runs_take T S ho, lruns_take T' S' ho, getD_snoc, getD_snoc, runs_len, lruns_len]
    split
    · exact ih i
    · split
      · refine perm_nd (ord_nodup _) (distG_nodup _) fun x => ?_
        rw [ord_mem, distG_mem]
        exact opR_rel hT hS ih _ x
      · exact .refl _
/-- the room of an operation, as the law counts it -/
def roomF (many : Nat) (a : Nat) (t : Fm) : Nat := a * (match t with
  | .ex .sum _ => 2 ^ Nat.min many 20
  | _ => 1 + many)
def roomR (rooms : List Nat) : Op → Nat
  | .tab _ => 6
  | .stp _ => 130
  | .uni q r => rooms.getD q 0 + rooms.getD r 0
  | .min q _ => rooms.getD q 0
  | .joi _ q r => rooms.getD q 0 * rooms.getD r 0
  | .fil _ q => rooms.getD q 0
  | .map _ q => rooms.getD q 0
  | .ant _ q _ => rooms.getD q 0
  | .grp _ ts q => ts.foldl (roomF (rooms.getD q 0)) (if ts = [] then 1 + 2 * rooms.getD q 0 else 2)
theorem roomF_ge (many a : Nat) (t : Fm) : a ≤ roomF many a t := by
  unfold roomF
  refine Nat.le_mul_of_pos_right _ ?_
  cases t with
  | cnt => show 0 < 1 + many; omega
  | ex o e => cases o <;> first | exact Nat.two_pow_pos _ | (show 0 < 1 + many; omega)
theorem roomF_fold (many : Nat) : ∀ (ts : List Fm) (a : Nat), a ≤ ts.foldl (roomF many) a
  | [], a => Nat.le_refl _
  | t :: ts, a => Nat.le_trans (roomF_ge many a t) (roomF_fold many ts _)
theorem grp_room {many : Nat} {ts : List Fm} (h : ts.foldl (roomF many) (if ts = [] then 1 + 2 * many else 2) ≤ 300) : max 1 many ≤ ts.foldl (roomF many) (if ts = [] then 1 + 2 * many else 2) := by
  cases ts with
  | nil =>
    show max 1 many ≤ 1 + 2 * many
    omega
  | cons t ts =>
    rw [if_neg (by simp)] at h ⊢
    have h1 := roomF_fold many ts (roomF many 2 t)
    have h : ts.foldl (roomF many) (roomF many 2 t) ≤ 300 := h
    show max 1 many ≤ ts.foldl (roomF many) (roomF many 2 t)
    refine Nat.le_trans ?_ h1
    have h2 : roomF many 2 t ≤ 300 := Nat.le_trans h1 h
    have hk : max 1 many ≤ 2 * (1 + many) := by omega
    have hs : 2 * 2 ^ Nat.min many 20 ≤ 300 → max 1 many ≤ 2 * 2 ^ Nat.min many 20 := fun h3 => by
      by_cases hm : many ≤ 20
      · have e : Nat.min many 20 = many := Nat.min_eq_left hm
        rw [e] at h3 ⊢
        have := @Nat.lt_two_pow_self many
        omega
      · have e : Nat.min many 20 = 20 := Nat.min_eq_right (by omega)
        rw [e] at h3
        omega
    cases t with
    | cnt => exact hk
    | ex o e =>
      cases o with
      | sum => exact hs h2
      | dis => exact hk
      | lea => exact hk
      | gre => exact hk
theorem flatM_len {α β : Type} {l : List α} {f : α → List β} {n : Nat} (h : ∀ x ∈ l, (f x).length ≤ n) : (l.flatMap f).length ≤ l.length * n := by
  induction l with
  | nil => exact Nat.zero_le _
  | cons x l ih =>
    rw [List.flatMap_cons, List.length_append, List.length_cons, Nat.succ_mul]
    have := h x List.mem_cons_self
    have := ih fun y hy => h y (List.mem_cons_of_mem _ hy)
    omega
theorem room_le {T S D : List (List Row)} {rooms : List Nat} (hT : ∀ i, (T.getD i []).length ≤ 6) (hS : ∀ i, (S.getD i []).length ≤ 130) (hD : ∀ i, (D.getD i []).length ≤ rooms.getD i 0) {o : Op} (h : roomR rooms o ≤ 300) : (opR T S D o).length ≤ roomR rooms o := by
  cases o with
  | tab i => exact hT i
  | stp i => exact hS i
  | fil e q => exact Nat.le_trans (List.length_filter_le _ _) (hD q)
  | map es q =>
    show (List.map _ _).length ≤ _
    rw [List.length_map]
    exact hD q
  | joi e q p =>
    show (List.flatMap _ _).length ≤ rooms.getD q 0 * rooms.getD p 0
    refine Nat.le_trans (flatM_len (n := rooms.getD p 0) fun x _ => ?_) (Nat.mul_le_mul_right _ (hD q))
    rw [List.length_map]
    exact Nat.le_trans (List.length_filter_le _ _) (hD p)
  | uni q p =>
    show (D.getD q [] ++ D.getD p []).length ≤ rooms.getD q 0 + rooms.getD p 0
    rw [List.length_append]
    exact Nat.add_le_add (hD q) (hD p)
  | min q p => exact Nat.le_trans (List.length_filter_le _ _) (hD q)
  | ant e q p => exact Nat.le_trans (List.length_filter_le _ _) (hD q)
  | grp ks ts q =>
    show (List.map _ _).length ≤ _
    rw [List.length_map]
    have h1 := keysR_len (ks := ks) (rs := D.getD q [])
    have h2 := grp_room (many := rooms.getD q 0) (ts := ts) h
    have h3 := hD q
    show _ ≤ ts.foldl (roomF (rooms.getD q 0)) (if ts = [] then 1 + 2 * rooms.getD q 0 else 2)
    omega
/-- rooms that the law has counted -/
def RmOk (ops : List Op) (rooms : List Nat) : Prop := rooms.length = ops.length ∧ ∀ (i : Nat) (o : Op), ops[i]? = some o → rooms[i]? = some (roomR (rooms.take i) o) ∧ roomR (rooms.take i) o ≤ 300
theorem getD_snocN (l : List Nat) (x i : Nat) : (l ++ [x]).getD i 0 = if i < l.length then l.getD i 0 else if i = l.length then x else 0 := by
  rw [List.getD_eq_getElem?_getD]
  by_cases h : i < l.length
  · rw [if_pos h, List.getElem?_append_left h, List.getD_eq_getElem?_getD]
  · rw [if_neg h, List.getElem?_append_right (by omega)]
    by_cases e : i = l.length
    · rw [if_pos e, e, Nat.sub_self]
      rfl
    · rw [if_neg e]
      obtain ⟨k, hk⟩ : ∃ k, i - l.length = k + 1 := ⟨i - l.length - 1, by omega⟩
      rw [hk]
      rfl
theorem rm_at {T S : List (List Row)} {ops : List Op} {rooms : List Nat} (hT : ∀ i, (T.getD i []).length ≤ 6) (hS : ∀ i, (S.getD i []).length ≤ 130) (h : RmOk ops rooms) : ∀ j, j ≤ ops.length → ∀ i, ((lruns T S (ops.take j)).getD i []).length ≤ (rooms.take j).getD i 0
  | 0, _ => fun i => Nat.zero_le _
  | j + 1, hj => fun i => by
    have ih := rm_at hT hS h j (by omega)
    have ho := List.getElem?_eq_getElem (show j < ops.length from hj)
    obtain ⟨h1, h2⟩ := h.2 j _ ho
    have hl : (rooms.take j).length = j := by rw [List.length_take, h.1]; omega
    have hl2 : (ops.take j).length = j := by rw [List.length_take]; omega
    rw [lruns_take T S ho, List.take_add_one, h1]
    show _ ≤ (rooms.take j ++ [roomR (rooms.take j) ops[j]]).getD i 0
    rw [getD_snoc, getD_snocN, lruns_len, hl, hl2]
    split
    · exact ih i
    · split
      · exact Nat.le_trans (distG_len _) (room_le hT hS ih h2)
      · exact Nat.le_refl _
theorem lpl_of {tw sw : List Nat} {T S : List (List Row)} {ops : List Op} {ws rooms : List Nat} (hT : ∀ i, (T.getD i []).length ≤ 6) (hS : ∀ i, (S.getD i []).length ≤ 130) (h : RmOk ops rooms) (hw : ws.length = ops.length) (ho : ∀ (i : Nat) (o : Op) (w : Nat), ops[i]? = some o → ws[i]? = some w → o.okW tw sw (ws.take i) w ∧ 1 ≤ w ∧ w ≤ 1000) : LPlOk tw sw T S ops ws :=
  ⟨hw, ho, fun i o e => Nat.le_trans (room_le hT hS (rm_at hT hS h i (Nat.le_of_lt (List.getElem?_eq_some_iff.mp e).1)) (h.2 i o e).2) (Nat.le_trans (h.2 i o e).2 (by omega))⟩
theorem pl_of {tw sw : List Nat} {T S T' S' : List (List Row)} {ops : List Op} {ws : List Nat} (hT : ∀ i r, r ∈ T.getD i [] ↔ r ∈ T'.getD i []) (hS : ∀ i r, r ∈ S.getD i [] ↔ r ∈ S'.getD i []) (okT : FsOk tw T') (okS : FsOk sw S') (h : LPlOk tw sw T' S' ops ws) : PlOk tw sw T S ops ws := by
  refine ⟨h.1, h.2.1, fun rs hrs => ?_⟩
  obtain ⟨i, hi⟩ := List.mem_iff_getElem?.mp hrs
  have hp := runs_rel hT hS ops ops.length (Nat.le_refl _) i
  rw [List.take_length] at hp
  have e1 : (runs T S ops).getD i [] = rs := by rw [List.getD_eq_getElem?_getD, hi]; rfl
  rw [e1] at hp
  rw [hp.length_eq]
  have hl := (lpl_at okT okS h ops.length (Nat.le_refl _)).2
  rw [List.take_length] at hl
  by_cases hx : i < (lruns T' S' ops).length
  · have e2 := List.getElem?_eq_getElem hx
    rw [List.getD_eq_getElem?_getD, e2]
    exact (hl _ (List.mem_of_getElem? e2)).2
  · rw [List.getD_eq_getElem?_getD, List.getElem?_eq_none (by omega)]
    exact Nat.zero_le _
/-- the last rows of both -/
theorem last_eq {T S T' S' : List (List Row)} (hT : ∀ i r, r ∈ T.getD i [] ↔ r ∈ T'.getD i []) (hS : ∀ i r, r ∈ S.getD i [] ↔ r ∈ S'.getD i []) {ops : List Op} (hne : ops ≠ []) : ord ((lruns T' S' ops).getLastD []) = (runs T S ops).getLastD [] := by
  obtain ⟨os, o, rfl⟩ : ∃ os o, ops = os ++ [o] := ⟨ops.dropLast, ops.getLast hne, (List.dropLast_concat_getLast hne).symm⟩
  rw [runs_snoc, lruns_snoc, List.getLastD_eq_getLast?, List.getLastD_eq_getLast?, List.getLast?_concat, List.getLast?_concat]
  show ord (distG _) = ord _
  refine (ord_of (ord_asc _) fun x => ?_).symm
  rw [ord_mem, distG_mem]
  have := runs_rel hT hS (os ++ [o]) os.length (by rw [List.length_append]; omega)
  rw [List.take_left] at this
  exact opR_rel hT hS this o x

/-! ### not, of a list as a value -/
theorem pe_notTK {X : Cx} (K : PySem.W.Frag) {a : Expr} {ta : TE} {pos : Pos} (ha : PE X a ta) (h : X.K = K := by rfl) : PE X (.UnaryOp .Not a pos) (tNotT K ta) := by subst h; exact pe_notT ha

/-! ### data in which lists stand, and what may change beside them -/
mutual
inductive DpL (L : Addr → Prop) (K : PySem.W.Frag) (H : Hp) : V → PyData → Prop
  | non : DpL L K H .non .none
  | bl (b : Bool) : DpL L K H (.bl b) (.bool b)
  | int (i : Int) : DpL L K H (.int i) (.int i)
  | str (x : Str) : DpL L K H (.str x) (.str x)
  | lst {a : Addr} {xs : List V} {ds : List PyData} : L a → H a = some (.lst xs) → DpLs L K H xs ds → DpL L K H (.ref a) (.list ds)
  | tup {a : Addr} {xs : List V} {ds : List PyData} : SqT K H a xs → DpLs L K H xs ds → DpL L K H (.ref a) (.tuple ds)
inductive DpLs (L : Addr → Prop) (K : PySem.W.Frag) (H : Hp) : List V → List PyData → Prop
  | nil : DpLs L K H [] []
  | cons {v : V} {vs : List V} {d : PyData} {ds : List PyData} : DpL L K H v d → DpLs L K H vs ds → DpLs L K H (v :: vs) (d :: ds)
end
def Chg (L : Addr → Prop) (H H' : Hp) : Prop := ∀ b o, H b = some o → (∃ xs, o = .lst xs ∧ ¬ L b) ∨ (∃ C dx fs, o = .ins C dx fs) ∨ H' b = some o
section
variable {L L' : Addr → Prop} {K : PySem.W.Frag} {H H' : Hp}
theorem Chg.of (h : Same H H') : Chg L H H' := fun b o e => .inr (.inr (h b o e))
theorem Chg.fd {p : Addr} (hp : ∃ C dx fs, H p = some (.ins C dx fs)) (h : Fd p H H') : Chg L H H' := fun b o e => by
  by_cases n : b = p
  · subst n
    obtain ⟨C, dx, fs, hz⟩ := hp
    rw [hz] at e
    cases e
    exact .inr (.inl ⟨_, _, _, rfl⟩)
  · exact .inr (.inr (h b o n e))
theorem Chg.at {D : Addr} {zs : List V} {o : HO} (hD : H D = some (.lst zs)) (n : ¬ L D) : Chg L H (upd H D o) := fun b x e => by
  by_cases nb : b = D
  · subst nb
    rw [hD] at e
    cases e
    exact .inl ⟨_, rfl, n⟩
  · exact .inr (.inr (by rw [upd_ne nb]; exact e))
theorem Chg.tup {a : Addr} {xs : List V} (c : Chg L H H') (h : SqT K H a xs) : SqT K H' a xs := by
  rcases h with (h | ⟨o, h⟩) | h
  · rcases c _ _ h with ⟨_, z, _⟩ | ⟨_, _, _, z⟩ | h
    · cases z
    · cases z
    · exact .inl (.inl h)
  · rcases c _ _ h with ⟨_, z, _⟩ | ⟨_, _, _, z⟩ | h
    · cases z
    · cases z
    · exact .inl (.inr ⟨o, h⟩)
  · exact .inr h
mutual
theorem DpL.chg (c : Chg L H H') : ∀ (d : PyData) (v : V), DpL L K H v d → DpL L K H' v d
  | .none, _, h => by cases h; exact .non
  | .bool b, _, h => by cases h; exact .bl b
  | .int i, _, h => by cases h; exact .int i
  | .str x, _, h => by cases h; exact .str x
  | .list ds, _, h => by
    cases h with
    | lst hl hs ha =>
      refine .lst hl ?_ (DpLs.chg c ds _ ha)
      rcases c _ _ hs with ⟨_, _, z⟩ | ⟨_, _, _, z⟩ | h
      · exact absurd hl z
      · cases z
      · exact h
  | .tuple ds, _, h => by
    cases h with
    | tup hs ha => exact .tup (c.tup hs) (DpLs.chg c ds _ ha)
  | .dict _, _, h => by cases h
theorem DpLs.chg (c : Chg L H H') : ∀ (ds : List PyData) (vs : List V), DpLs L K H vs ds → DpLs L K H' vs ds
  | [], _, h => by cases h; exact .nil
  | d :: ds, _, h => by
    cases h with
    | cons h1 h2 => exact .cons (DpL.chg c d _ h1) (DpLs.chg c ds _ h2)
end
mutual
/-- the same under another L, as far as lists stand -/
theorem DpL.wide (w : ∀ a xs, H a = some (.lst xs) → L a → L' a) : ∀ (d : PyData) (v : V), DpL L K H v d → DpL L' K H v d
  | .none, _, h => by cases h; exact .non
  | .bool b, _, h => by cases h; exact .bl b
  | .int i, _, h => by cases h; exact .int i
  | .str x, _, h => by cases h; exact .str x
  | .list ds, _, h => by
    cases h with
    | lst hl hs ha => exact .lst (w _ _ hs hl) hs (DpLs.wide w ds _ ha)
  | .tuple ds, _, h => by
    cases h with
    | tup hs ha => exact .tup hs (DpLs.wide w ds _ ha)
  | .dict _, _, h => by cases h
theorem DpLs.wide (w : ∀ a xs, H a = some (.lst xs) → L a → L' a) : ∀ (ds : List PyData) (vs : List V), DpLs L K H vs ds → DpLs L' K H vs ds
  | [], _, h => by cases h; exact .nil
  | d :: ds, _, h => by
    cases h with
    | cons h1 h2 => exact .cons (DpL.wide w d _ h1) (DpLs.wide w ds _ h2)
end
mutual
theorem DpL.dp : ∀ (d : PyData) (v : V), DpL L K H v d → Dp K H v d
  | .none, _, h => by cases h; exact .non
  | .bool b, _, h => by cases h; exact .bl b
  | .int i, _, h => by cases h; exact .int i
  | .str x, _, h => by cases h; exact .str x
  | .list ds, _, h => by
    cases h with
    | lst _ hs ha => exact .lst (.of hs) (DpLs.dp ds _ ha)
  | .tuple ds, _, h => by
    cases h with
    | tup hs ha => exact .tup hs (DpLs.dp ds _ ha)
  | .dict _, _, h => by cases h
theorem DpLs.dp : ∀ (ds : List PyData) (vs : List V), DpLs L K H vs ds → DpAll K H vs ds
  | [], _, h => by cases h; exact .nil
  | d :: ds, _, h => by
    cases h with
    | cons h1 h2 => exact .cons (DpL.dp d _ h1) (DpLs.dp ds _ h2)
end
mutual
theorem Dp.toL : ∀ (d : PyData) (v : V), tupOnly d = true → Dp K H v d → DpL L K H v d
  | .none, _, _, h => by cases h; exact .non
  | .bool b, _, _, h => by cases h; exact .bl b
  | .int i, _, _, h => by cases h; exact .int i
  | .str x, _, _, h => by cases h; exact .str x
  | .list ds, _, e, _ => by unfold tupOnly at e; cases e
  | .tuple ds, _, e, h => by
    unfold tupOnly at e
    cases h with
    | tup hs ha => exact .tup hs (DpAll.toL ds _ e ha)
  | .dict _, _, _, h => by cases h
theorem DpAll.toL : ∀ (ds : List PyData) (vs : List V), tupOnlys ds = true → DpAll K H vs ds → DpLs L K H vs ds
  | [], _, _, h => by cases h; exact .nil
  | d :: ds, _, e, h => by
    unfold tupOnlys at e
    rw [Bool.and_eq_true] at e
    cases h with
    | cons h1 h2 => exact .cons (Dp.toL d _ e.1 h1) (DpAll.toL ds _ e.2 h2)
end
theorem DpLs.snoc : ∀ {ds : List PyData} {xs : List V} {v : V} {d : PyData}, DpLs L K H xs ds → DpL L K H v d → DpLs L K H (xs ++ [v]) (ds ++ [d])
  | [], _, _, _, h, h2 => by cases h; exact .cons h2 .nil
  | _ :: ds, _, _, _, h, h2 => by
    cases h with
    | cons a b => exact .cons a (DpLs.snoc b h2)
theorem DpLs.len : ∀ {ds : List PyData} {vs : List V}, DpLs L K H vs ds → vs.length = ds.length
  | [], _, h => by cases h; rfl
  | d :: ds, _, h => by
    cases h with
    | cons h1 h2 => exact congrArg (· + 1) (DpLs.len h2)
end

/-! ### the law draws plans -/
def natL (l : List Nat) : List V := l.map fun n => V.int ((n : Nat) : Int)
def Op.opn : Op → List Nat
  | .tab _ => []
  | .stp _ => []
  | .fil _ q => [q]
  | .map _ q => [q]
  | .joi _ q r => [q, r]
  | .uni q r => [q, r]
  | .min q r => [q, r]
  | .ant _ q r => [q, r]
  | .grp _ _ q => [q]
def Op.sm : Op → Prop
  | .tab i => i ≤ 100
  | .stp i => i ≤ 100
  | .fil e q => e.ht ≤ 2 ∧ q ≤ 100
  | .map es q => (∀ e ∈ es, e.ht ≤ 2) ∧ es.length ≤ 2 ∧ q ≤ 100
  | .joi e q r => e.ht ≤ 2 ∧ q ≤ 100 ∧ r ≤ 100
  | .uni q r => q ≤ 100 ∧ r ≤ 100
  | .min q r => q ≤ 100 ∧ r ≤ 100
  | .ant e q r => e.ht ≤ 2 ∧ q ≤ 100 ∧ r ≤ 100
  | .grp ks ts q => (∀ e ∈ ks, e.ht ≤ 2) ∧ (∀ o e, Fm.ex o e ∈ ts → e.ht ≤ 2) ∧ ks.length ≤ 2 ∧ ts.length ≤ 2 ∧ q ≤ 100
def sp_lrows (K : PySem.W.Frag) : Sp := fun vs H Q _ => ∃ (d c : Addr) (wd : Nat), vs = [.ref d, .int (wd : Nat), .int 5] ∧ wd ≤ 100 ∧ Dr H d c ∧ ∀ (H' : Hp) (p : Addr) (rs : List Row), Fd d H H' → Dr H' d c → p ≠ d → H p = none → RL H' p rs → (∀ r ∈ rs, r.length = wd ∧ ∀ v ∈ r, v.sm) → rs.length ≤ 5 → Q (.ref p) H'
def sp_lform (K : PySem.W.Frag) : Sp := fun vs H Q _ => ∃ (d c : Addr) (wd : Nat), vs = [.ref d, .int (wd : Nat)] ∧ wd ≤ 100 ∧ Dr H d c ∧ ∀ (H' : Hp) (p : V) (t : Fm), Fd d H H' → Dr H' d c → t.ok wd → (∀ o e, t = .ex o e → e.ht ≤ 2) → Dp K H' p t.d → Q p H'
def sp_lop (K : PySem.W.Frag) : Sp := fun vs H Q _ => ∃ (d c sz wa sa : Addr) (zs ws ss : List Nat), vs = [.ref d, .ref sz, .ref wa, .ref sa] ∧ Dr H d c ∧ sz ≠ d ∧ wa ≠ d ∧ sa ≠ d ∧ H sz = some (.lst (natL zs)) ∧ H wa = some (.lst (natL ws)) ∧ H sa = some (.lst (natL ss)) ∧ (∀ v ∈ zs, 1 ≤ v ∧ v ≤ 4) ∧ (∀ v ∈ ws, 1 ≤ v ∧ v ≤ 4) ∧ (∀ v ∈ ss, 1 ≤ v ∧ v ≤ 4) ∧ ws ≠ [] ∧ zs.length ≤ 100 ∧ ws.length ≤ 100 ∧ ss.length ≤ 100 ∧
  ∀ (H' : Hp) (p : Addr) (x : V) (o : Op) (w : Nat), Fd d H H' → Dr H' d c → H' p = some (.tup [x, .int (w : Nat)]) → DpL (fun a => a ≠ d ∧ H a = none) K H' x o.d → o.okW ws ss zs w → 1 ≤ w → w ≤ 4 → o.sm → Q (.ref p) H'
def sp_lroom (K : PySem.W.Frag) : Sp := fun vs H Q _ => ∃ (x : V) (ra : Addr) (o : Op) (rs : List Nat), vs = [x, .ref ra] ∧ Dp K H x o.d ∧ H ra = some (.lst (natL rs)) ∧ (∀ r ∈ rs, r ≤ 300) ∧ (∀ i ∈ o.opn, i < rs.length) ∧ o.sm ∧ ∀ H', Same H H' → Q (.int ((roomR rs o : Nat) : Int)) H'
theorem fd_none {d : Addr} {H H' : Hp} (f : Fd d H H') {b : Addr} (n : b ≠ d) (h : H' b = none) : H b = none := by
  cases e : H b with
  | none => rfl
  | some o =>
    rw [f _ _ n e] at h
    cases h
theorem tOr_of {t1 t2 : TT} {σ : L2.St} {H : Hp} {Q : Bool → Hp → Prop} (a b : Bool) (h1 : ∀ Q' : Bool → Hp → Prop, Q' a H → t1 σ H Q') (h2 : ∀ Q' : Bool → Hp → Prop, Q' b H → t2 σ H Q') (q : Q (a || b) H) : tOr t1 t2 σ H Q := by
  refine h1 _ ?_
  cases a with
  | true => exact q
  | false => exact h2 _ q
theorem tAnd_of {t1 t2 : TT} {σ : L2.St} {H : Hp} {Q : Bool → Hp → Prop} (a b : Bool) (h1 : ∀ Q' : Bool → Hp → Prop, Q' a H → t1 σ H Q') (h2 : ∀ Q' : Bool → Hp → Prop, Q' b H → t2 σ H Q') (q : Q (a && b) H) : tAnd t1 t2 σ H Q := by
  refine h1 _ ?_
  cases a with
  | true => exact h2 _ q
  | false => exact q
theorem fm_only (t : Fm) : tupOnly t.d = true := by
  cases t with
  | cnt => rfl
  | ex o e =>
    show (true && (tupOnly e.d && true)) = true
    rw [ep_only e]
    rfl
theorem Chg.fdl {L : Addr → Prop} {H H' : Hp} {d : Addr} (hd : ∃ zs, H d = some (.lst zs)) (n : ¬ L d) (f : Fd d H H') : Chg L H H' := fun b o e => by
  by_cases g : b = d
  · subst g
    obtain ⟨zs, hz⟩ := hd
    rw [hz] at e
    cases e
    exact .inl ⟨_, rfl, n⟩
  · exact .inr (.inr (f _ _ g e))
theorem natL_at {l : List Nat} {i : Nat} (h : i < l.length) : atI (natL l) ((i : Nat) : Int) = some (.int ((l[i] : Nat) : Int)) := atI_nat (by unfold natL; rw [List.getElem?_map, List.getElem?_eq_getElem h]; rfl)
theorem natL_len (l : List Nat) : (natL l).length = l.length := List.length_map _
section
variable {P : Program} {w : World} {K : PySem.W.Frag} {mg : Str → Option Value} {base : Heap}
theorem ok_lrows {f : Addr} {fd : FuncData} (F : Fun K "_law_rows" "_law_rows" s__law_rows f fd) (M : Mg mg) (c__law_next : Cl P w K mg base 1 "_law_next" sp_next) (c__law_cell : Cl P w K mg base 2 "_law_cell" sp_cell) : FnOk P w K mg base CX0 3 f fd ["draw", "width", "most"] (sp_lrows K) := by
  refine F.ok sc__law_rows (fun vs H Q E h => ?_) (fun cdv A outer s H vs Q E hr h => ?_)
  · obtain ⟨d, c, wd, rfl, _⟩ := h
    rfl
  · obtain ⟨d, c, wd, rfl, hwd, dr, q⟩ := h
    refine ⟨_, (pss_one (ps_ret (pe_lc (own := [("k", 3)]) (g := gName 3) (tt := tYes) rfl sc__law_rows.nd (pi_range1 (by rfl) M.range (pa_cons (pe_u c__law_next hr (by first | decide | omega) (by rfl) (pa_cons (pv 0) (pa_cons (pe_op op_add (pv 2) pe_int) pa_nil))) pa_nil)) (blkOk_by (N := N__law_rows) (sc := defScope s__law_rows) (by decide +kernel)) (fun _ _ _ _ _ => (pg_name (i := 3) sc__law_rows.nd rfl (.inl rfl))) (fun _ _ _ _ _ => pts_nil) (fun _ _ _ _ _ => (pe_callTy (tupleK K) (by rfl) M.tuple (by decide +kernel) (pa_cons (pe_lc (own := [("j", 4)]) (g := gName 4) (tt := tYes) rfl sc__law_rows.nd (pi_range1 (by rfl) M.range (pa_cons (pv 1) pa_nil)) (blkOk_by (N := N__law_rows) (sc := relS { kind := PySem.ScopeKind.function, names := [ (PySem.Str.ofString ".0", PySem.NameKind.local), (PySem.Str.ofString "k", PySem.NameKind.local), (PySem.Str.ofString "tuple", PySem.NameKind.globalImplicit), (PySem.Str.ofString "range", PySem.NameKind.globalImplicit), (PySem.Str.ofString "draw", PySem.NameKind.free), (PySem.Str.ofString "width", PySem.NameKind.free)], isGenerator := false, isCoroutine := false, more := [] : PySem.Scope } (defScope s__law_rows)) (by decide +kernel)) (fun _ _ _ _ _ => (pg_name (i := 4) sc__law_rows.nd rfl (.inl rfl))) (fun _ _ _ _ _ => pts_nil) (fun _ _ _ _ _ => (pe_u c__law_cell hr (by first | decide | omega) (by rfl) (pa_cons (pv 0) pa_nil)))) pa_nil)))))), ?_⟩
    refine ⟨_, rfl, _, rfl, _, _, rfl, rfl, d, c, 6, rfl, dr, by decide, by decide, fun H1 n f1 _ dr1 n0 n1 => ?_⟩
    obtain ⟨m, rfl⟩ := Int.eq_ofNat_of_zero_le n0
    refine ⟨_, rfl, by omega, by omega, fun D nD => ?_⟩
    have nDd := dr1.nd nD
    have nDc := dr1.nc nD
    have nD0 : H D = none := fd_none f1 nDd nD
    refine lc_range (lo := 0) (n := ((m : Nat) : Int).toNat) (fun j Hj => Fd d H Hj ∧ Dr Hj d c ∧ ∃ ms : List AR, Hj D = some (.lst (ms.map fun x => V.ref x.1)) ∧ (∀ x ∈ ms, Hj x.1 = some (.tup (x.2.map Vl.v))) ∧ (∀ x ∈ ms, x.2.length = wd ∧ ∀ v ∈ x.2, v.sm) ∧ ms.length = j) ⟨f1.trans (.new nD), dr1.ext (same_upd nD), [], upd_same, (fun _ h => by cases h), (fun _ h => by cases h), rfl⟩ (fun j Hj hj hp => ?_) (fun H3 hp => ?_)
    · obtain ⟨fj, drj, ms, eD, hms, okm, lms⟩ := hp
      refine ⟨rfl, ?_⟩
      refine ⟨_, rfl, _, rfl, by omega, by omega, fun D2 nD2 => ?_⟩
      have nD2d := drj.nd nD2
      have nD2c := drj.nc nD2
      refine lc_range (lo := 0) (n := ((wd : Nat) : Int).toNat) (fun k Hk => Fd d Hj Hk ∧ Dr Hk d c ∧ ∃ us : List Vl, us.length = k ∧ (∀ u ∈ us, u.sm) ∧ Hk D2 = some (.lst (us.map Vl.v))) ⟨.new nD2, drj.ext (same_upd nD2), [], rfl, (fun _ h => by cases h), upd_same⟩ (fun k Hk hk hp => ?_) (fun H4 hp => ?_)
      · obtain ⟨fk, drk, us, hl, ho, ev⟩ := hp
        refine ⟨rfl, ?_⟩
        refine ⟨_, rfl, d, c, rfl, drk, fun H' v f' dr' hv => ?_⟩
        refine ⟨_, f' _ _ nD2d ev, ?_, fun b o n e => ?_, dr'.upd nD2d nD2c, us ++ [v], ?_, ?_, ?_⟩
        · rw [List.length_map, hl]
          exact small1 (by omega)
        · rw [upd_ne (ne_of_none e nD2)]
          exact f' _ _ n (fk _ _ n e)
        · rw [List.length_append, hl]
          rfl
        · intro y hy
          rcases List.mem_append.mp hy with hy | hy
          · exact ho y hy
          · rw [List.mem_singleton.mp hy]
            exact hv
        · rw [upd_same, List.map_append]
          rfl
      · obtain ⟨f4, dr4, us, hl, ho, ev⟩ := hp
        have hl : us.length = wd := hl
        refine ⟨D2, _, rfl, .inl ⟨.of ev, fun T nT => ?_⟩⟩
        have sT := same_upd nT (o := .tup (us.map Vl.v))
        have eD' := sT _ _ (f4 _ _ nDd eD)
        have drT := dr4.ext sT
        refine ⟨_, eD', by rw [List.length_map, lms]; exact small1 (by omega), fun b o n e => ?_, drT.upd nDd nDc, ms ++ [(T, us)], ?_, fun x hx => ?_, fun x hx => ?_, by rw [List.length_append, lms]; rfl⟩
        · rw [upd_ne (ne_of_none e nD0)]
          exact sT _ _ (f4 _ _ n (fj _ _ n e))
        · rw [upd_same, List.map_append]
          rfl
        · refine Tk.upd (fun ys z => by rw [eD'] at z; cases z) _ _ ?_
          rcases List.mem_append.mp hx with hx | hx
          · exact sT _ _ (Tk.fd drj f4 _ _ (hms x hx))
          · rw [List.mem_singleton.mp hx]
            exact upd_same
        · rcases List.mem_append.mp hx with hx | hx
          · exact okm x hx
          · rw [List.mem_singleton.mp hx]
            exact ⟨hl, ho⟩
    · obtain ⟨f3, dr3, ms, eD, hms, okm, lms⟩ := hp
      refine q H3 D (ms.map Prod.snd) f3 dr3 nDd nD0 ⟨ms, eD, hms, rfl⟩ (fun r hr => ?_) (by rw [List.length_map]; omega)
      obtain ⟨x, hx, rfl⟩ := List.mem_map.mp hr
      exact okm x hx
theorem ok_lform {f : Addr} {fd : FuncData} (F : Fun K "_law_form" "_law_form" s__law_form f fd) (M : Mg mg) (c__law_next : Cl P w K mg base 1 "_law_next" sp_next) (c__law_expression : Cl P w K mg base 7 "_law_expression" (sp_lexp K 5)) : FnOk P w K mg base CX0 8 f fd ["draw", "width"] (sp_lform K) := by
  refine F.ok sc__law_form (fun vs H Q E h => ?_) (fun cdv A outer s H vs Q E hr h => ?_)
  · obtain ⟨d, c, wd, rfl, _⟩ := h
    rfl
  · obtain ⟨d, c, wd, rfl, hwd, dr, q⟩ := h
    refine ⟨_, (pss_cons (ps_set (i := 2) sc__law_form.nd rfl (.inl rfl) (pe_ix (ix_listK K) (pe_lst (pa_cons pe_str (pa_cons pe_str (pa_cons pe_str (pa_cons pe_str (pa_cons pe_str (pa_cons pe_str pa_nil))))))) (pe_u c__law_next hr (by first | decide | omega) (by rfl) (pa_cons (pv 0) (pa_cons pe_int pa_nil))) (fun _ _ => rfl)))
      (pss_one (ps_ret (pe_ifExp (pt_cmpR op_eq (pv 2) pe_str (nomark _)) (pe_tup (pa_cons pe_str pa_nil)) (pe_tup (pa_cons (pv 2) (pa_cons (pe_u c__law_expression hr (by first | decide | omega) (by rfl) (pa_cons (pv 0) (pa_cons (pv 1) (pa_cons pe_int pa_nil)))) pa_nil))))))), ?_⟩
    refine ⟨(by show 6 ≤ sizeLine; decide), fun L nL => ?_⟩
    have nLd := dr.nd nL
    have sL := same_upd nL (o := .lst [V.str "count", .str "distinct", .str "sum", .str "sum", .str "least", .str "greatest"])
    have eL : upd H L (.lst [V.str "count", .str "distinct", .str "sum", .str "sum", .str "least", .str "greatest"]) L = some (.lst [V.str "count", .str "distinct", .str "sum", .str "sum", .str "least", .str "greatest"]) := upd_same
    have dr1 := dr.ext sL
    refine ⟨_, rfl, d, c, 6, rfl, dr1, by decide, by decide, fun H2 n f2 _ dr2 n0 n1 => ?_⟩
    obtain ⟨m, rfl⟩ := Int.eq_ofNat_of_zero_le n0
    have eL2 := f2 _ _ nLd eL
    have f02 : Fd d H H2 := (Fd.of sL).trans f2
    have hm : m = 0 ∨ ∃ o : Fw, atI [V.str "count", .str "distinct", .str "sum", .str "sum", .str "least", .str "greatest"] ((m : Nat) : Int) = some (.str (Str.ofString o.s)) ∧ (Str.ofString o.s == Str.ofString "count") = false := by
      rcases (show m = 0 ∨ m = 1 ∨ m = 2 ∨ m = 3 ∨ m = 4 ∨ m = 5 by omega) with rfl | rfl | rfl | rfl | rfl | rfl
      · exact .inl rfl
      · exact .inr ⟨.dis, rfl, by decide +kernel⟩
      · exact .inr ⟨.sum, rfl, by decide +kernel⟩
      · exact .inr ⟨.sum, rfl, by decide +kernel⟩
      · exact .inr ⟨.lea, rfl, by decide +kernel⟩
      · exact .inr ⟨.gre, rfl, by decide +kernel⟩
    rcases hm with rfl | ⟨o, ha, hne⟩
    · refine ⟨L, _, _, .str (Str.ofString "count"), rfl, rfl, .of eL2, rfl, ?_⟩
      refine ⟨_, rfl, rfl, _, rfl, ?_⟩
      rw [weq]
      refine iteT ⟨(by show 1 ≤ sizeLine; decide), fun T nT => ?_⟩
      exact q _ (.ref T) .cnt (f02.trans (.new nT)) (dr2.ext (same_upd nT)) trivial (fun _ _ h => by cases h) (.tup (.inl (.inl upd_same)) (.cons (.str _) .nil))
    · refine ⟨L, _, _, _, rfl, rfl, .of eL2, ha, ?_⟩
      refine ⟨_, rfl, rfl, _, rfl, ?_⟩
      rw [wne _ _ hne]
      refine iteF ⟨_, rfl, _, rfl, _, rfl, d, c, wd, 1, rfl, by omega, hwd, dr2, fun H3 p e f3 dr3 eok eht dp => ?_⟩
      refine ⟨(by show 2 ≤ sizeLine; decide), fun T nT => ?_⟩
      exact q _ (.ref T) (.ex o e) (f02.trans (f3.trans (.new nT))) (dr3.ext (same_upd nT)) ⟨eok, by omega⟩ (fun o' e' h => by cases h; omega) (.tup (.inl (.inl upd_same)) (.cons (.str _) (.cons (Dp.ext (same_upd nT) _ _ dp) .nil)))
set_option maxHeartbeats 8000000 in
theorem ok_lop {f : Addr} {fd : FuncData} (F : Fun K "_law_operation" "_law_operation" s__law_operation f fd) (M : Mg mg) (c__law_next : Cl P w K mg base 1 "_law_next" sp_next) (c__law_expression : Cl P w K mg base 7 "_law_expression" (sp_lexp K 5)) (c__law_form : Cl P w K mg base 8 "_law_form" (sp_lform K)) : FnOk P w K mg base CX0 9 f fd ["draw", "sizes", "widths", "steps"] (sp_lop K) := by
  refine F.ok sc__law_operation (fun vs H Q E h => ?_) (fun cdv A outer s H vs Q E hr h => ?_)
  · obtain ⟨d, c, sz, wa, sa, zs, ws, ss, rfl, _⟩ := h
    rfl
  · obtain ⟨d, c, sz, wa, sa, zs, ws, ss, rfl, dr, nsz, nwa, nsa, hsz, hwa, hsa, okz, okw, oks, wne', lz, lw, ls, q⟩ := h
    refine ⟨_, (pss_cons (ps_set (i := 4) sc__law_operation.nd rfl (.inl rfl) (pe_u c__law_next hr (by first | decide | omega) (by rfl) (pa_cons (pv 0) (pa_cons pe_int pa_nil))))
      (pss_cons (ps_set (i := 5) sc__law_operation.nd rfl (.inl rfl) (pe_callB (len_seqK K) (by rfl) M.len PySem.boot_len (pa_cons (pv 1) pa_nil)))
      (pss_cons (ps_if (PW.pt (pw_or (pt_cmpR op_eq (pv 5) pe_int (nomark _)) (pw_or1 (pt_cmpR op_lt (pv 4) pe_int (nomark _))))) (pss_cons (ps_if (PW.pt (pw_and (pt_truthK K (pv 3) (by intro _; rfl)) (pw_and1 (pt_truthK K (pe_u c__law_next hr (by first | decide | omega) (by rfl) (pa_cons (pv 0) (pa_cons pe_int pa_nil))) (by intro _; rfl))))) (pss_cons (ps_set (i := 6) sc__law_operation.nd rfl (.inl rfl) (pe_u c__law_next hr (by first | decide | omega) (by rfl) (pa_cons (pv 0) (pa_cons (pe_callB (len_seqK K) (by rfl) M.len PySem.boot_len (pa_cons (pv 3) pa_nil)) pa_nil))))
      (pss_one (ps_ret (pe_tup (pa_cons (pe_tup (pa_cons pe_str (pa_cons (pv 6) pa_nil))) (pa_cons (pe_ix (ix_listK K) (pv 3) (pv 6) (fun _ _ => rfl)) pa_nil)))))) pss_nil)
      (pss_cons (ps_set (i := 6) sc__law_operation.nd rfl (.inl rfl) (pe_u c__law_next hr (by first | decide | omega) (by rfl) (pa_cons (pv 0) (pa_cons (pe_callB (len_seqK K) (by rfl) M.len PySem.boot_len (pa_cons (pv 2) pa_nil)) pa_nil))))
      (pss_one (ps_ret (pe_tup (pa_cons (pe_tup (pa_cons pe_str (pa_cons (pv 6) pa_nil))) (pa_cons (pe_ix (ix_listK K) (pv 2) (pv 6) (fun _ _ => rfl)) pa_nil))))))) pss_nil)
      (pss_cons (ps_set (i := 7) sc__law_operation.nd rfl (.inr rfl) (pe_op op_sub (pe_op op_sub (pv 5) pe_int) (pe_u c__law_next hr (by first | decide | omega) (by rfl) (pa_cons (pv 0) (pa_cons (pe_callB (call_min2 rfl) (by rfl) M.min (by decide +kernel) (pa_cons (pv 5) (pa_cons pe_int pa_nil))) pa_nil)))))
      (pss_cons (ps_set (i := 8) sc__law_operation.nd rfl (.inl rfl) (pe_op op_sub (pe_op op_sub (pv 5) pe_int) (pe_u c__law_next hr (by first | decide | omega) (by rfl) (pa_cons (pv 0) (pa_cons (pe_callB (call_min2 rfl) (by rfl) M.min (by decide +kernel) (pa_cons (pv 5) (pa_cons pe_int pa_nil))) pa_nil)))))
      (pss_cons (ps_if (pt_cmpR op_lt (pv 4) pe_int (nomark _)) (pss_one (ps_ret (pe_tup (pa_cons (pe_tup (pa_cons pe_str (pa_cons (pe_u c__law_expression hr (by first | decide | omega) (by rfl) (pa_cons (pv 0) (pa_cons (pe_ix (ix_listK K) (pv 1) (pv 7) (fun _ _ => rfl)) (pa_cons pe_int pa_nil)))) (pa_cons (pv 7) pa_nil)))) (pa_cons (pe_ix (ix_listK K) (pv 1) (pv 7) (fun _ _ => rfl)) pa_nil))))) pss_nil)
      (pss_cons (ps_if (pt_cmpR op_eq (pv 4) pe_int (nomark _)) (pss_cons (ps_setLc (i := 9) (own := [("k", 14)]) (g := gName 14) (tt := tYes) rfl sc__law_operation.nd rfl rfl (sw_true rfl rfl rfl (by decide +kernel)) (pi_range1 (by rfl) M.range (pa_cons (pe_op op_add pe_int (pe_u c__law_next hr (by first | decide | omega) (by rfl) (pa_cons (pv 0) (pa_cons pe_int pa_nil)))) pa_nil)) (blkOk_by (N := N__law_operation) (sc := defScope s__law_operation) (by decide +kernel)) (fun _ _ _ _ _ => (pg_name (i := 14) sc__law_operation.nd rfl (.inl rfl))) (fun _ _ _ _ _ => pts_nil) (fun _ _ _ _ _ => (pe_u c__law_expression hr (by first | decide | omega) (by rfl) (pa_cons (pv 0) (pa_cons (pe_ix (ix_listK K) (pv 1) (pv 7) (fun _ _ => rfl)) (pa_cons pe_int pa_nil))))))
      (pss_one (ps_ret (pe_tup (pa_cons (pe_tup (pa_cons pe_str (pa_cons (pv 9) (pa_cons (pv 7) pa_nil)))) (pa_cons (pe_callB (len_seqK K) (by rfl) M.len PySem.boot_len (pa_cons (pv 9) pa_nil)) pa_nil)))))) pss_nil)
      (pss_cons (ps_if (pt_cmpR op_eq (pv 4) pe_int (nomark _)) (pss_cons (ps_setLc (i := 10) (own := [("k", 14)]) (g := gName 14) (tt := tYes) rfl sc__law_operation.nd rfl rfl (sw_true rfl rfl rfl (by decide +kernel)) (pi_range1 (by rfl) M.range (pa_cons (pe_u c__law_next hr (by first | decide | omega) (by rfl) (pa_cons (pv 0) (pa_cons pe_int pa_nil))) pa_nil)) (blkOk_by (N := N__law_operation) (sc := defScope s__law_operation) (by decide +kernel)) (fun _ _ _ _ _ => (pg_name (i := 14) sc__law_operation.nd rfl (.inl rfl))) (fun _ _ _ _ _ => pts_nil) (fun _ _ _ _ _ => (pe_u c__law_expression hr (by first | decide | omega) (by rfl) (pa_cons (pv 0) (pa_cons (pe_ix (ix_listK K) (pv 1) (pv 7) (fun _ _ => rfl)) (pa_cons pe_int pa_nil))))))
      (pss_cons (ps_setLc (i := 11) (own := [("k", 14)]) (g := gName 14) (tt := tYes) rfl sc__law_operation.nd rfl rfl (sw_true rfl rfl rfl (by decide +kernel)) (pi_range1 (by rfl) M.range (pa_cons (pe_op op_add (pe_u c__law_next hr (by first | decide | omega) (by rfl) (pa_cons (pv 0) (pa_cons pe_int pa_nil))) (pe_callTy call_int1 (by rfl) M.int (by decide +kernel) (pa_cons (pe_notTK K (pv 10)) pa_nil))) pa_nil)) (blkOk_by (N := N__law_operation) (sc := defScope s__law_operation) (by decide +kernel)) (fun _ _ _ _ _ => (pg_name (i := 14) sc__law_operation.nd rfl (.inl rfl))) (fun _ _ _ _ _ => pts_nil) (fun _ _ _ _ _ => (pe_u c__law_form hr (by first | decide | omega) (by rfl) (pa_cons (pv 0) (pa_cons (pe_ix (ix_listK K) (pv 1) (pv 7) (fun _ _ => rfl)) pa_nil)))))
      (pss_one (ps_ret (pe_tup (pa_cons (pe_tup (pa_cons pe_str (pa_cons (pv 10) (pa_cons (pv 11) (pa_cons (pv 7) pa_nil))))) (pa_cons (pe_op op_add (pe_callB (len_seqK K) (by rfl) M.len PySem.boot_len (pa_cons (pv 10) pa_nil)) (pe_callB (len_seqK K) (by rfl) M.len PySem.boot_len (pa_cons (pv 11) pa_nil))) pa_nil))))))) pss_nil)
      (pss_cons (ps_if (PW.pt (pw_and (pt_cmpR op_lt (pv 4) pe_int (nomark _)) (pw_and1 (pt_cmpR op_lt (pe_op op_add (pe_ix (ix_listK K) (pv 1) (pv 7) (fun _ _ => rfl)) (pe_ix (ix_listK K) (pv 1) (pv 8) (fun _ _ => rfl))) pe_int (nomark _))))) (pss_one (ps_ret (pe_tup (pa_cons (pe_tup (pa_cons pe_str (pa_cons (pe_u c__law_expression hr (by first | decide | omega) (by rfl) (pa_cons (pv 0) (pa_cons (pe_op op_add (pe_ix (ix_listK K) (pv 1) (pv 7) (fun _ _ => rfl)) (pe_ix (ix_listK K) (pv 1) (pv 8) (fun _ _ => rfl))) (pa_cons pe_int pa_nil)))) (pa_cons (pv 7) (pa_cons (pv 8) pa_nil))))) (pa_cons (pe_op op_add (pe_ix (ix_listK K) (pv 1) (pv 7) (fun _ _ => rfl)) (pe_ix (ix_listK K) (pv 1) (pv 8) (fun _ _ => rfl))) pa_nil))))) pss_nil)
      (pss_cons (ps_if (pt_cmpR op_eq (pv 4) pe_int (nomark _)) (pss_one (ps_ret (pe_tup (pa_cons (pe_tup (pa_cons pe_str (pa_cons (pe_u c__law_expression hr (by first | decide | omega) (by rfl) (pa_cons (pv 0) (pa_cons (pe_op op_add (pe_ix (ix_listK K) (pv 1) (pv 7) (fun _ _ => rfl)) (pe_ix (ix_listK K) (pv 1) (pv 8) (fun _ _ => rfl))) (pa_cons pe_int pa_nil)))) (pa_cons (pv 7) (pa_cons (pv 8) pa_nil))))) (pa_cons (pe_ix (ix_listK K) (pv 1) (pv 7) (fun _ _ => rfl)) pa_nil))))) pss_nil)
      (pss_cons (ps_setLc (i := 12) (own := [("k", 14)]) (g := gName 14) rfl sc__law_operation.nd rfl rfl (sw_true rfl rfl rfl (by decide +kernel)) (pi_range1 (by rfl) M.range (pa_cons (pv 5) pa_nil)) (blkOk_by (N := N__law_operation) (sc := defScope s__law_operation) (by decide +kernel)) (fun _ _ _ _ _ => (pg_name (i := 14) sc__law_operation.nd rfl (.inl rfl))) (fun _ _ _ _ _ => (pts_one (pt_cmpR op_eq (pe_ix (ix_listK K) (pv 1) (pv 14) (fun _ _ => rfl)) (pe_ix (ix_listK K) (pv 1) (pv 7) (fun _ _ => rfl)) (nomark _)))) (fun _ _ _ _ _ => (pv 14)))
      (pss_cons (ps_set (i := 13) sc__law_operation.nd rfl (.inl rfl) (pe_ix (ix_listK K) (pe_lst (pa_cons pe_str (pa_cons pe_str pa_nil))) (pe_u c__law_next hr (by first | decide | omega) (by rfl) (pa_cons (pv 0) (pa_cons pe_int pa_nil))) (fun _ _ => rfl)))
      (pss_one (ps_ret (pe_tup (pa_cons (pe_tup (pa_cons (pv 13) (pa_cons (pv 7) (pa_cons (pe_ix (ix_listK K) (pv 12) (pe_u c__law_next hr (by first | decide | omega) (by rfl) (pa_cons (pv 0) (pa_cons (pe_callB (len_seqK K) (by rfl) M.len PySem.boot_len (pa_cons (pv 12) pa_nil)) pa_nil))) (fun _ _ => rfl)) pa_nil)))) (pa_cons (pe_ix (ix_listK K) (pv 1) (pv 7) (fun _ _ => rfl)) pa_nil))))))))))))))))), ?_⟩
    have fin : ∀ (Hx : Hp) (xs : List V) (T T2 : Addr) (o : Op) (w : Nat), Fd d H Hx → Dr Hx d c → Hx T = none → (upd Hx T (.tup xs)) T2 = none → DpLs (fun a => a ≠ d ∧ H a = none) K Hx xs (.str (Str.ofString o.wd) :: o.as) → o.okW ws ss zs w → 1 ≤ w → w ≤ 4 → o.sm → Q (.ref T2) (upd (upd Hx T (.tup xs)) T2 (.tup [.ref T, .int (w : Nat)])) := fun Hx xs T T2 o w fx drx nT nT2 hds h1 h2 h3 h4 => by
      have s1 := same_upd nT (o := .tup xs)
      have s2 := same_upd nT2 (o := .tup [.ref T, .int (w : Nat)])
      refine q _ T2 (.ref T) o w (fx.trans ((Fd.of s1).trans (.of s2))) (drx.ext (s1.trans s2)) upd_same ?_ h1 h2 h3 h4
      exact .tup (.inl (.inl (s2 _ _ upd_same))) (DpLs.chg (Chg.of (s1.trans s2)) _ _ hds)
    refine ⟨_, rfl, d, c, 11, rfl, dr, by decide, by decide, fun H1 fm f1 _ dr1 a0 a1 => ?_⟩
    obtain ⟨fo, rfl⟩ := Int.eq_ofNat_of_zero_le a0
    have hsz1 := f1 _ _ nsz hsz
    refine ⟨_, rfl, sz, _, rfl, .inl (.of hsz1), ?_⟩
    rw [natL_len]
    refine ⟨_, rfl, rfl, _, rfl, ite2 (fun g => ?h1) (fun g => ⟨_, rfl, _, _, rfl, rfl, _, rfl, ite2 (fun g2 => ?h2) (fun g2 => ?h3)⟩)⟩
    case' h1 => clear g
    case' h2 => clear g g2
    case h3 =>
      have hz0 : zs.length ≠ 0 := fun z => g (decide_eq_true (by rw [z]; rfl))
      have hf2 : ¬ fo < 2 := fun z => g2 (decide_eq_true (by omega))
      have mn3 : (1 : Int) ≤ (if (3 : Int) < ((zs.length : Nat) : Int) then 3 else ((zs.length : Nat) : Int)) ∧ (if (3 : Int) < ((zs.length : Nat) : Int) then 3 else ((zs.length : Nat) : Int)) ≤ ((zs.length : Nat) : Int) := by
        split <;> omega
      refine ⟨_, rfl, _, _, rfl, rfl, _, rfl, _, rfl, _, _, rfl, d, c, _, rfl, dr1, mn3.1, by omega, fun H2 x2 f2 _ dr2 b0 b1 => ?_⟩
      obtain ⟨qn, hqn, hq⟩ : ∃ qn : Nat, ((zs.length : Nat) : Int) - 1 - x2 = ((qn : Nat) : Int) ∧ qn < zs.length := ⟨(((zs.length : Nat) : Int) - 1 - x2).toNat, by omega, by omega⟩
      refine ⟨_, _, rfl, rfl, ?_⟩
      dsimp only
      rw [hqn]
      refine ⟨_, rfl, _, _, rfl, rfl, _, rfl, _, rfl, _, _, rfl, d, c, _, rfl, dr2, mn3.1, by omega, fun H3 x3 f3 _ dr3 c0 c1 => ?_⟩
      obtain ⟨rn, hrn, hr'⟩ : ∃ rn : Nat, ((zs.length : Nat) : Int) - 1 - x3 = ((rn : Nat) : Int) ∧ rn < zs.length := ⟨(((zs.length : Nat) : Int) - 1 - x3).toNat, by omega, by omega⟩
      refine ⟨_, _, rfl, rfl, ?_⟩
      dsimp only
      rw [hrn]
      have f03 := f1.trans (f2.trans f3)
      have hsz3 := f03 _ _ nsz hsz
      have zq := okz _ (List.getElem_mem hq)
      have zr := okz _ (List.getElem_mem hr')
      have hatq := natL_at hq
      have hatr := natL_at hr'
      have gq := List.getElem?_eq_getElem hq
      have gr := List.getElem?_eq_getElem hr'
      have lst3 : ∀ {Hx : Hp}, Dr Hx d c → ∃ ys, Hx d = some (.lst ys) := fun h => h.lst
      -- filter
      refine ⟨_, rfl, _, _, rfl, rfl, _, rfl, ite2 (fun g4 => ?_) (fun g4 => ?_)⟩
      · refine ⟨_, rfl, _, rfl, _, rfl, sz, _, _, _, rfl, rfl, .of hsz3, hatq, d, c, zs[qn], 2, rfl, by omega, by omega, dr3, fun H5 p e f5 dr5 eok eht dp => ?_⟩
        refine ⟨_, rfl, (by show 3 ≤ sizeLine; decide), fun T nT => ?_⟩
        have sT := same_upd nT (o := .tup [.str (Str.ofString "filter"), p, .int ((qn : Nat) : Int)])
        refine ⟨_, rfl, _, rfl, sz, _, _, _, rfl, rfl, .of (sT _ _ (f5 _ _ nsz hsz3)), hatq, (by show 2 ≤ sizeLine; decide), fun T2 nT2 => ?_⟩
        exact fin H5 _ T T2 (.fil e qn) zs[qn] (f03.trans f5) dr5 nT nT2 (.cons (.str _) (.cons (Dp.toL _ _ (ep_only e) dp) (.cons (.int _) .nil))) ⟨gq, eok, by omega⟩ zq.1 zq.2 ⟨eht, by omega⟩
      -- map
      refine ⟨_, rfl, rfl, _, rfl, ite2 (fun g5 => ?_) (fun g5 => ?_)⟩
      · refine ⟨_, rfl, d, c, 2, rfl, dr3, by decide, by decide, fun H4 n f4 _ dr4 n0 n1 => ?_⟩
        obtain ⟨m, rfl⟩ := Int.eq_ofNat_of_zero_le n0
        have f04 := f03.trans f4
        refine ⟨_, _, rfl, rfl, _, rfl, by omega, by omega, fun D nD => ?_⟩
        have nDd := dr4.nd nD
        have nDc := dr4.nc nD
        have nD0 : H D = none := fd_none f04 nDd nD
        refine lc_range (lo := 0) (n := (1 + ((m : Nat) : Int)).toNat) (fun j Hj => Fd d H Hj ∧ Dr Hj d c ∧ ∃ (es : List Ep) (us : List V), Hj D = some (.lst us) ∧ DpLs (fun _ => False) K Hj us (es.map Ep.d) ∧ es.length = j ∧ ∀ e ∈ es, e.ok zs[qn] ∧ e.ht ≤ 1) ⟨f04.trans (.new nD), dr4.ext (same_upd nD), [], [], upd_same, .nil, rfl, (fun _ h => by cases h)⟩ (fun j Hj hj hp => ?_) (fun H5 hp => ?_)
        · obtain ⟨fj, drj, es, us, eD, hds, les, hes⟩ := hp
          have lus : us.length = es.length := by rw [DpLs.len hds, List.length_map]
          refine ⟨rfl, ?_⟩
          refine ⟨_, rfl, _, rfl, _, rfl, sz, _, _, _, rfl, rfl, .of (fj _ _ nsz hsz), hatq, d, c, zs[qn], 1, rfl, by omega, by omega, drj, fun H' p e f' dr' eok eht dp => ?_⟩
          have eD' := f' _ _ nDd eD
          refine ⟨_, eD', small1 (by omega), fun b o n e => ?_, dr'.upd nDd nDc, es ++ [e], us ++ [p], upd_same, ?_, by rw [List.length_append, les]; rfl, fun y hy => ?_⟩
          · rw [upd_ne (ne_of_none e nD0)]
            exact f' _ _ n (fj _ _ n e)
          · rw [List.map_append]
            exact DpLs.chg (Chg.at eD' (fun z => z)) _ _ (DpLs.snoc (DpLs.chg (Chg.fdl drj.lst (fun z => z) f') _ _ hds) (Dp.toL _ _ (ep_only e) dp))
          · rcases List.mem_append.mp hy with hy | hy
            · exact hes y hy
            · rw [List.mem_singleton.mp hy]
              exact ⟨eok, eht⟩
        · obtain ⟨f5, dr5, es, us, eD, hds, les, hes⟩ := hp
          have lus : us.length = es.length := by rw [DpLs.len hds, List.length_map]
          refine ⟨_, rfl, _, rfl, (by show 3 ≤ sizeLine; decide), fun T nT => ?_⟩
          have sT := same_upd nT (o := .tup [.str (Str.ofString "map"), .ref D, .int ((qn : Nat) : Int)])
          refine ⟨_, rfl, D, _, rfl, .inl (.of (sT _ _ eD)), (by show 2 ≤ sizeLine; decide), fun T2 nT2 => ?_⟩
          refine fin H5 _ T T2 (.map es qn) us.length f5 dr5 nT nT2 (.cons (.str _) (.cons (.lst ⟨nDd, nD0⟩ eD (DpLs.wide (fun _ _ _ z => z.elim) _ _ hds)) (.cons (.int _) .nil))) ⟨lus.symm, zs[qn], gq, fun e he => ⟨(hes e he).1, by have := (hes e he).2; omega⟩⟩ (by omega) (by omega) ⟨fun e he => by have := (hes e he).2; omega, by omega, by omega⟩
      -- group
      refine ⟨_, rfl, rfl, _, rfl, ite2 (fun g6 => ?_) (fun g6 => ?_)⟩
      · refine ⟨_, rfl, d, c, 3, rfl, dr3, by decide, by decide, fun H4 n f4 _ dr4 n0 n1 => ?_⟩
        obtain ⟨m, rfl⟩ := Int.eq_ofNat_of_zero_le n0
        have f04 := f03.trans f4
        refine ⟨_, rfl, by omega, by omega, fun D nD => ?_⟩
        have nDd := dr4.nd nD
        have nDc := dr4.nc nD
        have nD0 : H D = none := fd_none f04 nDd nD
        refine lc_range (lo := 0) (n := ((m : Nat) : Int).toNat) (fun j Hj => Fd d H Hj ∧ Dr Hj d c ∧ ∃ (es : List Ep) (us : List V), Hj D = some (.lst us) ∧ DpLs (fun _ => False) K Hj us (es.map Ep.d) ∧ es.length = j ∧ ∀ e ∈ es, e.ok zs[qn] ∧ e.ht ≤ 1) ⟨f04.trans (.new nD), dr4.ext (same_upd nD), [], [], upd_same, .nil, rfl, (fun _ h => by cases h)⟩ (fun j Hj hj hp => ?_) (fun H5 hp => ?_)
        · obtain ⟨fj, drj, es, us, eD, hds, les, hes⟩ := hp
          have lus : us.length = es.length := by rw [DpLs.len hds, List.length_map]
          refine ⟨rfl, ?_⟩
          refine ⟨_, rfl, _, rfl, _, rfl, sz, _, _, _, rfl, rfl, .of (fj _ _ nsz hsz), hatq, d, c, zs[qn], 1, rfl, by omega, by omega, drj, fun H' p e f' dr' eok eht dp => ?_⟩
          have eD' := f' _ _ nDd eD
          refine ⟨_, eD', small1 (by omega), fun b o n e => ?_, dr'.upd nDd nDc, es ++ [e], us ++ [p], upd_same, ?_, by rw [List.length_append, les]; rfl, fun y hy => ?_⟩
          · rw [upd_ne (ne_of_none e nD0)]
            exact f' _ _ n (fj _ _ n e)
          · rw [List.map_append]
            exact DpLs.chg (Chg.at eD' (fun z => z)) _ _ (DpLs.snoc (DpLs.chg (Chg.fdl drj.lst (fun z => z) f') _ _ hds) (Dp.toL _ _ (ep_only e) dp))
          · rcases List.mem_append.mp hy with hy | hy
            · exact hes y hy
            · rw [List.mem_singleton.mp hy]
              exact ⟨eok, eht⟩
        · obtain ⟨f5, dr5, ks, us, eD, hds, lks, hks⟩ := hp
          have lus : us.length = ks.length := by rw [DpLs.len hds, List.length_map]
          have hem : (!(!us.isEmpty)) = true ↔ ks = [] := by
            rw [Bool.not_not, List.isEmpty_iff, ← List.length_eq_zero_iff, lus, List.length_eq_zero_iff]
          refine ⟨_, rfl, d, c, 2, rfl, dr5, by decide, by decide, fun H6 t f6 _ dr6 t0 t1 => ?_⟩
          obtain ⟨tm, rfl⟩ := Int.eq_ofNat_of_zero_le t0
          have f06 := f5.trans f6
          have eD6 := f6 _ _ nDd eD
          obtain ⟨tt, htt, htt1, htt2⟩ : ∃ tt : Nat, ((tm : Nat) : Int) + (if (!(!us.isEmpty)) = true then 1 else 0) = ((tt : Nat) : Int) ∧ tt ≤ 2 ∧ (ks = [] → 1 ≤ tt) := by
            by_cases hk : ks = []
            · rw [if_pos (hem.mpr hk)]
              exact ⟨tm + 1, by omega, by omega, fun _ => by omega⟩
            · rw [if_neg (fun z => hk (hem.mp z))]
              exact ⟨tm, by omega, by omega, fun z => absurd z hk⟩
          refine ⟨_, rfl, _, .inl ⟨_, .of eD6, rfl⟩, .inr ⟨_, rfl, _, _, rfl, rfl, ?_⟩⟩
          dsimp only
          rw [htt]
          refine ⟨_, rfl, by omega, by omega, fun D2 nD2 => ?_⟩
          have nD2d := dr6.nd nD2
          have nD2c := dr6.nc nD2
          have nD20 : H D2 = none := fd_none f06 nD2d nD2
          have nDD : D ≠ D2 := fun z => by rw [← z, eD6] at nD2; cases nD2
          refine lc_range (lo := 0) (n := ((tt : Nat) : Int).toNat) (fun j Hj => Fd d H Hj ∧ Dr Hj d c ∧ Hj D = some (.lst us) ∧ DpLs (fun _ => False) K Hj us (ks.map Ep.d) ∧ ∃ (ts : List Fm) (vs : List V), Hj D2 = some (.lst vs) ∧ DpLs (fun _ => False) K Hj vs (ts.map Fm.d) ∧ ts.length = j ∧ ∀ t ∈ ts, t.ok zs[qn] ∧ ∀ o e, t = .ex o e → e.ht ≤ 2) ⟨f06.trans (.new nD2), dr6.ext (same_upd nD2), same_upd nD2 _ _ eD6, DpLs.chg (Chg.of (same_upd nD2)) _ _ (DpLs.chg (Chg.fdl dr5.lst (fun z => z) f6) _ _ hds), [], [], upd_same, .nil, rfl, (fun _ h => by cases h)⟩ (fun j Hj hj hp => ?_) (fun H7 hp => ?_)
          · obtain ⟨fj, drj, eDj, hdj, ts, vs, eD2, hds2, lts, hts⟩ := hp
            have lvs : vs.length = ts.length := by rw [DpLs.len hds2, List.length_map]
            refine ⟨rfl, ?_⟩
            refine ⟨_, rfl, _, rfl, _, rfl, sz, _, _, _, rfl, rfl, .of (fj _ _ nsz hsz), hatq, d, c, zs[qn], rfl, by omega, drj, fun H' p t f' dr' tok tht dp => ?_⟩
            have eD2' := f' _ _ nD2d eD2
            have chA : Chg (fun _ => False) Hj (upd H' D2 (.lst (vs ++ [p]))) := fun b o e => by
              rcases Chg.fdl (L := fun _ => False) drj.lst (fun z => z) f' b o e with z | z | z
              · exact .inl z
              · exact .inr (.inl z)
              · rcases Chg.at (L := fun _ => False) eD2' (fun z => z) b o z with y | y | y
                · exact .inl y
                · exact .inr (.inl y)
                · exact .inr (.inr y)
            refine ⟨_, eD2', small1 (by omega), fun b o n e => ?_, dr'.upd nD2d nD2c, by rw [upd_ne nDD]; exact f' _ _ nDd eDj, DpLs.chg chA _ _ hdj, ts ++ [t], vs ++ [p], upd_same, ?_, by rw [List.length_append, lts]; rfl, fun y hy => ?_⟩
            · rw [upd_ne (ne_of_none e nD20)]
              exact f' _ _ n (fj _ _ n e)
            · rw [List.map_append]
              exact DpLs.chg (Chg.at eD2' (fun z => z)) _ _ (DpLs.snoc (DpLs.chg (Chg.fdl drj.lst (fun z => z) f') _ _ hds2) (Dp.toL _ _ (fm_only t) dp))
            · rcases List.mem_append.mp hy with hy | hy
              · exact hts y hy
              · rw [List.mem_singleton.mp hy]
                exact ⟨tok, tht⟩
          · obtain ⟨f7, dr7, eD7, hd7, ts, vs, eD2, hds2, lts, hts⟩ := hp
            have lvs : vs.length = ts.length := by rw [DpLs.len hds2, List.length_map]
            have ltt : ts.length = tt := lts
            refine ⟨_, rfl, _, rfl, _, rfl, (by show 4 ≤ sizeLine; decide), fun T nT => ?_⟩
            have sT := same_upd nT (o := .tup [.str (Str.ofString "group"), .ref D, .ref D2, .int ((qn : Nat) : Int)])
            refine ⟨_, rfl, D, _, rfl, .inl (.of (sT _ _ eD7)), _, rfl, D2, _, rfl, .inl (.of (sT _ _ eD2)), _, _, rfl, rfl, (by show 2 ≤ sizeLine; decide), fun T2 nT2 => ?_⟩
            have lk2 : ks.length ≤ 2 := by omega
            have w1 : 1 ≤ us.length + vs.length := by
              by_cases hk : ks = []
              · have := htt2 hk
                omega
              · have := List.length_pos_iff.mpr hk
                omega
            exact fin H7 _ T T2 (.grp ks ts qn) (us.length + vs.length) f7 dr7 nT nT2 (.cons (.str _) (.cons (.lst ⟨nDd, nD0⟩ eD7 (DpLs.wide (fun _ _ _ z => z.elim) _ _ hd7)) (.cons (.lst ⟨nD2d, nD20⟩ eD2 (DpLs.wide (fun _ _ _ z => z.elim) _ _ hds2)) (.cons (.int _) .nil)))) ⟨by rw [lus, lvs], zs[qn], gq, fun e he => ⟨(hks e he).1, by have := (hks e he).2; omega⟩, fun t ht => (hts t ht).1⟩ w1 (by omega) ⟨fun e he => by have := (hks e he).2; omega, fun o e he => (hts _ he).2 o e rfl, lk2, by omega, by omega⟩
      -- join
      refine ⟨_, rfl, _, _, rfl, rfl, _, rfl, ite2 (fun g8 => ⟨_, rfl, _, rfl, sz, _, _, _, rfl, rfl, .of hsz3, hatq, _, rfl, _, rfl, sz, _, _, _, rfl, rfl, .of hsz3, hatr, _, _, rfl, rfl, _, _, rfl, rfl, _, rfl, ite2 (fun gj => ?j1) (fun gj => ?j2)⟩) (fun g8 => iteF ?j3)⟩
      case j1 =>
        have lj : zs[qn] + zs[rn] < 5 := by have := of_decide_eq_true gj; omega
        refine ⟨_, rfl, _, rfl, _, rfl, sz, _, _, _, rfl, rfl, .of hsz3, hatq, _, rfl, _, rfl, sz, _, _, _, rfl, rfl, .of hsz3, hatr, _, _, rfl, rfl, d, c, zs[qn] + zs[rn], 2, rfl, by omega, by omega, dr3, fun H5 p e f5 dr5 eok eht dp => ?_⟩
        refine ⟨_, rfl, _, rfl, (by show 4 ≤ sizeLine; decide), fun T nT => ?_⟩
        have sT := same_upd nT (o := .tup [.str (Str.ofString "join"), p, .int ((qn : Nat) : Int), .int ((rn : Nat) : Int)])
        have hsz5 := sT _ _ (f5 _ _ nsz hsz3)
        refine ⟨_, rfl, _, rfl, sz, _, _, _, rfl, rfl, .of hsz5, hatq, _, rfl, _, rfl, sz, _, _, _, rfl, rfl, .of hsz5, hatr, _, _, rfl, rfl, (by show 2 ≤ sizeLine; decide), fun T2 nT2 => ?_⟩
        exact fin H5 _ T T2 (.joi e qn rn) (zs[qn] + zs[rn]) (f03.trans f5) dr5 nT nT2 (.cons (.str _) (.cons (Dp.toL _ _ (ep_only e) dp) (.cons (.int _) (.cons (.int _) .nil)))) ⟨zs[qn], zs[rn], gq, gr, rfl, eok, by omega⟩ (by omega) (by omega) ⟨eht, by omega, by omega⟩
      all_goals
        -- anti
        refine ⟨_, rfl, rfl, _, rfl, ite2 (fun g9 => ?_) (fun g9 => ?_)⟩
        · refine ⟨_, rfl, _, rfl, _, rfl, sz, _, _, _, rfl, rfl, .of hsz3, hatq, _, rfl, _, rfl, sz, _, _, _, rfl, rfl, .of hsz3, hatr, _, _, rfl, rfl, d, c, zs[qn] + zs[rn], 2, rfl, by omega, by omega, dr3, fun H5 p e f5 dr5 eok eht dp => ?_⟩
          refine ⟨_, rfl, _, rfl, (by show 4 ≤ sizeLine; decide), fun T nT => ?_⟩
          have sT := same_upd nT (o := .tup [.str (Str.ofString "anti"), p, .int ((qn : Nat) : Int), .int ((rn : Nat) : Int)])
          have hsz5 := sT _ _ (f5 _ _ nsz hsz3)
          refine ⟨_, rfl, _, rfl, sz, _, _, _, rfl, rfl, .of hsz5, hatq, (by show 2 ≤ sizeLine; decide), fun T2 nT2 => ?_⟩
          exact fin H5 _ T T2 (.ant e qn rn) zs[qn] (f03.trans f5) dr5 nT nT2 (.cons (.str _) (.cons (Dp.toL _ _ (ep_only e) dp) (.cons (.int _) (.cons (.int _) .nil)))) ⟨gq, zs[rn], gr, eok, by omega⟩ zq.1 zq.2 ⟨eht, by omega, by omega⟩
        -- union, minus
        · refine ⟨_, rfl, _, rfl, by omega, by omega, fun D nD => ?_⟩
          have nDd := dr3.nd nD
          have nDc := dr3.nc nD
          have nD0 : H D = none := fd_none f03 nDd nD
          refine lc_range (lo := 0) (n := ((zs.length : Nat) : Int).toNat) (fun j Hj => Same H3 Hj ∧ ∃ ls : List Nat, Hj D = some (.lst (natL ls)) ∧ (∀ k ∈ ls, k < zs.length ∧ zs[k]? = some zs[qn]) ∧ (qn < j → qn ∈ ls) ∧ ls.length ≤ j) ⟨same_upd nD, [], upd_same, (fun _ h => by cases h), (fun h => by omega), Nat.le_refl _⟩ (fun j Hj hj hp => ?_) (fun H4 hp => ?_)
          · obtain ⟨sj, ls, eD, hls, hq2, lls⟩ := hp
            have hjl : j < zs.length := by omega
            refine ⟨rfl, ?_⟩
            rw [Int.zero_add]
            refine ⟨_, rfl, _, rfl, sz, _, _, _, rfl, rfl, .of (sj _ _ hsz3), natL_at hjl, _, rfl, _, rfl, sz, _, _, _, rfl, rfl, .of (sj _ _ hsz3), hatq, rfl, _, rfl, ite2 (fun ge => ?_) (fun ge => ?_)⟩
            · have ge2 : zs[j] = zs[qn] := by
                have := V.int.inj (of_decide_eq_true ge)
                omega
              refine ⟨_, rfl, _, eD, by rw [natL_len]; exact small1 (by omega), fun b o e => ?_, ls ++ [j], ?_, fun k hk => ?_, fun h => ?_, by rw [List.length_append, List.length_singleton]; omega⟩
              · rw [upd_ne (ne_of_none e nD)]
                exact sj _ _ e
              · rw [upd_same]
                unfold natL
                rw [List.map_append]
                rfl
              · rcases List.mem_append.mp hk with hk | hk
                · exact hls k hk
                · rw [List.mem_singleton.mp hk]
                  exact ⟨hjl, by rw [List.getElem?_eq_getElem hjl, ge2]⟩
              · by_cases e : qn < j
                · exact List.mem_append_left _ (hq2 e)
                · have e2 : qn = j := by omega
                  rw [e2]
                  exact List.mem_append_right _ List.mem_cons_self
            · refine ⟨sj, ls, eD, hls, fun h => ?_, by omega⟩
              by_cases e : qn < j
              · exact hq2 e
              · have e2 : j = qn := by omega
                exfalso
                apply ge
                subst e2
                exact decide_eq_true rfl
          · obtain ⟨s4, ls, eD, hls, hq2, lls⟩ := hp
            have hqm : qn ∈ ls := hq2 (by rw [Int.toNat_natCast]; exact hq)
            have hpos : 0 < ls.length := List.length_pos_iff.mpr fun z => by rw [z] at hqm; cases hqm
            have lls2 : ls.length ≤ 100 := by rw [Int.toNat_natCast] at lls; omega
            have f04 := f03.trans (Fd.of s4)
            have dr4 := dr3.ext s4
            refine ⟨(by show 2 ≤ sizeLine; decide), fun L nL => ?_⟩
            have nLd := dr4.nd nL
            have sL := same_upd nL (o := .lst [V.str "union", .str "minus"])
            have eL : upd H4 L (.lst [V.str "union", .str "minus"]) L = some (.lst [V.str "union", .str "minus"]) := upd_same
            have dr5 := dr4.ext sL
            refine ⟨_, rfl, d, c, 2, rfl, dr5, by decide, by decide, fun H6 n f6 _ dr6 n0 n1 => ?_⟩
            obtain ⟨m, rfl⟩ := Int.eq_ofNat_of_zero_le n0
            have eL6 := f6 _ _ nLd eL
            have f06 := (f04.trans (Fd.of sL)).trans f6
            have eD6 := f6 _ _ nDd (sL _ _ eD)
            obtain ⟨mk, wdm, hm1, hm2, hm3⟩ : ∃ (mk : Nat → Op) (wdm : String), atI [V.str "union", .str "minus"] ((m : Nat) : Int) = some (.str (Str.ofString wdm)) ∧ (∀ r, (mk r).wd = wdm ∧ (mk r).as = [nI qn, nI r]) ∧ ∀ r, r ≤ 100 → zs[r]? = some zs[qn] → (mk r).okW ws ss zs zs[qn] ∧ (mk r).sm := by
              rcases (show m = 0 ∨ m = 1 by omega) with rfl | rfl
              · exact ⟨fun r => .uni qn r, "union", rfl, fun r => ⟨rfl, rfl⟩, fun r h1 h2 => ⟨⟨gq, h2⟩, (show qn ≤ 100 ∧ r ≤ 100 from ⟨by omega, h1⟩)⟩⟩
              · exact ⟨fun r => .min qn r, "minus", rfl, fun r => ⟨rfl, rfl⟩, fun r h1 h2 => ⟨⟨gq, h2⟩, (show qn ≤ 100 ∧ r ≤ 100 from ⟨by omega, h1⟩)⟩⟩
            refine ⟨L, _, _, _, rfl, rfl, .of eL6, hm1, ?_⟩
            refine ⟨_, rfl, _, rfl, _, rfl, _, rfl, _, rfl, D, _, rfl, .inl (.of eD6), d, c, _, rfl, dr6, by rw [natL_len]; omega, by rw [natL_len]; omega, fun H7 x7 f7 _ dr7 x0 x1 => ?_⟩
            obtain ⟨xi, rfl⟩ := Int.eq_ofNat_of_zero_le x0
            rw [natL_len] at x1
            have hxi : xi < ls.length := by omega
            have eD7 := f7 _ _ nDd eD6
            obtain ⟨o1, o2⟩ := hls _ (List.getElem_mem hxi)
            obtain ⟨o3, o4⟩ := hm3 ls[xi] (by omega) o2
            refine ⟨D, _, _, _, rfl, rfl, .of eD7, natL_at hxi, (by show 3 ≤ sizeLine; decide), fun T nT => ?_⟩
            have f07 := f06.trans f7
            have sT := same_upd nT (o := .tup [.str (Str.ofString wdm), .int ((qn : Nat) : Int), .int ((ls[xi] : Nat) : Int)])
            refine ⟨_, rfl, _, rfl, sz, _, _, _, rfl, rfl, .of (sT _ _ (f07 _ _ nsz hsz)), hatq, (by show 2 ≤ sizeLine; decide), fun T2 nT2 => ?_⟩
            exact fin H7 _ T T2 (mk ls[xi]) zs[qn] f07 dr7 nT nT2 (by rw [(hm2 ls[xi]).1, (hm2 ls[xi]).2]; exact .cons (.str _) (.cons (.int _) (.cons (.int _) .nil))) o3 zq.1 zq.2 o4
    case h1 =>
      refine ⟨_, rfl, _, .inl ⟨_, .of (f1 _ _ nsa hsa), rfl⟩, ite2 (fun gs => ⟨_, rfl, d, c, 2, rfl, dr1, by decide, by decide, fun Hx r f2 _ drx _ _ => ⟨_, rfl, ite2 (fun gb => ?s1) (fun gb => ?t1)⟩⟩) (fun gs => iteF ?u1)⟩
      case s1 =>
        have fx := f1.trans f2
        have hss : ss ≠ [] := fun e => by
          rw [e] at gs
          cases gs
        have hpos : 0 < ss.length := List.length_pos_iff.mpr hss
        have hsax := fx _ _ nsa hsa
        refine ⟨_, rfl, _, rfl, sa, _, rfl, .inl (.of hsax), d, c, ((natL ss).length : Int), rfl, drx, by rw [natL_len]; omega, by rw [natL_len]; omega, fun H2 r f2 _ dr2 r0 r1 => ?_⟩
        obtain ⟨i, rfl⟩ := Int.eq_ofNat_of_zero_le r0
        rw [natL_len] at r1
        have hi : i < ss.length := by omega
        refine ⟨_, rfl, (by show 2 ≤ sizeLine; decide), fun T nT => ?_⟩
        have sT := same_upd nT (o := .tup [.str (Str.ofString "step"), .int ((i : Nat) : Int)])
        refine ⟨_, rfl, _, rfl, sa, _, _, _, rfl, rfl, .of (sT _ _ (f2 _ _ nsa hsax)), natL_at hi, (by show 2 ≤ sizeLine; decide), fun T2 nT2 => ?_⟩
        exact fin H2 _ T T2 (.stp i) ss[i] (fx.trans f2) dr2 nT nT2 (.cons (.str _) (.cons (.int _) .nil)) (List.getElem?_eq_getElem hi) (oks _ (List.getElem_mem hi)).1 (oks _ (List.getElem_mem hi)).2 (show i ≤ 100 by omega)
      case' t1 =>
        have fx := f1.trans f2
        clear gb f2
      case' u1 =>
        have fx := f1
        have drx := dr1
        generalize H1 = Hx at fx drx ⊢
      all_goals
        have hpos : 0 < ws.length := List.length_pos_iff.mpr wne'
        have hwax := fx _ _ nwa hwa
        refine ⟨_, rfl, _, rfl, wa, _, rfl, .inl (.of hwax), d, c, ((natL ws).length : Int), rfl, drx, by rw [natL_len]; omega, by rw [natL_len]; omega, fun H2 r f2 _ dr2 r0 r1 => ?_⟩
        obtain ⟨i, rfl⟩ := Int.eq_ofNat_of_zero_le r0
        rw [natL_len] at r1
        have hi : i < ws.length := by omega
        refine ⟨_, rfl, (by show 2 ≤ sizeLine; decide), fun T nT => ?_⟩
        have sT := same_upd nT (o := .tup [.str (Str.ofString "table"), .int ((i : Nat) : Int)])
        refine ⟨_, rfl, _, rfl, wa, _, _, _, rfl, rfl, .of (sT _ _ (f2 _ _ nwa hwax)), natL_at hi, (by show 2 ≤ sizeLine; decide), fun T2 nT2 => ?_⟩
        exact fin H2 _ T T2 (.tab i) ws[i] (fx.trans f2) dr2 nT nT2 (.cons (.str _) (.cons (.int _) .nil)) (List.getElem?_eq_getElem hi) (okw _ (List.getElem_mem hi)).1 (okw _ (List.getElem_mem hi)).2 (show i ≤ 100 by omega)
    case h2 =>
      refine ⟨_, rfl, _, .inl ⟨_, .of (f1 _ _ nsa hsa), rfl⟩, ite2 (fun gs => ⟨_, rfl, d, c, 2, rfl, dr1, by decide, by decide, fun Hx r f2 _ drx _ _ => ⟨_, rfl, ite2 (fun gb => ?s2) (fun gb => ?t2)⟩⟩) (fun gs => iteF ?u2)⟩
      case s2 =>
        have fx := f1.trans f2
        have hss : ss ≠ [] := fun e => by
          rw [e] at gs
          cases gs
        have hpos : 0 < ss.length := List.length_pos_iff.mpr hss
        have hsax := fx _ _ nsa hsa
        refine ⟨_, rfl, _, rfl, sa, _, rfl, .inl (.of hsax), d, c, ((natL ss).length : Int), rfl, drx, by rw [natL_len]; omega, by rw [natL_len]; omega, fun H2 r f2 _ dr2 r0 r1 => ?_⟩
        obtain ⟨i, rfl⟩ := Int.eq_ofNat_of_zero_le r0
        rw [natL_len] at r1
        have hi : i < ss.length := by omega
        refine ⟨_, rfl, (by show 2 ≤ sizeLine; decide), fun T nT => ?_⟩
        have sT := same_upd nT (o := .tup [.str (Str.ofString "step"), .int ((i : Nat) : Int)])
        refine ⟨_, rfl, _, rfl, sa, _, _, _, rfl, rfl, .of (sT _ _ (f2 _ _ nsa hsax)), natL_at hi, (by show 2 ≤ sizeLine; decide), fun T2 nT2 => ?_⟩
        exact fin H2 _ T T2 (.stp i) ss[i] (fx.trans f2) dr2 nT nT2 (.cons (.str _) (.cons (.int _) .nil)) (List.getElem?_eq_getElem hi) (oks _ (List.getElem_mem hi)).1 (oks _ (List.getElem_mem hi)).2 (show i ≤ 100 by omega)
      case' t2 =>
        have fx := f1.trans f2
        clear gb f2
      case' u2 =>
        have fx := f1
        have drx := dr1
        generalize H1 = Hx at fx drx ⊢
      all_goals
        have hpos : 0 < ws.length := List.length_pos_iff.mpr wne'
        have hwax := fx _ _ nwa hwa
        refine ⟨_, rfl, _, rfl, wa, _, rfl, .inl (.of hwax), d, c, ((natL ws).length : Int), rfl, drx, by rw [natL_len]; omega, by rw [natL_len]; omega, fun H2 r f2 _ dr2 r0 r1 => ?_⟩
        obtain ⟨i, rfl⟩ := Int.eq_ofNat_of_zero_le r0
        rw [natL_len] at r1
        have hi : i < ws.length := by omega
        refine ⟨_, rfl, (by show 2 ≤ sizeLine; decide), fun T nT => ?_⟩
        have sT := same_upd nT (o := .tup [.str (Str.ofString "table"), .int ((i : Nat) : Int)])
        refine ⟨_, rfl, _, rfl, wa, _, _, _, rfl, rfl, .of (sT _ _ (f2 _ _ nwa hwax)), natL_at hi, (by show 2 ≤ sizeLine; decide), fun T2 nT2 => ?_⟩
        exact fin H2 _ T T2 (.tab i) ws[i] (fx.trans f2) dr2 nT nT2 (.cons (.str _) (.cons (.int _) .nil)) (List.getElem?_eq_getElem hi) (okw _ (List.getElem_mem hi)).1 (okw _ (List.getElem_mem hi)).2 (show i ≤ 100 by omega)
end

/-! ### the law's plans are drawn -/
def sp_lpl (K : PySem.W.Frag) : Sp := fun vs H Q _ => ∃ (d c wa sa : Addr) (ws ss : List Nat), vs = [.ref d, .ref wa, .ref sa, .int 7] ∧ Dr H d c ∧ wa ≠ d ∧ sa ≠ d ∧ H wa = some (.lst (natL ws)) ∧ H sa = some (.lst (natL ss)) ∧ (∀ v ∈ ws, 1 ≤ v ∧ v ≤ 4) ∧ (∀ v ∈ ss, 1 ≤ v ∧ v ≤ 4) ∧ ws ≠ [] ∧ ws.length ≤ 100 ∧ ss.length ≤ 100 ∧
  ∀ (H' : Hp) (p : Addr) (x y : V) (ops : List Op) (wz rooms : List Nat), Fd d H H' → Dr H' d c → H' p = some (.tup [x, y]) → DpL (fun a => a ≠ d ∧ H a = none) K H' x (.list (ops.map Op.d)) → ops ≠ [] → ops.length ≤ 7 → wz.length = ops.length → (∀ (i : Nat) (o : Op) (w : Nat), ops[i]? = some o → wz[i]? = some w → o.okW ws ss (wz.take i) w ∧ 1 ≤ w ∧ w ≤ 4) → RmOk ops rooms → (∀ o ∈ ops, o.sm) → Q (.ref p) H'
theorem natL_atD {l : List Nat} {i : Nat} (h : i < l.length) : atI (natL l) ((i : Nat) : Int) = some (.int ((l.getD i 0 : Nat) : Int)) := by
  rw [natL_at h, List.getD_eq_getElem?_getD, List.getElem?_eq_getElem h]
  rfl
theorem getD_le {l : List Nat} {m : Nat} (h : ∀ r ∈ l, r ≤ m) (i : Nat) : l.getD i 0 ≤ m := by
  rw [List.getD_eq_getElem?_getD]
  cases e : l[i]? with
  | none => exact Nat.zero_le _
  | some x => exact h x (List.mem_of_getElem? e)
section
variable {P : Program} {w : World} {K : PySem.W.Frag} {mg : Str → Option Value} {base : Heap}
theorem ok_lroom {f : Addr} {fd : FuncData} (F : Fun K "_law_room" "_law_room" s__law_room f fd) (M : Mg mg) : FnOk P w K mg base CX0 1 f fd ["operation", "rooms"] (sp_lroom K) := by
  refine F.ok sc__law_room (fun vs H Q E h => ?_) (fun cdv A outer s H vs Q E hr h => ?_)
  · obtain ⟨x, ra, o, rs, rfl, _⟩ := h
    rfl
  · obtain ⟨x, ra, o, rs, rfl, dp, hra, hrs, hop, hsm, q⟩ := h
    refine ⟨_, (pss_cons (ps_set (i := 2) sc__law_room.nd rfl (.inl rfl) (pe_ix (ix_tupK K) (pv 0) pe_int (fun _ _ => rfl)))
      (pss_cons (ps_if (pt_cmpR (inK K) (pv 2) (pe_tup (pa_cons pe_str (pa_cons pe_str pa_nil))) (by rfl)) (pss_one (ps_ret (pe_ifExp (pt_cmpR op_eq (pv 2) pe_str (nomark _)) pe_int pe_int))) pss_nil)
      (pss_cons (ps_if (pt_cmpR op_eq (pv 2) pe_str (nomark _)) (pss_one (ps_ret (pe_op op_add (pe_ix (ix_listK K) (pv 1) (pe_ix (ix_tupK K) (pv 0) pe_int (fun _ _ => rfl)) (fun _ _ => rfl)) (pe_ix (ix_listK K) (pv 1) (pe_ix (ix_tupK K) (pv 0) pe_int (fun _ _ => rfl)) (fun _ _ => rfl))))) pss_nil)
      (pss_cons (ps_if (pt_cmpR op_eq (pv 2) pe_str (nomark _)) (pss_one (ps_ret (pe_ix (ix_listK K) (pv 1) (pe_ix (ix_tupK K) (pv 0) pe_int (fun _ _ => rfl)) (fun _ _ => rfl)))) pss_nil)
      (pss_cons (ps_if (pt_cmpR op_eq (pv 2) pe_str (nomark _)) (pss_one (ps_ret (pe_op op_mul (pe_ix (ix_listK K) (pv 1) (pe_ix (ix_tupK K) (pv 0) pe_int (fun _ _ => rfl)) (fun _ _ => rfl)) (pe_ix (ix_listK K) (pv 1) (pe_ix (ix_tupK K) (pv 0) pe_int (fun _ _ => rfl)) (fun _ _ => rfl))))) pss_nil)
      (pss_cons (ps_if (pt_cmpR op_ne (pv 2) pe_str (nomark _)) (pss_one (ps_ret (pe_ix (ix_listK K) (pv 1) (pe_ix (ix_tupK K) (pv 0) pe_int (fun _ _ => rfl)) (fun _ _ => rfl)))) pss_nil)
      (pss_cons (ps_set (i := 3) sc__law_room.nd rfl (.inl rfl) (pe_ix (ix_listK K) (pv 1) (pe_ix (ix_tupK K) (pv 0) pe_int (fun _ _ => rfl)) (fun _ _ => rfl)))
      (pss_cons (ps_set (i := 4) sc__law_room.nd rfl (.inl rfl) (pe_ifExp (pt_not (pt_truthK K (pe_ix (ix_tupK K) (pv 0) pe_int (fun _ _ => rfl)) (by intro _; rfl))) (pe_op op_add pe_int (pe_op op_mul pe_int (pv 3))) pe_int))
      (pss_cons (ps_for PassesOwn.never rfl (pi_list (pe_ix (ix_tupK K) (pv 0) pe_int (fun _ _ => rfl))) (pg_name (i := 5) sc__law_room.nd rfl (.inl rfl)) (pss_one (ps_set (i := 4) sc__law_room.nd rfl (.inl rfl) (pe_op op_mul (pv 4) (pe_ifExp (pt_cmpR op_eq (pe_ix (ix_tupK K) (pv 5) pe_int (fun _ _ => rfl)) pe_str (nomark _)) (pe_op op_shl pe_int (pe_callB (call_min2 rfl) (by rfl) M.min (by decide +kernel) (pa_cons (pv 3) (pa_cons pe_int pa_nil)))) (pe_op op_add pe_int (pv 3)))))))
      (pss_one (ps_ret (pv 4)))))))))))), ?_⟩
    cases o with
    | tab i =>
      have dp : Dp K H x (.tuple [.str (Str.ofString "table"), nI i]) := dp
      obtain ⟨pa, xs, rfl, hpa, dxs⟩ := dp_tup dp
      obtain ⟨u, rfl, du⟩ := dp_two dxs
      refine ⟨_, rfl, pa, _, _, _, rfl, rfl, hpa, atI_nat (j := 0) rfl, ?_⟩
      refine ⟨_, rfl, (by show 2 ≤ sizeLine; decide), fun t nt => ⟨t, _, rfl, .inr (.inl (.inl upd_same)), rfl, rfl, _, rfl, ?_⟩⟩
      have s1 := same_upd nt (o := .tup [.str (Str.ofString "table"), .str (Str.ofString "step")])
      generalize upd H t (.tup [.str (Str.ofString "table"), .str (Str.ofString "step")]) = H1 at s1 ⊢
      refine ite2 (fun _ => ?_) (fun g => absurd (show (if false = true then !inV (.str (Str.ofString "table")) [.str (Str.ofString "table"), .str (Str.ofString "step")] else inV (.str (Str.ofString "table")) [.str (Str.ofString "table"), .str (Str.ofString "step")]) = true by decide +kernel) g)
      refine ⟨_, rfl, rfl, _, rfl, ?_⟩
      rw [weq]
      exact iteT (q H1 s1)
    | stp i =>
      have dp : Dp K H x (.tuple [.str (Str.ofString "step"), nI i]) := dp
      obtain ⟨pa, xs, rfl, hpa, dxs⟩ := dp_tup dp
      obtain ⟨u, rfl, du⟩ := dp_two dxs
      refine ⟨_, rfl, pa, _, _, _, rfl, rfl, hpa, atI_nat (j := 0) rfl, ?_⟩
      refine ⟨_, rfl, (by show 2 ≤ sizeLine; decide), fun t nt => ⟨t, _, rfl, .inr (.inl (.inl upd_same)), rfl, rfl, _, rfl, ?_⟩⟩
      have s1 := same_upd nt (o := .tup [.str (Str.ofString "table"), .str (Str.ofString "step")])
      generalize upd H t (.tup [.str (Str.ofString "table"), .str (Str.ofString "step")]) = H1 at s1 ⊢
      refine ite2 (fun _ => ?_) (fun g => absurd (show (if false = true then !inV (.str (Str.ofString "step")) [.str (Str.ofString "table"), .str (Str.ofString "step")] else inV (.str (Str.ofString "step")) [.str (Str.ofString "table"), .str (Str.ofString "step")]) = true by decide +kernel) g)
      refine ⟨_, rfl, rfl, _, rfl, ?_⟩
      rw [wne "step" "table" (by decide +kernel)]
      exact iteF (q H1 s1)
    | uni qi ri =>
      have dp : Dp K H x (.tuple [.str (Str.ofString "union"), nI qi, nI ri]) := dp
      obtain ⟨pa, xs, rfl, hpa, dxs⟩ := dp_tup dp
      obtain ⟨xa, xb, rfl, da, db⟩ := dp_three dxs
      obtain rfl := dp_nat da
      obtain rfl := dp_nat db
      have hq : qi < rs.length := hop qi List.mem_cons_self
      have hr' : ri < rs.length := hop ri (List.mem_cons_of_mem _ List.mem_cons_self)
      refine ⟨_, rfl, pa, _, _, _, rfl, rfl, hpa, atI_nat (j := 0) rfl, ?_⟩
      refine ⟨_, rfl, (by show 2 ≤ sizeLine; decide), fun t nt => ⟨t, _, rfl, .inr (.inl (.inl upd_same)), rfl, rfl, _, rfl, ?_⟩⟩
      have s1 := same_upd nt (o := .tup [.str (Str.ofString "table"), .str (Str.ofString "step")])
      generalize upd H t (.tup [.str (Str.ofString "table"), .str (Str.ofString "step")]) = H1 at s1 ⊢
      refine ite2 (fun g => absurd g (show ¬ (if false = true then !inV (.str (Str.ofString "union")) [.str (Str.ofString "table"), .str (Str.ofString "step")] else inV (.str (Str.ofString "union")) [.str (Str.ofString "table"), .str (Str.ofString "step")]) = true by decide +kernel)) (fun _ => ?_)
      have hpa := SqT.ext s1 hpa
      have hra := s1 _ _ hra
      refine ⟨_, rfl, rfl, _, rfl, ?_⟩
      rw [weq]
      exact iteT ⟨_, rfl, _, rfl, pa, _, _, _, rfl, rfl, hpa, atI_nat (j := 1) rfl, ra, _, _, _, rfl, rfl, .of hra, natL_atD hq, _, rfl, _, rfl, pa, _, _, _, rfl, rfl, hpa, atI_nat (j := 2) rfl, ra, _, _, _, rfl, rfl, .of hra, natL_atD hr', _, _, rfl, rfl, q H1 s1⟩
    | min qi ri =>
      have dp : Dp K H x (.tuple [.str (Str.ofString "minus"), nI qi, nI ri]) := dp
      obtain ⟨pa, xs, rfl, hpa, dxs⟩ := dp_tup dp
      obtain ⟨xa, xb, rfl, da, db⟩ := dp_three dxs
      obtain rfl := dp_nat da
      obtain rfl := dp_nat db
      have hq : qi < rs.length := hop qi List.mem_cons_self
      refine ⟨_, rfl, pa, _, _, _, rfl, rfl, hpa, atI_nat (j := 0) rfl, ?_⟩
      refine ⟨_, rfl, (by show 2 ≤ sizeLine; decide), fun t nt => ⟨t, _, rfl, .inr (.inl (.inl upd_same)), rfl, rfl, _, rfl, ?_⟩⟩
      have s1 := same_upd nt (o := .tup [.str (Str.ofString "table"), .str (Str.ofString "step")])
      generalize upd H t (.tup [.str (Str.ofString "table"), .str (Str.ofString "step")]) = H1 at s1 ⊢
      refine ite2 (fun g => absurd g (show ¬ (if false = true then !inV (.str (Str.ofString "minus")) [.str (Str.ofString "table"), .str (Str.ofString "step")] else inV (.str (Str.ofString "minus")) [.str (Str.ofString "table"), .str (Str.ofString "step")]) = true by decide +kernel)) (fun _ => ?_)
      have hpa := SqT.ext s1 hpa
      have hra := s1 _ _ hra
      refine ⟨_, rfl, rfl, _, rfl, ?_⟩
      rw [wne "minus" "union" (by decide +kernel)]
      refine iteF ?_
      refine ⟨_, rfl, rfl, _, rfl, ?_⟩
      rw [weq]
      exact iteT ⟨_, rfl, _, rfl, pa, _, _, _, rfl, rfl, hpa, atI_nat (j := 1) rfl, ra, _, _, _, rfl, rfl, .of hra, natL_atD hq, q H1 s1⟩
    | joi e qi ri =>
      have dp : Dp K H x (.tuple [.str (Str.ofString "join"), e.d, nI qi, nI ri]) := dp
      obtain ⟨pa, xs, rfl, hpa, dxs⟩ := dp_tup dp
      obtain ⟨xa, xb, xc, rfl, da, db, dc⟩ := dp_four dxs
      obtain rfl := dp_nat db
      obtain rfl := dp_nat dc
      have hq : qi < rs.length := hop qi List.mem_cons_self
      have hr' : ri < rs.length := hop ri (List.mem_cons_of_mem _ List.mem_cons_self)
      refine ⟨_, rfl, pa, _, _, _, rfl, rfl, hpa, atI_nat (j := 0) rfl, ?_⟩
      refine ⟨_, rfl, (by show 2 ≤ sizeLine; decide), fun t nt => ⟨t, _, rfl, .inr (.inl (.inl upd_same)), rfl, rfl, _, rfl, ?_⟩⟩
      have s1 := same_upd nt (o := .tup [.str (Str.ofString "table"), .str (Str.ofString "step")])
      generalize upd H t (.tup [.str (Str.ofString "table"), .str (Str.ofString "step")]) = H1 at s1 ⊢
      refine ite2 (fun g => absurd g (show ¬ (if false = true then !inV (.str (Str.ofString "join")) [.str (Str.ofString "table"), .str (Str.ofString "step")] else inV (.str (Str.ofString "join")) [.str (Str.ofString "table"), .str (Str.ofString "step")]) = true by decide +kernel)) (fun _ => ?_)
      have hpa := SqT.ext s1 hpa
      have hra := s1 _ _ hra
      refine ⟨_, rfl, rfl, _, rfl, ?_⟩
      rw [wne "join" "union" (by decide +kernel)]
      refine iteF ?_
      refine ⟨_, rfl, rfl, _, rfl, ?_⟩
      rw [wne "join" "minus" (by decide +kernel)]
      refine iteF ?_
      refine ⟨_, rfl, rfl, _, rfl, ?_⟩
      rw [weq]
      have hb := getD_le hrs ri
      exact iteT ⟨_, rfl, _, rfl, pa, _, _, _, rfl, rfl, hpa, atI_nat (j := 2) rfl, ra, _, _, _, rfl, rfl, .of hra, natL_atD hq, _, rfl, _, rfl, pa, _, _, _, rfl, rfl, hpa, atI_nat (j := 3) rfl, ra, _, _, _, rfl, rfl, .of hra, natL_atD hr', _, _, rfl, rfl, .inr ⟨by omega, by omega⟩, q H1 s1⟩
    | fil e qi =>
      have dp : Dp K H x (.tuple [.str (Str.ofString "filter"), e.d, nI qi]) := dp
      obtain ⟨pa, xs, rfl, hpa, dxs⟩ := dp_tup dp
      obtain ⟨xa, xb, rfl, da, db⟩ := dp_three dxs
      obtain rfl := dp_nat db
      have hq : qi < rs.length := hop qi List.mem_cons_self
      refine ⟨_, rfl, pa, _, _, _, rfl, rfl, hpa, atI_nat (j := 0) rfl, ?_⟩
      refine ⟨_, rfl, (by show 2 ≤ sizeLine; decide), fun t nt => ⟨t, _, rfl, .inr (.inl (.inl upd_same)), rfl, rfl, _, rfl, ?_⟩⟩
      have s1 := same_upd nt (o := .tup [.str (Str.ofString "table"), .str (Str.ofString "step")])
      generalize upd H t (.tup [.str (Str.ofString "table"), .str (Str.ofString "step")]) = H1 at s1 ⊢
      refine ite2 (fun g => absurd g (show ¬ (if false = true then !inV (.str (Str.ofString "filter")) [.str (Str.ofString "table"), .str (Str.ofString "step")] else inV (.str (Str.ofString "filter")) [.str (Str.ofString "table"), .str (Str.ofString "step")]) = true by decide +kernel)) (fun _ => ?_)
      have hpa := SqT.ext s1 hpa
      have hra := s1 _ _ hra
      refine ⟨_, rfl, rfl, _, rfl, ?_⟩
      rw [wne "filter" "union" (by decide +kernel)]
      refine iteF ?_
      refine ⟨_, rfl, rfl, _, rfl, ?_⟩
      rw [wne "filter" "minus" (by decide +kernel)]
      refine iteF ?_
      refine ⟨_, rfl, rfl, _, rfl, ?_⟩
      rw [wne "filter" "join" (by decide +kernel)]
      refine iteF ?_
      refine ⟨_, rfl, rfl, _, rfl, ?_⟩
      rw [wne "filter" "group" (by decide +kernel)]
      exact iteT ⟨_, rfl, _, rfl, pa, _, _, _, rfl, rfl, hpa, atI_nat (j := 2) rfl, ra, _, _, _, rfl, rfl, .of hra, natL_atD hq, q H1 s1⟩
    | map es qi =>
      have dp : Dp K H x (.tuple [.str (Str.ofString "map"), .list (es.map Ep.d), nI qi]) := dp
      obtain ⟨pa, xs, rfl, hpa, dxs⟩ := dp_tup dp
      obtain ⟨xa, xb, rfl, da, db⟩ := dp_three dxs
      obtain rfl := dp_nat db
      have hq : qi < rs.length := hop qi List.mem_cons_self
      refine ⟨_, rfl, pa, _, _, _, rfl, rfl, hpa, atI_nat (j := 0) rfl, ?_⟩
      refine ⟨_, rfl, (by show 2 ≤ sizeLine; decide), fun t nt => ⟨t, _, rfl, .inr (.inl (.inl upd_same)), rfl, rfl, _, rfl, ?_⟩⟩
      have s1 := same_upd nt (o := .tup [.str (Str.ofString "table"), .str (Str.ofString "step")])
      generalize upd H t (.tup [.str (Str.ofString "table"), .str (Str.ofString "step")]) = H1 at s1 ⊢
      refine ite2 (fun g => absurd g (show ¬ (if false = true then !inV (.str (Str.ofString "map")) [.str (Str.ofString "table"), .str (Str.ofString "step")] else inV (.str (Str.ofString "map")) [.str (Str.ofString "table"), .str (Str.ofString "step")]) = true by decide +kernel)) (fun _ => ?_)
      have hpa := SqT.ext s1 hpa
      have hra := s1 _ _ hra
      refine ⟨_, rfl, rfl, _, rfl, ?_⟩
      rw [wne "map" "union" (by decide +kernel)]
      refine iteF ?_
      refine ⟨_, rfl, rfl, _, rfl, ?_⟩
      rw [wne "map" "minus" (by decide +kernel)]
      refine iteF ?_
      refine ⟨_, rfl, rfl, _, rfl, ?_⟩
      rw [wne "map" "join" (by decide +kernel)]
      refine iteF ?_
      refine ⟨_, rfl, rfl, _, rfl, ?_⟩
      rw [wne "map" "group" (by decide +kernel)]
      exact iteT ⟨_, rfl, _, rfl, pa, _, _, _, rfl, rfl, hpa, atI_nat (j := 2) rfl, ra, _, _, _, rfl, rfl, .of hra, natL_atD hq, q H1 s1⟩
    | ant e qi ri =>
      have dp : Dp K H x (.tuple [.str (Str.ofString "anti"), e.d, nI qi, nI ri]) := dp
      obtain ⟨pa, xs, rfl, hpa, dxs⟩ := dp_tup dp
      obtain ⟨xa, xb, xc, rfl, da, db, dc⟩ := dp_four dxs
      obtain rfl := dp_nat db
      have hq : qi < rs.length := hop qi List.mem_cons_self
      refine ⟨_, rfl, pa, _, _, _, rfl, rfl, hpa, atI_nat (j := 0) rfl, ?_⟩
      refine ⟨_, rfl, (by show 2 ≤ sizeLine; decide), fun t nt => ⟨t, _, rfl, .inr (.inl (.inl upd_same)), rfl, rfl, _, rfl, ?_⟩⟩
      have s1 := same_upd nt (o := .tup [.str (Str.ofString "table"), .str (Str.ofString "step")])
      generalize upd H t (.tup [.str (Str.ofString "table"), .str (Str.ofString "step")]) = H1 at s1 ⊢
      refine ite2 (fun g => absurd g (show ¬ (if false = true then !inV (.str (Str.ofString "anti")) [.str (Str.ofString "table"), .str (Str.ofString "step")] else inV (.str (Str.ofString "anti")) [.str (Str.ofString "table"), .str (Str.ofString "step")]) = true by decide +kernel)) (fun _ => ?_)
      have hpa := SqT.ext s1 hpa
      have hra := s1 _ _ hra
      refine ⟨_, rfl, rfl, _, rfl, ?_⟩
      rw [wne "anti" "union" (by decide +kernel)]
      refine iteF ?_
      refine ⟨_, rfl, rfl, _, rfl, ?_⟩
      rw [wne "anti" "minus" (by decide +kernel)]
      refine iteF ?_
      refine ⟨_, rfl, rfl, _, rfl, ?_⟩
      rw [wne "anti" "join" (by decide +kernel)]
      refine iteF ?_
      refine ⟨_, rfl, rfl, _, rfl, ?_⟩
      rw [wne "anti" "group" (by decide +kernel)]
      exact iteT ⟨_, rfl, _, rfl, pa, _, _, _, rfl, rfl, hpa, atI_nat (j := 2) rfl, ra, _, _, _, rfl, rfl, .of hra, natL_atD hq, q H1 s1⟩
    | grp ks ts qi =>
      have dp : Dp K H x (.tuple [.str (Str.ofString "group"), .list (ks.map Ep.d), .list (ts.map Fm.d), nI qi]) := dp
      obtain ⟨pa, xs, rfl, hpa, dxs⟩ := dp_tup dp
      obtain ⟨xa, xb, xc, rfl, da, db, dc⟩ := dp_four dxs
      obtain rfl := dp_nat dc
      obtain ⟨tta, txs, rfl, htt, dtt⟩ := dpl_get db
      have ltx : txs.length = ts.length := by rw [DpAll.len dtt, List.length_map]
      have hq : qi < rs.length := hop qi List.mem_cons_self
      refine ⟨_, rfl, pa, _, _, _, rfl, rfl, hpa, atI_nat (j := 0) rfl, ?_⟩
      refine ⟨_, rfl, (by show 2 ≤ sizeLine; decide), fun t nt => ⟨t, _, rfl, .inr (.inl (.inl upd_same)), rfl, rfl, _, rfl, ?_⟩⟩
      have s1 := same_upd nt (o := .tup [.str (Str.ofString "table"), .str (Str.ofString "step")])
      generalize upd H t (.tup [.str (Str.ofString "table"), .str (Str.ofString "step")]) = H1 at s1 ⊢
      refine ite2 (fun g => absurd g (show ¬ (if false = true then !inV (.str (Str.ofString "group")) [.str (Str.ofString "table"), .str (Str.ofString "step")] else inV (.str (Str.ofString "group")) [.str (Str.ofString "table"), .str (Str.ofString "step")]) = true by decide +kernel)) (fun _ => ?_)
      have hpa := SqT.ext s1 hpa
      have hra := s1 _ _ hra
      refine ⟨_, rfl, rfl, _, rfl, ?_⟩
      rw [wne "group" "union" (by decide +kernel)]
      refine iteF ?_
      refine ⟨_, rfl, rfl, _, rfl, ?_⟩
      rw [wne "group" "minus" (by decide +kernel)]
      refine iteF ?_
      refine ⟨_, rfl, rfl, _, rfl, ?_⟩
      rw [wne "group" "join" (by decide +kernel)]
      refine iteF ?_
      refine ⟨_, rfl, rfl, _, rfl, ?_⟩
      rw [weq]
      refine iteF ⟨_, rfl, _, rfl, pa, _, _, _, rfl, rfl, hpa, atI_nat (j := 3) rfl, ra, _, _, _, rfl, rfl, .of hra, natL_atD hq, ?_⟩
      have hb := getD_le hrs qi
      have hc0 : (txs.isEmpty = true) ↔ ts = [] := by
        rw [List.isEmpty_iff, ← List.length_eq_zero_iff, ltx, List.length_eq_zero_iff]
      have l2 : ts.length ≤ 2 := hsm.2.2.2.1
      refine ⟨_, rfl, pa, _, _, _, rfl, rfl, hpa, atI_nat (j := 2) rfl, _, .inl ⟨txs, SqL.same s1 htt, rfl⟩, ite2 (fun gc => ?a1) (fun gc => ?a2)⟩
      case' a1 =>
        have hv : V.int (1 + 2 * ((rs.getD qi 0 : Nat) : Int)) = V.int (((if ts = [] then 1 + 2 * rs.getD qi 0 else 2) : Nat) : Int) := by
          rw [Bool.not_not] at gc
          rw [if_pos (hc0.mp gc)]
          rfl
        refine ⟨_, rfl, _, _, rfl, rfl, .inl ⟨by decide, by decide⟩, _, _, rfl, rfl, ?_⟩
      case' a2 =>
        have hv : V.int 2 = V.int (((if ts = [] then 1 + 2 * rs.getD qi 0 else 2) : Nat) : Int) := by
          rw [Bool.not_not] at gc
          rw [if_neg (fun z => gc (hc0.mpr z))]
          rfl
      all_goals
        refine ⟨_, rfl, pa, _, _, _, rfl, rfl, hpa, atI_nat (j := 2) rfl, tta, rfl, ⟨_, SqL.same s1 htt⟩, ?_⟩
        refine for_list (K := K) (a := tta) (xs := txs) (fun j σ Hj => Same H1 Hj ∧ ∃ z4 z5, z4 = V.int (((ts.take j).foldl (roomF (rs.getD qi 0)) (if ts = [] then 1 + 2 * rs.getD qi 0 else 2) : Nat) : Int) ∧ σ = [some (.ref pa), some (.ref ra), some (.str (Str.ofString "group")), some (.int ((rs.getD qi 0 : Nat) : Int)), some z4, z5]) ⟨fun _ _ h => h, _, _, hv, rfl⟩ (fun j σ Hj _ hp => SqL.same (s1.trans hp.1) htt) (fun j y σ Hj hy hp => ?_) (fun σ Hn hp => ?_)
        · obtain ⟨sj, z4, z5, ez, rfl⟩ := hp
          subst ez
          have hj : j < ts.length := by rw [← ltx]; exact (List.getElem?_eq_some_iff.mp hy).1
          obtain ⟨y', hy', dy⟩ := DpAll.get dtt (show (ts.map Fm.d)[j]? = some (ts[j]).d by rw [List.getElem?_map, List.getElem?_eq_getElem hj]; rfl)
          obtain rfl : y = y' := Option.some.inj (hy.symm.trans hy')
          have dy := Dp.ext (s1.trans sj) _ _ dy
          have efold : (ts.take (j + 1)).foldl (roomF (rs.getD qi 0)) (if ts = [] then 1 + 2 * rs.getD qi 0 else 2) = roomF (rs.getD qi 0) ((ts.take j).foldl (roomF (rs.getD qi 0)) (if ts = [] then 1 + 2 * rs.getD qi 0 else 2)) ts[j] := by
            rw [List.take_add_one, List.getElem?_eq_getElem hj, List.foldl_append]
            rfl
          rw [efold]
          generalize (ts.take j).foldl (roomF (rs.getD qi 0)) (if ts = [] then 1 + 2 * rs.getD qi 0 else 2) = acc
          obtain ⟨fp, fxs, wdt, rfl, hfp, hat, hor⟩ : ∃ (fp : Addr) (fxs : List V) (wdt : String), y = .ref fp ∧ SqT K Hj fp fxs ∧ atI fxs ((0 : Nat) : Int) = some (.str (Str.ofString wdt)) ∧ ((wdt = "sum" ∧ roomF (rs.getD qi 0) acc ts[j] = acc * 2 ^ Nat.min (rs.getD qi 0) 20) ∨ ((Str.ofString wdt == Str.ofString "sum") = false ∧ roomF (rs.getD qi 0) acc ts[j] = acc * (1 + rs.getD qi 0))) := by
            generalize ts[j] = t at dy
            cases t with
            | cnt =>
              obtain ⟨fp, fxs, rfl, hfp, dfx⟩ := dp_tup dy
              cases dfx with
              | cons h1 h2 =>
                cases h1
                exact ⟨fp, _, "count", rfl, hfp, atI_nat (j := 0) rfl, .inr ⟨by decide +kernel, rfl⟩⟩
            | ex o e =>
              obtain ⟨fp, fxs, rfl, hfp, dfx⟩ := dp_tup dy
              obtain ⟨u, rfl, _⟩ := dp_two dfx
              cases o with
              | sum => exact ⟨fp, _, "sum", rfl, hfp, rfl, .inl ⟨rfl, rfl⟩⟩
              | dis => exact ⟨fp, _, _, rfl, hfp, rfl, .inr ⟨by decide +kernel, rfl⟩⟩
              | lea => exact ⟨fp, _, _, rfl, hfp, rfl, .inr ⟨by decide +kernel, rfl⟩⟩
              | gre => exact ⟨fp, _, _, rfl, hfp, rfl, .inr ⟨by decide +kernel, rfl⟩⟩
          refine ⟨_, rfl, _, rfl, fp, _, _, _, rfl, rfl, hfp, hat, rfl, _, rfl, ?_⟩
          rcases hor with ⟨rfl, er⟩ | ⟨hne, er⟩
          · rw [weq]
            have hmin : (if (20 : Int) < ((rs.getD qi 0 : Nat) : Int) then 20 else ((rs.getD qi 0 : Nat) : Int)).toNat = Nat.min (rs.getD qi 0) 20 := by
              by_cases h20 : 20 < rs.getD qi 0
              · rw [if_pos (by omega), show Nat.min (rs.getD qi 0) 20 = 20 from Nat.min_eq_right (by omega)]
                rfl
              · rw [if_neg (by omega), show Nat.min (rs.getD qi 0) 20 = rs.getD qi 0 from Nat.min_eq_left (by omega)]
                exact Int.toNat_natCast _
            have hm20 : Nat.min (rs.getD qi 0) 20 ≤ 20 := Nat.min_le_right _ _
            have hp20 : (2 : Nat) ^ Nat.min (rs.getD qi 0) 20 ≤ 2 ^ 20 := Nat.pow_le_pow_right (by decide) hm20
            have epow : (1 : Int) * 2 ^ (if (20 : Int) < ((rs.getD qi 0 : Nat) : Int) then 20 else ((rs.getD qi 0 : Nat) : Int)).toNat = ((2 ^ Nat.min (rs.getD qi 0) 20 : Nat) : Int) := by
              rw [hmin, Int.one_mul, Int.natCast_pow]
              rfl
            refine iteT ⟨_, rfl, _, _, rfl, _, _, rfl, rfl, ⟨?_, ?_, by decide⟩, _, _, rfl, rfl, .inr ?_, sj, _, _, ?_, rfl⟩
            · split <;> omega
            · split <;> omega
            · have h20 : ((2 ^ Nat.min (rs.getD qi 0) 20 : Nat) : Int) ≤ ((2 ^ 20 : Nat) : Int) := Int.ofNat_le.mpr hp20
              have hb : -2 ^ 64 < ((2 ^ Nat.min (rs.getD qi 0) 20 : Nat) : Int) ∧ ((2 ^ Nat.min (rs.getD qi 0) 20 : Nat) : Int) < 2 ^ 64 := ⟨Int.lt_of_lt_of_le (by decide) (Int.natCast_nonneg _), Int.lt_of_le_of_lt h20 (by decide)⟩
              rw [← epow] at hb
              exact hb
            · rw [epow, er, Int.natCast_mul]
          · rw [wne _ _ hne]
            refine iteF ⟨_, rfl, _, _, rfl, rfl, _, _, rfl, rfl, .inr ⟨by omega, by omega⟩, sj, _, _, ?_, rfl⟩
            rw [er, Int.natCast_mul, Int.natCast_add]
            rfl
        · obtain ⟨sn, z4, z5, ez, rfl⟩ := hp
          subst ez
          rw [ltx, List.take_of_length_le (Nat.le_refl _)]
          exact ⟨_, rfl, q Hn (s1.trans sn)⟩
theorem ok_lpl {f : Addr} {fd : FuncData} (F : Fun K "_law_plan" "_law_plan" s__law_plan f fd) (M : Mg mg) (c__law_next : Cl P w K mg base 1 "_law_next" sp_next) (c__law_operation : Cl P w K mg base 9 "_law_operation" (sp_lop K)) (c__law_room : Cl P w K mg base 1 "_law_room" (sp_lroom K)) : FnOk P w K mg base CX0 10 f fd ["draw", "widths", "steps", "most"] (sp_lpl K) := by
  refine F.ok sc__law_plan (fun vs H Q E h => ?_) (fun cdv A outer s H vs Q E hr h => ?_)
  · obtain ⟨d, c, wa, sa, ws, ss, rfl, _⟩ := h
    rfl
  · obtain ⟨d, c, wa, sa, ws, ss, rfl, dr, nwa, nsa, hwa, hsa, okw, oks, wne', lw, ls, q⟩ := h
    refine ⟨_, (pss_cons (ps_set (i := 4) sc__law_plan.nd rfl (.inl rfl) (pe_lst pa_nil))
      (pss_cons (ps_set (i := 5) sc__law_plan.nd rfl (.inl rfl) (pe_lst pa_nil))
      (pss_cons (ps_set (i := 6) sc__law_plan.nd rfl (.inl rfl) (pe_lst pa_nil))
      (pss_cons (ps_set (i := 7) sc__law_plan.nd rfl (.inl rfl) (pe_op op_add pe_int (pe_u c__law_next hr (by first | decide | omega) (by rfl) (pa_cons (pv 0) (pa_cons (pv 3) pa_nil)))))
      (pss_cons (ps_for PassesOwn.never rfl (pi_range1 (by rfl) M.range (pa_cons (pv 7) pa_nil)) (pg_name (i := 8) sc__law_plan.nd rfl (.inl rfl)) (pss_cons (ps_asg (pe_u c__law_operation hr (by first | decide | omega) (by rfl) (pa_cons (pv 0) (pa_cons (pv 5) (pa_cons (pv 1) (pa_cons (pv 2) pa_nil))))) (pg_tup (by rfl) (pgs_cons (pg_name (i := 9) sc__law_plan.nd rfl (.inl rfl)) (pgs_cons (pg_name (i := 10) sc__law_plan.nd rfl (.inl rfl)) pgs_nil))))
      (pss_cons (ps_if (pt_cmpR op_gt (pe_u c__law_room hr (by first | decide | omega) (by rfl) (pa_cons (pv 9) (pa_cons (pv 6) pa_nil))) (pe_ifExp (pt_cmpR op_lt (pv 8) (pe_op op_sub (pv 7) pe_int) (nomark _)) pe_int pe_int) (nomark _)) (pss_one (ps_par (i := 9) (j := 10) rfl sc__law_plan.nd rfl rfl (by decide) rfl rfl (pa_cons (pe_tup (pa_cons pe_str (pa_cons pe_int pa_nil))) (pa_cons (pe_ix (ix_listK K) (pv 1) pe_int (fun _ _ => rfl)) pa_nil)) (by rfl))) pss_nil)
      (pss_cons (ps_expr (pe_bmK K PySem.F.plainAttrs_list PySem.F.slot_list_append PySem.F.type_list_append mt_append (pv 4) (pa_cons (pv 9) pa_nil)))
      (pss_cons (ps_expr (pe_bmK K PySem.F.plainAttrs_list PySem.F.slot_list_append PySem.F.type_list_append mt_append (pv 5) (pa_cons (pv 10) pa_nil)))
      (pss_one (ps_expr (pe_bmK K PySem.F.plainAttrs_list PySem.F.slot_list_append PySem.F.type_list_append mt_append (pv 6) (pa_cons (pe_u c__law_room hr (by first | decide | omega) (by rfl) (pa_cons (pv 9) (pa_cons (pv 6) pa_nil))) pa_nil)))))))))
      (pss_one (ps_ret (pe_tup (pa_cons (pv 4) (pa_cons (pe_ix (ix_listK K) (pv 5) (pe_un un_neg pe_int) (fun _ _ => rfl)) pa_nil)))))))))), ?_⟩
    refine ⟨Nat.zero_le _, fun PL nPL => ⟨Nat.zero_le _, fun SZ nSZ => ⟨Nat.zero_le _, fun RM nRM => ?_⟩⟩⟩
    have sP := same_upd nPL (o := .lst [])
    have sS := same_upd nSZ (o := .lst [])
    have sR := same_upd nRM (o := .lst [])
    have eS1 := upd_same (H := upd H PL (.lst [])) (a := SZ) (o := .lst [])
    have eP3 := sR _ _ (sS _ _ (upd_same (H := H) (a := PL) (o := .lst [])))
    have eS3 := sR _ _ eS1
    have eR3 := upd_same (H := upd (upd H PL (.lst [])) SZ (.lst [])) (a := RM) (o := .lst [])
    have nPS : PL ≠ SZ := fun z => by rw [← z, upd_same] at nSZ; cases nSZ
    have nPR : PL ≠ RM := fun z => by rw [← z, sS _ _ upd_same] at nRM; cases nRM
    have nSR : SZ ≠ RM := fun z => by rw [← z, upd_same] at nRM; cases nRM
    have s03 := (sP.trans sS).trans sR
    have nSZ0 := sP.free nSZ
    have nRM0 := sP.free (sS.free nRM)
    have nPd := dr.nd nPL
    have nPc := dr.nc nPL
    have nSd := dr.nd nSZ0
    have nSc := dr.nc nSZ0
    have nRd := dr.nd nRM0
    have nRc := dr.nc nRM0
    have dr3 := dr.ext s03
    generalize upd (upd (upd H PL (.lst [])) SZ (.lst [])) RM (.lst []) = H3 at s03 eP3 eS3 eR3 dr3 ⊢
    clear nSZ nRM sP sS sR eS1
    refine ⟨_, rfl, _, rfl, d, c, 7, rfl, dr3, by decide, by decide, fun H4 n f4 _ dr4 n0 n1 => ⟨_, _, rfl, rfl, ?_⟩⟩
    obtain ⟨m, rfl⟩ := Int.eq_ofNat_of_zero_le n0
    have f04 := (Fd.of s03).trans f4
    refine ⟨_, rfl, _, rfl, by omega, by omega, ?_⟩
    have hokopn : ∀ {o : Op} {zs : List Nat} {v : Nat}, o.okW ws ss zs v → ∀ i ∈ o.opn, i < zs.length := fun {o zs v} ho i hi => by
      have lt : ∀ {i v : Nat}, zs[i]? = some v → i < zs.length := fun h => (List.getElem?_eq_some_iff.mp h).1
      cases o with
      | tab j => cases hi
      | stp j => cases hi
      | fil e q => rw [List.mem_singleton.mp hi]; exact lt ho.1
      | map es q => rw [List.mem_singleton.mp hi]; exact lt ho.2.choose_spec.1
      | joi e q r =>
        obtain ⟨a, b, h1, h2, _⟩ := ho
        rcases List.mem_cons.mp hi with rfl | hi
        · exact lt h1
        · rw [List.mem_singleton.mp hi]; exact lt h2
      | uni q r =>
        rcases List.mem_cons.mp hi with rfl | hi
        · exact lt ho.1
        · rw [List.mem_singleton.mp hi]; exact lt ho.2
      | min q r =>
        rcases List.mem_cons.mp hi with rfl | hi
        · exact lt ho.1
        · rw [List.mem_singleton.mp hi]; exact lt ho.2
      | ant e q r =>
        obtain ⟨h1, b, h2, _⟩ := ho
        rcases List.mem_cons.mp hi with rfl | hi
        · exact lt h1
        · rw [List.mem_singleton.mp hi]; exact lt h2
      | grp ks ts q => rw [List.mem_singleton.mp hi]; exact lt ho.2.choose_spec.1
    refine for_range (lo := 0) (n := (1 + ((m : Nat) : Int)).toNat) (fun j σ Hj => (Fd d H Hj ∧ Dr Hj d c ∧ ∃ (ops : List Op) (us : List V) (wz rooms : List Nat), Hj PL = some (.lst us) ∧ Hj SZ = some (.lst (natL wz)) ∧ Hj RM = some (.lst (natL rooms)) ∧ DpLs (fun a => (a ≠ d ∧ H a = none) ∧ a ≠ PL ∧ a ≠ SZ ∧ a ≠ RM) K Hj us (ops.map Op.d) ∧ ops.length = j ∧ wz.length = j ∧ (∀ (i : Nat) (o : Op) (w : Nat), ops[i]? = some o → wz[i]? = some w → o.okW ws ss (wz.take i) w ∧ 1 ≤ w ∧ w ≤ 4) ∧ RmOk ops rooms ∧ ∀ o ∈ ops, o.sm) ∧ ∃ z8 z9 z10, σ = [some (.ref d), some (.ref wa), some (.ref sa), some (.int 7), some (.ref PL), some (.ref SZ), some (.ref RM), some (.int (1 + ((m : Nat) : Int))), z8, z9, z10]) ⟨⟨f04, dr4, [], [], [], [], f4 _ _ nPd eP3, f4 _ _ nSd eS3, f4 _ _ nRd eR3, .nil, rfl, rfl, fun i o w h => by simp at h, ⟨rfl, fun i o h => by simp at h⟩, fun _ h => by cases h⟩, _, _, _, rfl⟩ (fun j σ Hj hj hp => ?_) (fun σ Hn hp => ?_)
    · obtain ⟨⟨fj, drj, ops, us, wz, rooms, eP, eS, eR, hds, lops, lwz, hok, hrm, hsm⟩, z8, z9, z10, rfl⟩ := hp
      have lus : us.length = j := by rw [DpLs.len hds, List.length_map, lops]
      have lrm : rooms.length = j := by rw [hrm.1, lops]
      have okz : ∀ v ∈ wz, 1 ≤ v ∧ v ≤ 4 := fun v hv => by
        obtain ⟨i, hi⟩ := List.mem_iff_getElem?.mp hv
        have hil := (List.getElem?_eq_some_iff.mp hi).1
        exact (hok i _ v (List.getElem?_eq_getElem (by omega)) hi).2
      have r300 : ∀ r ∈ rooms, r ≤ 300 := fun r hr => by
        obtain ⟨i, hi⟩ := List.mem_iff_getElem?.mp hr
        have hil := (List.getElem?_eq_some_iff.mp hi).1
        obtain ⟨h1, h2⟩ := hrm.2 i _ (List.getElem?_eq_getElem (by omega))
        rw [hi] at h1
        rw [Option.some.inj h1]
        exact h2
      refine ⟨_, rfl, _, rfl, _, rfl, _, rfl, d, c, SZ, wa, sa, wz, ws, ss, rfl, drj, nSd, nwa, nsa, eS, fj _ _ nwa hwa, fj _ _ nsa hsa, okz, okw, oks, wne', by omega, lw, ls, fun H5 p x o w f5 dr5 ep hx how w1 w4 osm => ?_⟩
      refine ⟨p, _, rfl, .of ep, rfl, _, _, rfl, _, _, rfl, rfl, ?_⟩
      have eP5 := f5 _ _ nPd eP
      have eS5 := f5 _ _ nSd eS
      have eR5 := f5 _ _ nRd eR
      have hdp := DpL.dp _ _ hx
      have hx5 : DpL (fun a => (a ≠ d ∧ H a = none) ∧ a ≠ PL ∧ a ≠ SZ ∧ a ≠ RM) K H5 x o.d := DpL.wide (fun a _ _ g => ⟨⟨g.1, fd_none fj g.1 g.2⟩, (fun z => by have g2 := g.2; rw [z, eP] at g2; cases g2), (fun z => by have g2 := g.2; rw [z, eS] at g2; cases g2), (fun z => by have g2 := g.2; rw [z, eR] at g2; cases g2)⟩) _ _ hx
      have hds5 := DpLs.chg (Chg.fdl drj.lst (fun z => z.1.1 rfl) f5) _ _ hds
      refine ⟨_, rfl, _, rfl, x, RM, o, rooms, rfl, hdp, eR5, r300, fun i hi => by have := hokopn how i hi; omega, osm, fun H6 s6 => ?_⟩
      have app : ∀ (D0 : Ends) (H7 : Hp) (x' : V) (o' : Op) (w' : Nat), Same H5 H7 → DpL (fun a => (a ≠ d ∧ H a = none) ∧ a ≠ PL ∧ a ≠ SZ ∧ a ≠ RM) K H7 x' o'.d → o'.okW ws ss wz w' → 1 ≤ w' → w' ≤ 4 → o'.sm → roomR rooms o' ≤ 300 → (∀ (σ : L2.St) (H8 : Hp), (Fd d H H8 ∧ Dr H8 d c ∧ ∃ (ops : List Op) (us : List V) (wz rooms : List Nat), H8 PL = some (.lst us) ∧ H8 SZ = some (.lst (natL wz)) ∧ H8 RM = some (.lst (natL rooms)) ∧ DpLs (fun a => (a ≠ d ∧ H a = none) ∧ a ≠ PL ∧ a ≠ SZ ∧ a ≠ RM) K H8 us (ops.map Op.d) ∧ ops.length = j + 1 ∧ wz.length = j + 1 ∧ (∀ (i : Nat) (o : Op) (w : Nat), ops[i]? = some o → wz[i]? = some w → o.okW ws ss (wz.take i) w ∧ 1 ≤ w ∧ w ≤ 4) ∧ RmOk ops rooms ∧ ∀ o ∈ ops, o.sm) ∧ (∃ z8 z9 z10, σ = [some (.ref d), some (.ref wa), some (.ref sa), some (.int 7), some (.ref PL), some (.ref SZ), some (.ref RM), some (.int (1 + ((m : Nat) : Int))), z8, z9, z10]) → D0.nx σ H8) → tSeq (tDrop (tBM K "list" rAppend (tVar 4) (tCons (tVar 9) tNil))) (tSeq (tDrop (tBM K "list" rAppend (tVar 5) (tCons (tVar 10) tNil))) (tDrop (tBM K "list" rAppend (tVar 6) (tCons (tCall (sp_lroom K) [] E0 (tCons (tVar 9) (tCons (tVar 6) tNil))) tNil)))) D0 [some (.ref d), some (.ref wa), some (.ref sa), some (.int 7), some (.ref PL), some (.ref SZ), some (.ref RM), some (.int (1 + ((m : Nat) : Int))), some (.int (0 + ((j : Nat) : Int))), some x', some (.int ((w' : Nat) : Int))] H7 := fun D0 H7 x' o' w' s7 hx7 how' w1' w4' osm' hr7 fin => by
        have eP7 := s7 _ _ eP5
        have eS7 := s7 _ _ eS5
        have eR7 := s7 _ _ eR5
        have f07 := (fj.trans f5).trans (.of s7)
        have dr7 := dr5.ext s7
        have hds7 := DpLs.chg (Chg.of s7) _ _ hds5
        refine ⟨_, rfl, .inl ⟨rfl, _, .of eP7⟩, _, rfl, PL, _, _, rfl, rfl, eP7, small1 (by omega), ?_⟩
        have eP8 := upd_same (H := H7) (a := PL) (o := .lst (us ++ [x']))
        have eS8 : upd H7 PL (.lst (us ++ [x'])) SZ = some (.lst (natL wz)) := by rw [upd_ne (Ne.symm nPS)]; exact eS7
        have eR8 : upd H7 PL (.lst (us ++ [x'])) RM = some (.lst (natL rooms)) := by rw [upd_ne (Ne.symm nPR)]; exact eR7
        have hds8 := DpLs.chg (Chg.at eP7 (fun z => z.2.1 rfl) (o := .lst (us ++ [x']))) _ _ (DpLs.snoc hds7 hx7)
        have hx8 := DpL.chg (Chg.at eP7 (fun z => z.2.1 rfl) (o := .lst (us ++ [x']))) _ _ hx7
        have f08 : Fd d H (upd H7 PL (.lst (us ++ [x']))) := fun b o n e => by rw [upd_ne (ne_of_none e nPL)]; exact f07 _ _ n e
        have dr8 := dr7.upd nPd nPc (o := .lst (us ++ [x']))
        generalize upd H7 PL (.lst (us ++ [x'])) = H8 at eP8 eS8 eR8 hds8 hx8 f08 dr8 ⊢
        refine ⟨_, rfl, .inl ⟨rfl, _, .of eS8⟩, _, rfl, SZ, _, _, rfl, rfl, eS8, by rw [natL_len]; exact small1 (by omega), ?_⟩
        have ez : natL wz ++ [.int ((w' : Nat) : Int)] = natL (wz ++ [w']) := by unfold natL; rw [List.map_append]; rfl
        rw [ez]
        have eS9 := upd_same (H := H8) (a := SZ) (o := .lst (natL (wz ++ [w'])))
        have eP9 : upd H8 SZ (.lst (natL (wz ++ [w']))) PL = some (.lst (us ++ [x'])) := by rw [upd_ne nPS]; exact eP8
        have eR9 : upd H8 SZ (.lst (natL (wz ++ [w']))) RM = some (.lst (natL rooms)) := by rw [upd_ne (Ne.symm nSR)]; exact eR8
        have hds9 := DpLs.chg (Chg.at eS8 (fun z => z.2.2.1 rfl) (o := .lst (natL (wz ++ [w'])))) _ _ hds8
        have hx9 := DpL.chg (Chg.at eS8 (fun z => z.2.2.1 rfl) (o := .lst (natL (wz ++ [w'])))) _ _ hx8
        have f09 : Fd d H (upd H8 SZ (.lst (natL (wz ++ [w'])))) := fun b o n e => by rw [upd_ne (ne_of_none e nSZ0)]; exact f08 _ _ n e
        have dr9 := dr8.upd nSd nSc (o := .lst (natL (wz ++ [w'])))
        generalize upd H8 SZ (.lst (natL (wz ++ [w']))) = H9 at eP9 eS9 eR9 hds9 hx9 f09 dr9 ⊢
        refine ⟨_, rfl, .inl ⟨rfl, _, .of eR9⟩, ?_⟩
        refine ⟨_, rfl, _, rfl, x', RM, o', rooms, rfl, DpL.dp _ _ hx9, eR9, r300, fun i hi => by have := hokopn how' i hi; omega, osm', fun HA sA => ?_⟩
        have eRA := sA _ _ eR9
        refine ⟨RM, _, _, rfl, rfl, eRA, by rw [natL_len]; exact small1 (by omega), ?_⟩
        have er : natL rooms ++ [.int ((roomR rooms o' : Nat) : Int)] = natL (rooms ++ [roomR rooms o']) := by unfold natL; rw [List.map_append]; rfl
        rw [er]
        refine fin _ _ ⟨⟨fun b o n e => by rw [upd_ne (ne_of_none e nRM0)]; exact sA _ _ (f09 _ _ n e), (dr9.ext sA).upd nRd nRc, ops ++ [o'], us ++ [x'], wz ++ [w'], rooms ++ [roomR rooms o'], by rw [upd_ne nPR]; exact sA _ _ eP9, by rw [upd_ne nSR]; exact sA _ _ eS9, upd_same, ?_, by rw [List.length_append, lops]; rfl, by rw [List.length_append, lwz]; rfl, fun i o w h1 h2 => ?_, ⟨by rw [List.length_append, List.length_append, hrm.1]; rfl, fun i o h1 => ?_⟩, fun o ho => ?_⟩, ⟨_, _, _, rfl⟩⟩
        · rw [List.map_append]
          exact DpLs.chg (Chg.at eRA (fun z => z.2.2.2 rfl)) _ _ (DpLs.chg (Chg.of sA) _ _ hds9)
        · by_cases e : i < j
          · rw [List.getElem?_append_left (by omega)] at h1 h2
            rw [List.take_append_of_le_length (by omega)]
            exact hok i o w h1 h2
          · rw [List.getElem?_append_right (by omega)] at h1 h2
            have e2 : i - j = 0 := by
              have := (List.getElem?_eq_some_iff.mp h1).1
              rw [List.length_singleton, lops] at this
              omega
            rw [lops, e2] at h1
            rw [lwz, e2] at h2
            obtain rfl := Option.some.inj h1
            obtain rfl := Option.some.inj h2
            have ei : i = wz.length := by omega
            rw [ei, List.take_left]
            exact ⟨how', w1', w4'⟩
        · by_cases e : i < j
          · rw [List.getElem?_append_left (by omega)] at h1
            rw [List.getElem?_append_left (by omega), List.take_append_of_le_length (by omega)]
            exact hrm.2 i o h1
          · rw [List.getElem?_append_right (by omega)] at h1
            have e2 : i - j = 0 := by
              have := (List.getElem?_eq_some_iff.mp h1).1
              rw [List.length_singleton, lops] at this
              omega
            rw [lops, e2] at h1
            obtain rfl := Option.some.inj h1
            have ei : i = rooms.length := by omega
            rw [ei, List.take_left, List.getElem?_append_right (Nat.le_refl _), Nat.sub_self]
            exact ⟨rfl, hr7⟩
        · rcases List.mem_append.mp ho with ho | ho
          · exact hsm o ho
          · rw [List.mem_singleton.mp ho]
            exact osm'
      have hws0 : 0 < ws.length := List.length_pos_iff.mpr wne'
      refine ⟨_, rfl, _, rfl, _, _, rfl, rfl, _, _, rfl, rfl, _, rfl, ite2 (fun _ => ⟨_, _, rfl, rfl, _, rfl, ite2 (fun g => ?p1) (fun g => ?p2)⟩) (fun _ => ⟨_, _, rfl, rfl, _, rfl, ite2 (fun g => ?p3) (fun g => ?p4)⟩)⟩
      case p2 =>
        refine app _ H6 x o w s6 (DpL.chg (Chg.of s6) _ _ hx5) how w1 w4 osm ?_ (fun σ H8 h => h)
        have g : ¬ (300 < ((roomR rooms o : Nat) : Int)) := fun z => g (decide_eq_true z)
        omega
      case p4 =>
        refine app _ H6 x o w s6 (DpL.chg (Chg.of s6) _ _ hx5) how w1 w4 osm ?_ (fun σ H8 h => h)
        have g : ¬ (130 < ((roomR rooms o : Nat) : Int)) := fun z => g (decide_eq_true z)
        omega
      all_goals
        refine ⟨(by show 2 ≤ sizeLine; decide), fun T nT => ?_⟩
        have sT := same_upd nT (o := .tup [.str (Str.ofString "table"), .int 0])
        have hwaT := sT _ _ (s6 _ _ (f5 _ _ nwa (fj _ _ nwa hwa)))
        refine ⟨_, rfl, wa, _, _, _, rfl, rfl, .of hwaT, natL_at (i := 0) hws0, _, _, rfl, ?_⟩
        exact app _ _ (.ref T) (.tab 0) ws[0] (s6.trans sT) (.tup (.inl (.inl upd_same)) (.cons (.str _) (.cons (.int _) .nil))) (List.getElem?_eq_getElem hws0) (okw _ (List.getElem_mem hws0)).1 (okw _ (List.getElem_mem hws0)).2 (show 0 ≤ 100 by omega) (show 6 ≤ 300 by omega) (fun σ H8 h => h)
    · obtain ⟨⟨fn, drn, ops, us, wz, rooms, eP, eS, eR, hds, lops, lwz, hok, hrm, hsm⟩, z8, z9, z10, rfl⟩ := hp
      have lo : 1 ≤ ops.length ∧ ops.length ≤ 7 := by omega
      have hwne : wz ≠ [] := fun z => by rw [z] at lwz; simp at lwz; omega
      obtain ⟨wi, wl, rfl⟩ : ∃ wi wl, wz = wi ++ [wl] := ⟨wz.dropLast, wz.getLast hwne, (List.dropLast_concat_getLast hwne).symm⟩
      have ez : natL (wi ++ [wl]) = natL wi ++ [.int ((wl : Nat) : Int)] := by unfold natL; rw [List.map_append]; rfl
      rw [ez] at eS
      refine ⟨_, rfl, _, rfl, 1, rfl, SZ, _, _, _, rfl, rfl, .of eS, atI_last _ _, (by show 2 ≤ sizeLine; decide), fun T nT => ?_⟩
      have sT := same_upd nT (o := .tup [.ref PL, .int ((wl : Nat) : Int)])
      refine q _ T (.ref PL) _ ops (wi ++ [wl]) rooms (fn.trans (.of sT)) (drn.ext sT) upd_same (.lst ⟨nPd, nPL⟩ (sT _ _ eP) (DpLs.chg (Chg.of sT) _ _ (DpLs.wide (fun _ _ _ z => z.1) _ _ hds))) (fun z => by rw [z] at lo; simp at lo) lo.2 (by rw [lwz, lops]) hok hrm hsm
end

/-! ### data that repr shows: how long, how deep -/
structure Shw (d : PyData) (b k : Nat) : Prop where
  sh : d.showable = true
  nd : d.hasDict = false
  lf : d.leavesShort 32 = true
  bk : d.bulk ≤ b
  dp : d.depth ≤ k
structure ShwA (ds : List PyData) (b k : Nat) : Prop where
  sh : PyData.showableAll ds = true
  nd : PyData.hasDictAll ds = false
  lf : PyData.leavesShortAll 32 ds = true
  bk : PyData.bulkAll ds ≤ b
  dp : PyData.depthAll ds ≤ k
theorem ShwA.nil {k : Nat} : ShwA [] 0 k := ⟨rfl, rfl, rfl, Nat.le_refl _, Nat.zero_le _⟩
theorem ShwA.cons {d : PyData} {ds : List PyData} {b c k : Nat} (h : Shw d b k) (g : ShwA ds c k) : ShwA (d :: ds) (b + 1 + c) k := by
  refine ⟨?_, ?_, ?_, ?_, ?_⟩
  · unfold PyData.showableAll
    rw [h.sh, g.sh]
    rfl
  · unfold PyData.hasDictAll
    rw [h.nd, g.nd]
    rfl
  · unfold PyData.leavesShortAll
    rw [h.lf, g.lf]
    rfl
  · unfold PyData.bulkAll
    have := h.bk
    have := g.bk
    omega
  · unfold PyData.depthAll
    exact Nat.max_le.mpr ⟨h.dp, g.dp⟩
theorem ShwA.tup {ds : List PyData} {b k : Nat} (h : ShwA ds b k) : Shw (.tuple ds) b (k + 1) := by
  refine ⟨?_, ?_, ?_, ?_, ?_⟩
  · unfold PyData.showable
    exact h.sh
  · unfold PyData.hasDict
    exact h.nd
  · unfold PyData.leavesShort
    exact h.lf
  · unfold PyData.bulk
    exact h.bk
  · unfold PyData.depth
    have := h.dp
    omega
theorem ShwA.lst {ds : List PyData} {b k : Nat} (h : ShwA ds b k) : Shw (.list ds) b (k + 1) := by
  refine ⟨?_, ?_, ?_, ?_, ?_⟩
  · unfold PyData.showable
    exact h.sh
  · unfold PyData.hasDict
    exact h.nd
  · unfold PyData.leavesShort
    exact h.lf
  · unfold PyData.bulk
    exact h.bk
  · unfold PyData.depth
    have := h.dp
    omega
theorem Shw.le {d : PyData} {b k b' k' : Nat} (h : Shw d b k) (hb : b ≤ b') (hk : k ≤ k') : Shw d b' k' := ⟨h.sh, h.nd, h.lf, Nat.le_trans h.bk hb, Nat.le_trans h.dp hk⟩
theorem ShwA.le {d : List PyData} {b k b' k' : Nat} (h : ShwA d b k) (hb : b ≤ b') (hk : k ≤ k') : ShwA d b' k' := ⟨h.sh, h.nd, h.lf, Nat.le_trans h.bk hb, Nat.le_trans h.dp hk⟩
theorem ShwA.all {b k : Nat} : ∀ {ds : List PyData}, (∀ d ∈ ds, Shw d b k) → ShwA ds (ds.length * (b + 1)) k
  | [], _ => ⟨rfl, rfl, rfl, by show 0 ≤ _; exact Nat.zero_le _, Nat.zero_le _⟩
  | d :: ds, h => (ShwA.cons (h d List.mem_cons_self) (ShwA.all fun x hx => h x (List.mem_cons_of_mem _ hx))).le (by rw [List.length_cons, Nat.add_mul, Nat.one_mul]; omega) (Nat.le_refl _)
theorem Shw.int {i : Int} (h : -1000000000000000 ≤ i ∧ i ≤ 1000000000000000) {k : Nat} : Shw (.int i) 0 k := by
  have hn : i.natAbs < 10 ^ 16 := by
    have : (10 : Nat) ^ 16 = 10000000000000000 := by decide
    omega
  refine ⟨?_, rfl, ?_, Nat.le_refl _, Nat.zero_le _⟩
  · unfold PyData.showable
    refine decide_eq_true ?_
    have : i.natAbs < 2 ^ 60 := by
      have e : (2 : Nat) ^ 60 = 1152921504606846976 := by decide
      omega
    have := PySem.Flt.log2_lt_of (by decide : 0 < 60) this
    omega
  · unfold PyData.leavesShort
    refine decide_eq_true ?_
    have e := int_text_length_le10 (k := 16) (by decide) hn
    show (Str.ofString (toString i)).length ≤ 32
    rw [PySem.ofString_length]
    omega
theorem Shw.non {k : Nat} : Shw .none 0 k := ⟨rfl, rfl, rfl, Nat.le_refl _, Nat.zero_le _⟩
theorem Shw.str {x : Str} {k : Nat} (h : (x.cps.toList.all fun c => decide (c < 16 ^ 8)) = true) : Shw (.str x) x.cps.size k := ⟨rfl, rfl, h, Nat.le_refl _, Nat.zero_le _⟩
theorem Shw.repr {d : PyData} {b k : Nat} (h : Shw d b k) (hb : b ≤ 400000) (hk : k ≤ 50) : d.showable = true ∧ d.hasDict = false ∧ d.depth ≤ 50 ∧ d.shown.length ≤ sizeLine := by
  refine ⟨h.sh, h.nd, Nat.le_trans h.dp hk, ?_⟩
  have h1 := PyData.shown_le_bulk 32 (by decide) d h.lf
  have h2 := h.bk
  have h3 : (14000000 : Nat) ≤ sizeLine := by decide
  omega

theorem vl_shw {v : Vl} (h : v.ok) {k : Nat} : Shw v.p 1 k := by
  cases v with
  | n => exact Shw.non.le (by decide) (Nat.le_refl _)
  | i k => exact (Shw.int h).le (by decide) (Nat.le_refl _)
  | s l =>
    rcases h with rfl | rfl
    · exact Shw.str (by decide +kernel)
    · exact Shw.str (by decide +kernel)

theorem wu_shw (w : Wu) {k : Nat} : Shw (.str (Str.ofString w.s)) 9 k := by
  cases w <;> exact (Shw.str (by decide +kernel)).le (by decide +kernel) (Nat.le_refl _)
theorem wb_shw (w : Wb) {k : Nat} : Shw (.str (Str.ofString w.s)) 9 k := by
  cases w <;> exact (Shw.str (by decide +kernel)).le (by decide +kernel) (Nat.le_refl _)
theorem st_shw {k : Nat} : Shw (.str (Str.ofString "column")) 9 k ∧ Shw (.str (Str.ofString "constant")) 9 k ∧ Shw (.str (Str.ofString "choose")) 9 k := by
  exact ⟨(Shw.str (by decide +kernel)).le (by decide +kernel) (Nat.le_refl _), (Shw.str (by decide +kernel)).le (by decide +kernel) (Nat.le_refl _), (Shw.str (by decide +kernel)).le (by decide +kernel) (Nat.le_refl _)⟩
theorem ep_shw {n : Nat} (hn : n ≤ 1000) : ∀ {e : Ep}, e.ok n → Shw e.d (20 * 4 ^ e.ht) (e.ht + 1)
  | .col i, h => by
    have h : i < n := h
    exact (ShwA.tup (ShwA.cons st_shw.1 (ShwA.cons (Shw.int (by omega)) ShwA.nil))).le (by show _ ≤ 20 * 1; omega) (Nat.le_refl _)
  | .con v, h => (ShwA.tup (ShwA.cons st_shw.2.1 (ShwA.cons (vl_shw h) ShwA.nil))).le (by show _ ≤ 20 * 1; omega) (Nat.le_refl _)
  | .un w a, h => by
    have ih := ep_shw hn (e := a) h
    refine (ShwA.tup (ShwA.cons (wu_shw w) (ShwA.cons ih ShwA.nil))).le ?_ (Nat.le_refl _)
    show _ ≤ 20 * 4 ^ (a.ht + 1)
    rw [Nat.pow_succ]
    have : 1 ≤ 4 ^ a.ht := Nat.one_le_pow _ _ (by decide)
    omega
  | .bi w a b, h => by
    have e : (Ep.bi w a b).ht = max a.ht b.ht + 1 := rfl
    have h1 := ep_shw hn (e := a) h.1
    have h2 := ep_shw hn (e := b) h.2
    have m1 : 4 ^ a.ht ≤ 4 ^ max a.ht b.ht := Nat.pow_le_pow_right (by decide) (Nat.le_max_left _ _)
    have m2 : 4 ^ b.ht ≤ 4 ^ max a.ht b.ht := Nat.pow_le_pow_right (by decide) (Nat.le_max_right _ _)
    have : 1 ≤ 4 ^ max a.ht b.ht := Nat.one_le_pow _ _ (by decide)
    refine (ShwA.tup (ShwA.cons (wb_shw w) (ShwA.cons (h1.le (Nat.le_refl _) (show _ ≤ max a.ht b.ht + 1 by omega)) (ShwA.cons (h2.le (Nat.le_refl _) (by omega)) ShwA.nil)))).le ?_ (Nat.le_refl _)
    rw [e, Nat.pow_succ]
    omega
  | .ch c a b, h => by
    have e : (Ep.ch c a b).ht = max c.ht (max a.ht b.ht) + 1 := rfl
    have h0 := ep_shw hn (e := c) h.1
    have h1 := ep_shw hn (e := a) h.2.1
    have h2 := ep_shw hn (e := b) h.2.2
    have m0 : 4 ^ c.ht ≤ 4 ^ max c.ht (max a.ht b.ht) := Nat.pow_le_pow_right (by decide) (by omega)
    have m1 : 4 ^ a.ht ≤ 4 ^ max c.ht (max a.ht b.ht) := Nat.pow_le_pow_right (by decide) (by omega)
    have m2 : 4 ^ b.ht ≤ 4 ^ max c.ht (max a.ht b.ht) := Nat.pow_le_pow_right (by decide) (by omega)
    have : 1 ≤ 4 ^ max c.ht (max a.ht b.ht) := Nat.one_le_pow _ _ (by decide)
    refine (ShwA.tup (ShwA.cons st_shw.2.2 (ShwA.cons (h0.le (Nat.le_refl _) (show _ ≤ max c.ht (max a.ht b.ht) + 1 by omega)) (ShwA.cons (h1.le (Nat.le_refl _) (by omega)) (ShwA.cons (h2.le (Nat.le_refl _) (by omega)) ShwA.nil))))).le ?_ (Nat.le_refl _)
    rw [e, Nat.pow_succ]
    omega

/-! ### the law of k53 -/
def sp_law (K : PySem.W.Frag) : Sp := fun vs H Q _ => ∃ (a : Addr) (ns : List Int), vs = [.ref a] ∧ SqL K H a (ns.map V.int) ∧ ns.length ≤ 63 ∧ ∀ H', Q (.bl true) H'
def rowsD (rs : List Row) : PyData := .list (rs.map rowP)
theorem sh_rowP {n : Nat} {r : Row} (h : r.length ≤ 100000) : Sh (n + 1) (rowP r) := .tup (by rw [List.length_map]; exact h) fun d hd => by
  obtain ⟨v, _, rfl⟩ := List.mem_map.mp hd
  cases v with
  | n => exact .non
  | i k => exact .int _
  | s l => exact .str _
theorem sh_rows {n : Nat} {rs : List Row} (hl : rs.length ≤ 1000) (h : ∀ r ∈ rs, r.length ≤ 1000) : Sh (n + 2) (rowsD rs) := .lst (by rw [List.length_map]; omega) fun d hd => by
  obtain ⟨r, hr, rfl⟩ := List.mem_map.mp hd
  exact sh_rowP (by have := h r hr; omega)
theorem rl_dp {K : PySem.W.Frag} {H : Hp} {a : Addr} {rs : List Row} (h : RL H a rs) : Dp K H (.ref a) (rowsD rs) := by
  obtain ⟨zs, h1, h2, rfl⟩ := h
  refine .lst (.of h1) ?_
  rw [List.map_map]
  exact dpa_arows h2
theorem RL.fd {H H' : Hp} {d c a : Addr} {rs : List Row} (dr : Dr H d c) (f : Fd d H H') (n : a ≠ d) (h : RL H a rs) : RL H' a rs := by
  obtain ⟨zs, h1, h2, h3⟩ := h
  exact ⟨zs, f _ _ n h1, fun x hx => Tk.fd dr f _ _ (h2 x hx), h3⟩
/-- the law's tables: lists of rows, of widths -/
def Tbs (H : Hp) (d TA : Addr) (ws : List Nat) (T : List (List Row)) : Prop := TA ≠ d ∧ (∃ as : List Addr, H TA = some (.lst (as.map V.ref)) ∧ as.length = T.length ∧ ∀ (i : Nat) (a : Addr) (rs : List Row), as[i]? = some a → T[i]? = some rs → a ≠ d ∧ a ≠ TA ∧ RL H a rs) ∧ T.length ≤ ws.length ∧ ∀ (i : Nat) (rs : List Row) (w : Nat), T[i]? = some rs → ws[i]? = some w → (∀ r ∈ rs, r.length = w ∧ ∀ v ∈ r, v.sm) ∧ rs.length ≤ 5
theorem Tbs.fd {H H' : Hp} {d c TA : Addr} {ws : List Nat} {T : List (List Row)} (dr : Dr H d c) (f : Fd d H H') (h : Tbs H d TA ws T) : Tbs H' d TA ws T := by
  obtain ⟨h1, ⟨as, h2, h3, h4⟩, h5⟩ := h
  exact ⟨h1, ⟨as, f _ _ h1 h2, h3, fun i a rs g1 g2 => ⟨(h4 i a rs g1 g2).1, (h4 i a rs g1 g2).2.1, (h4 i a rs g1 g2).2.2.fd dr f (h4 i a rs g1 g2).1⟩⟩, h5⟩
theorem Tbs.fl {H : Hp} {d TA : Addr} {ws : List Nat} {T : List (List Row)} (h : Tbs H d TA ws T) : FL H TA T := by
  obtain ⟨h1, ⟨as, h2, h3, h4⟩, h5⟩ := h
  exact ⟨as, h2, h3, fun i a rs g1 g2 => (h4 i a rs g1 g2).2.2⟩
theorem Tbs.push {H : Hp} {d TA a : Addr} {ws : List Nat} {T : List (List Row)} {rs : List Row} (h : Tbs H d TA ws T) (hl : T.length < ws.length) (nd : a ≠ d) (nT : a ≠ TA) (hR : RL H a rs) (hw : ∀ w, ws[T.length]? = some w → (∀ r ∈ rs, r.length = w ∧ ∀ v ∈ r, v.sm) ∧ rs.length ≤ 5) : ∃ as : List Addr, H TA = some (.lst (as.map V.ref)) ∧ as.length = T.length ∧ Tbs (upd H TA (.lst (as.map V.ref ++ [.ref a]))) d TA ws (T ++ [rs]) := by
  obtain ⟨h1, ⟨as, h2, h3, h4⟩, h5, h6⟩ := h
  refine ⟨as, h2, h3, h1, ⟨as ++ [a], by rw [upd_same, List.map_append]; rfl, by rw [List.length_append, List.length_append, h3]; rfl, fun i b r g1 g2 => ?_⟩, by rw [List.length_append, List.length_singleton]; omega, fun i r w g1 g2 => ?_⟩
  · by_cases e : i < as.length
    · rw [List.getElem?_append_left e] at g1
      rw [List.getElem?_append_left (by omega)] at g2
      obtain ⟨k1, k2, k3⟩ := h4 i b r g1 g2
      exact ⟨k1, k2, k3.upd h2 k2⟩
    · rw [List.getElem?_append_right (by omega)] at g1 g2
      have e2 : i - as.length = 0 := by
        have := (List.getElem?_eq_some_iff.mp g1).1
        rw [List.length_singleton] at this
        omega
      rw [e2] at g1
      rw [← h3, e2] at g2
      obtain rfl := Option.some.inj g1
      obtain rfl := Option.some.inj g2
      exact ⟨nd, nT, hR.upd h2 nT⟩
  · by_cases e : i < T.length
    · rw [List.getElem?_append_left e] at g1
      exact h6 i r w g1 g2
    · rw [List.getElem?_append_right (by omega)] at g1
      have e2 : i - T.length = 0 := by
        have := (List.getElem?_eq_some_iff.mp g1).1
        rw [List.length_singleton] at this
        omega
      rw [e2] at g1
      obtain rfl := Option.some.inj g1
      have ei : i = T.length := by omega
      rw [ei] at g2
      exact hw w g2
/-- data of lists of rows -/
theorem fl_dp {K : PySem.W.Frag} {H : Hp} {p : Addr} {F : List (List Row)} (h : FL H p F) : Dp K H (.ref p) (.list (F.map rowsD)) := by
  obtain ⟨as, h1, h2, h3⟩ := h
  refine .lst (.of h1) ?_
  clear h1
  induction F generalizing as with
  | nil => rw [List.length_eq_zero_iff.mp h2]; exact .nil
  | cons rs F ih =>
    cases as with
    | nil => cases h2
    | cons a as => exact .cons (rl_dp (h3 0 a rs rfl rfl)) (ih as (Nat.succ.inj h2) fun i b r g1 g2 => h3 (i + 1) b r g1 g2)
theorem Shw.cons {d : PyData} {ds : List PyData} {b c k : Nat} (h : Shw d b k) (g : ShwA ds c k) : ShwA (d :: ds) (b + 1 + c) k := ShwA.cons h g
theorem row_shw {r : Row} (h : ∀ v ∈ r, v.ok) (hl : r.length ≤ 100) : Shw (rowP r) 200 3 := by
  have h1 := ShwA.all (b := 1) (k := 1) (ds := r.map Vl.p) fun d hd => by
    obtain ⟨v, hv, rfl⟩ := List.mem_map.mp hd
    exact vl_shw (h v hv)
  rw [List.length_map] at h1
  exact (ShwA.tup h1).le (by omega) (by omega)
theorem rows_shw {rs : List Row} (h : ∀ r ∈ rs, (∀ v ∈ r, v.ok) ∧ r.length ≤ 100) (hl : rs.length ≤ 10) : Shw (rowsD rs) 2100 4 := by
  have h1 := ShwA.all (b := 200) (k := 3) (ds := rs.map rowP) fun d hd => by
    obtain ⟨r, hr, rfl⟩ := List.mem_map.mp hd
    exact row_shw (h r hr).1 (h r hr).2
  rw [List.length_map] at h1
  refine (ShwA.lst h1).le ?_ (by omega)
  have := Nat.mul_le_mul_right (200 + 1) hl
  omega
theorem tbs_shw {H : Hp} {d TA : Addr} {ws : List Nat} {T : List (List Row)} (h : Tbs H d TA ws T) (hw : ∀ w ∈ ws, w ≤ 100) (hl : ws.length ≤ 10) : Shw (.list (T.map rowsD)) 22000 5 := by
  have h1 := ShwA.all (b := 2100) (k := 4) (ds := T.map rowsD) fun d hd => by
    obtain ⟨rs, hrs, rfl⟩ := List.mem_map.mp hd
    obtain ⟨i, hi⟩ := List.mem_iff_getElem?.mp hrs
    have hil := (List.getElem?_eq_some_iff.mp hi).1
    have := h.2.2.1
    obtain ⟨g1, g2⟩ := h.2.2.2 i rs _ hi (List.getElem?_eq_getElem (by omega))
    refine rows_shw (fun r hr => ⟨fun v hv => Vl.sm_ok ((g1 r hr).2 v hv), ?_⟩) (by omega)
    rw [(g1 r hr).1]
    exact hw _ (List.getElem_mem _)
  rw [List.length_map] at h1
  refine (ShwA.lst h1).le ?_ (by omega)
  have h2 := h.2.2.1
  have := Nat.mul_le_mul_right (2100 + 1) (Nat.le_trans h2 hl)
  omega
theorem ep2_shw {n : Nat} (hn : n ≤ 1000) {e : Ep} (h : e.ok n) (ht : e.ht ≤ 2) : Shw e.d 320 4 := by
  refine (ep_shw hn h).le ?_ (by omega)
  have := Nat.pow_le_pow_right (n := 4) (by decide) ht
  omega
theorem nat_shw {n k : Nat} (h : n ≤ 100) : Shw (nI n) 0 k := Shw.int (by omega)
theorem fm_shw {n : Nat} (hn : n ≤ 1000) {t : Fm} (h : t.ok n) (ht : ∀ o e, t = .ex o e → e.ht ≤ 2) : Shw t.d 400 5 := by
  cases t with
  | cnt => exact (ShwA.tup (ShwA.cons (b := 5) (k := 3) (Shw.str (by decide +kernel)) .nil)).le (by omega) (by omega)
  | ex o e =>
    have h1 : Shw (.str (Str.ofString o.s)) 9 4 := by
      cases o <;> exact (Shw.str (by decide +kernel)).le (by decide) (Nat.le_refl _)
    exact (ShwA.tup (h1.cons ((ep2_shw hn h.1 (ht o e rfl)).cons .nil))).le (by omega) (by omega)
theorem eps_shw {n : Nat} (hn : n ≤ 1000) {es : List Ep} (h : ∀ e ∈ es, e.ok n ∧ e.ht ≤ 2) (hl : es.length ≤ 2) : Shw (.list (es.map Ep.d)) 700 6 := by
  have h1 := ShwA.all (b := 320) (k := 4) (ds := es.map Ep.d) fun d hd => by
    obtain ⟨e, he, rfl⟩ := List.mem_map.mp hd
    exact ep2_shw hn (h e he).1 (h e he).2
  rw [List.length_map] at h1
  refine (ShwA.lst h1).le ?_ (by omega)
  have := Nat.mul_le_mul_right (320 + 1) hl
  omega
theorem fms_shw {n : Nat} (hn : n ≤ 1000) {ts : List Fm} (h : ∀ t ∈ ts, t.ok n) (h2 : ∀ o e, Fm.ex o e ∈ ts → e.ht ≤ 2) (hl : ts.length ≤ 2) : Shw (.list (ts.map Fm.d)) 900 6 := by
  have h1 := ShwA.all (b := 400) (k := 5) (ds := ts.map Fm.d) fun d hd => by
    obtain ⟨t, ht, rfl⟩ := List.mem_map.mp hd
    exact fm_shw hn (h t ht) fun o e z => h2 o e (z ▸ ht)
  rw [List.length_map] at h1
  refine (ShwA.lst h1).le ?_ (by omega)
  have := Nat.mul_le_mul_right (400 + 1) hl
  omega
theorem op_shw {tw sw ws : List Nat} {w : Nat} {o : Op} (hws : ∀ v ∈ ws, v ≤ 100) (h : o.okW tw sw ws w) (hw : w ≤ 100) (hs : o.sm) : Shw o.d 2000 8 := by
  have hwd : ∀ {k : Nat}, Shw (.str (Str.ofString o.wd)) 9 k := by
    intro k
    have lit : ∀ (s : String), ((Str.ofString s).cps.toList.all fun c => decide (c < 16 ^ 8)) = true → (Str.ofString s).cps.size ≤ 9 → Shw (.str (Str.ofString s)) 9 k := fun s a b => (Shw.str a).le b (Nat.le_refl _)
    cases o with
    | tab => exact lit "table" (by decide +kernel) (by decide +kernel)
    | stp => exact lit "step" (by decide +kernel) (by decide +kernel)
    | fil => exact lit "filter" (by decide +kernel) (by decide +kernel)
    | map => exact lit "map" (by decide +kernel) (by decide +kernel)
    | joi => exact lit "join" (by decide +kernel) (by decide +kernel)
    | uni => exact lit "union" (by decide +kernel) (by decide +kernel)
    | min => exact lit "minus" (by decide +kernel) (by decide +kernel)
    | ant => exact lit "anti" (by decide +kernel) (by decide +kernel)
    | grp => exact lit "group" (by decide +kernel) (by decide +kernel)
  have hb : ∀ {i v : Nat}, ws[i]? = some v → v ≤ 100 := fun h => hws _ (List.mem_of_getElem? h)
  have fin : ∀ {b : Nat}, ShwA o.as b 7 → b ≤ 1900 → Shw o.d 2000 8 := fun h g => (ShwA.tup (hwd.cons h)).le (by omega) (by omega)
  cases o with
  | tab i => exact fin ((nat_shw hs).cons .nil) (by omega)
  | stp i => exact fin ((nat_shw hs).cons .nil) (by omega)
  | fil e q => exact fin (((ep2_shw (by omega) h.2.1 hs.1).le (Nat.le_refl _) (by omega)).cons ((nat_shw hs.2).cons .nil)) (by omega)
  | map es q =>
    obtain ⟨h1, v, h2, h3⟩ := h
    have := hb h2
    exact fin (((eps_shw (n := v) (by omega) (fun e he => ⟨(h3 e he).1, hs.1 e he⟩) hs.2.1).le (Nat.le_refl _) (by omega)).cons ((nat_shw hs.2.2).cons .nil)) (by omega)
  | joi e q r =>
    obtain ⟨a, b, h1, h2, h3, h4, h5⟩ := h
    have := hb h1
    have := hb h2
    exact fin (((ep2_shw (by omega) h4 hs.1).le (Nat.le_refl _) (by omega)).cons ((nat_shw hs.2.1).cons ((nat_shw hs.2.2).cons .nil))) (by omega)
  | uni q r => exact fin ((nat_shw hs.1).cons ((nat_shw hs.2).cons .nil)) (by omega)
  | min q r => exact fin ((nat_shw hs.1).cons ((nat_shw hs.2).cons .nil)) (by omega)
  | ant e q r =>
    obtain ⟨h1, b, h2, h4, h5⟩ := h
    have := hb h2
    exact fin (((ep2_shw (by omega) h4 hs.1).le (Nat.le_refl _) (by omega)).cons ((nat_shw hs.2.1).cons ((nat_shw hs.2.2).cons .nil))) (by omega)
  | grp ks ts q =>
    obtain ⟨h1, v, h2, h3, h4⟩ := h
    have := hb h2
    obtain ⟨k1, k2, k3, k4, k5⟩ := hs
    exact fin (((eps_shw (n := v) (by omega) (fun e he => ⟨(h3 e he).1, k1 e he⟩) k3).le (Nat.le_refl _) (by omega)).cons (((fms_shw (n := v) (by omega) h4 k2 k4).le (Nat.le_refl _) (by omega)).cons ((nat_shw k5).cons .nil))) (by omega)
section
variable {P : Program} {w : World} {K : PySem.W.Frag} {mg : Str → Option Value} {base : Heap}
set_option maxHeartbeats 8000000 in
theorem ok_law {f : Addr} {fd : FuncData} (F : Fun K "law" "law" s_law f fd) (M : Mg mg) (c__law_draw : Cl P w K mg base 1 "_law_draw" (sp_draw K)) (c__law_next : Cl P w K mg base 1 "_law_next" sp_next) (c__law_rows : Cl P w K mg base 3 "_law_rows" (sp_lrows K)) (c__law_plan : Cl P w K mg base 10 "_law_plan" (sp_lpl K)) (c_query_rows : Cl P w K mg base 13 "query_rows" (sp_qr K)) (c__law_distinct : Cl P w K mg base 1 "_law_distinct" (sp_ldist K)) (c__law_plan_rows : Cl P w K mg base 12 "_law_plan_rows" (sp_lplr K)) (c__law_ordered : Cl P w K mg base 5 "_law_ordered" (sp_lord K)) (c__law_same : Cl P w K mg base 4 "_law_same" (sp_same K 3)) : CallerOk P w K mg base f fd "script" (sp_law K) := by
  refine okG_of (k := 14) F sc_law ⟨rfl, by decide, by decide⟩ (fun cdv s H v Q hr h => ?_)
  obtain ⟨a, ns, hv, hS, _, q⟩ := h
  cases hv
  refine ⟨_, (pss_cons (ps_set (i := 1) sc_law.nd rfl (.inr rfl) (pe_u c__law_draw hr (by first | decide | omega) (by rfl) (pa_cons (pv 0) pa_nil)))
      (pss_cons (ps_setLc (i := 2) (own := [("k", 10)]) (g := gName 10) (tt := tYes) rfl sc_law.nd rfl rfl (sw_true rfl rfl rfl (by decide +kernel)) (pi_range1 (by rfl) M.range (pa_cons (pe_op op_add pe_int (pe_u c__law_next hr (by first | decide | omega) (by rfl) (pa_cons (pv 1) (pa_cons pe_int pa_nil)))) pa_nil)) (blkOk_by (N := N_law) (sc := defScope s_law) (by decide +kernel)) (fun _ _ _ _ _ => (pg_name (i := 10) sc_law.nd rfl (.inl rfl))) (fun _ _ _ _ _ => pts_nil) (fun _ _ _ _ _ => (pe_op op_add pe_int (pe_u c__law_next hr (by first | decide | omega) (by rfl) (pa_cons (pv 1) (pa_cons pe_int pa_nil))))))
      (pss_cons (ps_setLc (i := 3) (own := [("k", 10)]) (g := gName 10) (tt := tYes) rfl sc_law.nd rfl rfl (sw_true rfl rfl rfl (by decide +kernel)) (pi_range1 (by rfl) M.range (pa_cons (pe_u c__law_next hr (by first | decide | omega) (by rfl) (pa_cons (pv 1) (pa_cons pe_int pa_nil))) pa_nil)) (blkOk_by (N := N_law) (sc := defScope s_law) (by decide +kernel)) (fun _ _ _ _ _ => (pg_name (i := 10) sc_law.nd rfl (.inl rfl))) (fun _ _ _ _ _ => pts_nil) (fun _ _ _ _ _ => (pe_op op_add pe_int (pe_u c__law_next hr (by first | decide | omega) (by rfl) (pa_cons (pv 1) (pa_cons pe_int pa_nil))))))
      (pss_cons (ps_setLc (i := 4) (own := [("width", 11)]) (g := gName 11) (tt := tYes) rfl sc_law.nd rfl rfl (sw_true rfl rfl rfl (by decide +kernel)) (pi_list (pv 2)) (blkOk_by (N := N_law) (sc := defScope s_law) (by decide +kernel)) (fun _ _ _ _ _ => (pg_name (i := 11) sc_law.nd rfl (.inl rfl))) (fun _ _ _ _ _ => pts_nil) (fun _ _ _ _ _ => (pe_u c__law_rows hr (by first | decide | omega) (by rfl) (pa_cons (pv 1) (pa_cons (pv 11) (pa_cons pe_int pa_nil))))))
      (pss_cons (ps_setLc (i := 5) (own := [("width", 11)]) (g := gName 11) (tt := tYes) rfl sc_law.nd rfl rfl (sw_true rfl rfl rfl (by decide +kernel)) (pi_list (pv 3)) (blkOk_by (N := N_law) (sc := defScope s_law) (by decide +kernel)) (fun _ _ _ _ _ => (pg_name (i := 11) sc_law.nd rfl (.inl rfl))) (fun _ _ _ _ _ => pts_nil) (fun _ _ _ _ _ => (pe_u c__law_rows hr (by first | decide | omega) (by rfl) (pa_cons (pv 1) (pa_cons (pv 11) (pa_cons pe_int pa_nil))))))
      (pss_cons (ps_set (i := 6) sc_law.nd rfl (.inl rfl) (pe_ix (ix_tupK K) (pe_u c__law_plan hr (by first | decide | omega) (by rfl) (pa_cons (pv 1) (pa_cons (pv 2) (pa_cons (pv 3) (pa_cons pe_int pa_nil))))) pe_int (fun _ _ => rfl)))
      (pss_cons (ps_set (i := 7) sc_law.nd rfl (.inl rfl) (pe_callB (reprK K rfl hr.units) (by rfl) M.repr (by decide +kernel) (pa_cons (pe_lst (pa_cons (pv 6) (pa_cons (pv 4) (pa_cons (pv 5) pa_nil)))) pa_nil)))
      (pss_cons (ps_set (i := 8) sc_law.nd rfl (.inl rfl) (pe_u c_query_rows hr (by first | decide | omega) (by rfl) (pa_cons (pv 6) (pa_cons (pv 4) (pa_cons (pv 5) pa_nil)))))
      (pss_cons (ps_set (i := 9) sc_law.nd rfl (.inl rfl) (pe_u c__law_ordered hr (by first | decide | omega) (by rfl) (pa_cons (pe_u c__law_plan_rows hr (by first | decide | omega) (by rfl) (pa_cons (pv 6) (pa_cons (pe_lc (own := [("rows", 12)]) (g := gName 12) (tt := tYes) rfl sc_law.nd (pi_list (pv 4)) (blkOk_by (N := N_law) (sc := defScope s_law) (by decide +kernel)) (fun _ _ _ _ _ => (pg_name (i := 12) sc_law.nd rfl (.inl rfl))) (fun _ _ _ _ _ => pts_nil) (fun _ _ _ _ _ => (pe_u c__law_distinct hr (by first | decide | omega) (by rfl) (pa_cons (pv 12) pa_nil)))) (pa_cons (pe_lc (own := [("rows", 12)]) (g := gName 12) (tt := tYes) rfl sc_law.nd (pi_list (pv 5)) (blkOk_by (N := N_law) (sc := defScope s_law) (by decide +kernel)) (fun _ _ _ _ _ => (pg_name (i := 12) sc_law.nd rfl (.inl rfl))) (fun _ _ _ _ _ => pts_nil) (fun _ _ _ _ _ => (pe_u c__law_distinct hr (by first | decide | omega) (by rfl) (pa_cons (pv 12) pa_nil)))) pa_nil)))) pa_nil)))
      (pss_one (ps_ret (pe_and (pe_u c__law_same hr (by first | decide | omega) (by rfl) (pa_cons (pv 8) (pa_cons (pv 9) pa_nil))) (pe_one (pe_cmpR op_eq (pe_callB (reprK K rfl hr.units) (by rfl) M.repr (by decide +kernel) (pa_cons (pe_lst (pa_cons (pv 6) (pa_cons (pv 4) (pa_cons (pv 5) pa_nil)))) pa_nil)) (pv 7) (nomark _))))))))))))))), ?_⟩
  refine ⟨_, rfl, a, ns, rfl, hS, fun H1 d c s1 nd dr => ?_⟩
  refine ⟨_, rfl, d, c, 2, rfl, dr, by decide, by decide, fun H2 n2 f2 _ dr2 n20 n21 => ?_⟩
  obtain ⟨m2, rfl⟩ := Int.eq_ofNat_of_zero_le n20
  refine ⟨_, _, rfl, rfl, _, rfl, by omega, by omega, fun WA nWA => ?_⟩
  have nWAd := dr2.nd nWA
  have nWAc := dr2.nc nWA
  refine lc_range (lo := 0) (n := (1 + ((m2 : Nat) : Int)).toNat) (fun j Hj => Fd d H2 Hj ∧ Dr Hj d c ∧ ∃ us : List Nat, Hj WA = some (.lst (natL us)) ∧ us.length = j ∧ ∀ v ∈ us, 1 ≤ v ∧ v ≤ 2) ⟨.new nWA, dr2.ext (same_upd nWA), [], upd_same, rfl, (fun _ h => by cases h)⟩ (fun j Hj hj hp => ?_) (fun H3 hp => ?_)
  · obtain ⟨fj, drj, us, eD, lus, hus⟩ := hp
    refine ⟨rfl, ?_⟩
    refine ⟨_, rfl, d, c, 2, rfl, drj, by decide, by decide, fun H' r f' _ dr' r0 r1 => ⟨_, _, rfl, rfl, ?_⟩⟩
    obtain ⟨rn, rfl⟩ := Int.eq_ofNat_of_zero_le r0
    have ez : natL us ++ [V.int (1 + ((rn : Nat) : Int))] = natL (us ++ [1 + rn]) := by
      unfold natL
      rw [List.map_append]
      show _ = _ ++ [V.int (((1 + rn : Nat)) : Int)]
      rw [Int.natCast_add]
      rfl
    refine ⟨_, f' _ _ nWAd eD, by rw [natL_len]; exact small1 (by omega), fun b o n e => ?_, dr'.upd nWAd nWAc, us ++ [1 + rn], ?_, by rw [List.length_append, lus]; rfl, fun v hv => ?_⟩
    · rw [upd_ne (ne_of_none e nWA)]
      exact f' _ _ n (fj _ _ n e)
    · rw [upd_same]
      exact congrArg (fun z => some (HO.lst z)) ez
    · rcases List.mem_append.mp hv with hv | hv
      · exact hus v hv
      · rw [List.mem_singleton.mp hv]
        omega
  obtain ⟨f3, dr3, ws, eWA, lws, hws2⟩ := hp
  have lws2 : 1 ≤ ws.length ∧ ws.length ≤ 2 := by omega
  refine ⟨_, rfl, d, c, 3, rfl, dr3, by decide, by decide, fun H4 n4 f4 _ dr4 n40 n41 => ?_⟩
  obtain ⟨m4, rfl⟩ := Int.eq_ofNat_of_zero_le n40
  refine ⟨_, rfl, by omega, by omega, fun SA nSA => ?_⟩
  have nSAd := dr4.nd nSA
  have nSAc := dr4.nc nSA
  have eWA4 := f4 _ _ nWAd eWA
  refine lc_range (lo := 0) (n := ((m4 : Nat) : Int).toNat) (fun j Hj => Fd d H4 Hj ∧ Dr Hj d c ∧ ∃ us : List Nat, Hj SA = some (.lst (natL us)) ∧ us.length = j ∧ ∀ v ∈ us, 1 ≤ v ∧ v ≤ 2) ⟨.new nSA, dr4.ext (same_upd nSA), [], upd_same, rfl, (fun _ h => by cases h)⟩ (fun j Hj hj hp => ?_) (fun H5 hp => ?_)
  · obtain ⟨fj, drj, us, eD, lus, hus⟩ := hp
    refine ⟨rfl, ?_⟩
    refine ⟨_, rfl, d, c, 2, rfl, drj, by decide, by decide, fun H' r f' _ dr' r0 r1 => ⟨_, _, rfl, rfl, ?_⟩⟩
    obtain ⟨rn, rfl⟩ := Int.eq_ofNat_of_zero_le r0
    have ez : natL us ++ [V.int (1 + ((rn : Nat) : Int))] = natL (us ++ [1 + rn]) := by
      unfold natL
      rw [List.map_append]
      show _ = _ ++ [V.int (((1 + rn : Nat)) : Int)]
      rw [Int.natCast_add]
      rfl
    refine ⟨_, f' _ _ nSAd eD, by rw [natL_len]; exact small1 (by omega), fun b o n e => ?_, dr'.upd nSAd nSAc, us ++ [1 + rn], ?_, by rw [List.length_append, lus]; rfl, fun v hv => ?_⟩
    · rw [upd_ne (ne_of_none e nSA)]
      exact f' _ _ n (fj _ _ n e)
    · rw [upd_same]
      exact congrArg (fun z => some (HO.lst z)) ez
    · rcases List.mem_append.mp hv with hv | hv
      · exact hus v hv
      · rw [List.mem_singleton.mp hv]
        omega
  obtain ⟨f5, dr5, ss, eSA, lss, hss2⟩ := hp
  have lss2 : ss.length ≤ 2 := by omega
  have eWA5 := f5 _ _ nWAd eWA4
  have hwws : ∀ v ∈ ws, v ≤ 2 := fun v h => (hws2 v h).2
  have hwss : ∀ v ∈ ss, v ≤ 2 := fun v h => (hss2 v h).2
  refine ⟨_, rfl, WA, rfl, ⟨_, .of eWA5⟩, fun TA nTA => ?_⟩
  have nTAd := dr5.nd nTA
  have nTAc := dr5.nc nTA
  refine lc_list (K := K) (a := WA) (xs := natL ws) (fun j Hj => Fd d H5 Hj ∧ Dr Hj d c ∧ ∃ T, T.length = j ∧ Tbs Hj d TA ws T) ⟨.new nTA, dr5.ext (same_upd nTA), [], rfl, nTAd, ⟨[], upd_same, rfl, fun i a rs h => by simp at h⟩, Nat.zero_le _, fun i rs w h => by simp at h⟩ (fun j Hj _ hp => .of (hp.1 _ _ nWAd eWA5)) (fun j y Hj hy hp => ?_) (fun H6 hp => ?_)
  · obtain ⟨fj, drj, T, lT, hT⟩ := hp
    have hj : j < ws.length := by
      have := (List.getElem?_eq_some_iff.mp hy).1
      rwa [natL_len] at this
    obtain rfl : y = V.int ((ws[j] : Nat) : Int) := by
      unfold natL at hy
      rw [List.getElem?_map, List.getElem?_eq_getElem hj] at hy
      exact (Option.some.inj hy).symm
    have hwj := hwws _ (List.getElem_mem hj)
    refine ⟨rfl, ?_⟩
    refine ⟨_, rfl, _, rfl, d, c, ws[j], rfl, by omega, drj, fun H' p rs f' dr' npd np hRL okr lrs => ?_⟩
    have hT' := hT.fd drj f'
    have npT : p ≠ TA := fun z => by
      obtain ⟨_, ⟨as, e, _⟩, _⟩ := hT
      rw [z, e] at np
      cases np
    obtain ⟨as, eA, lA, hT2⟩ := hT'.push (a := p) (rs := rs) (by omega) npd npT hRL (fun w hw => by
      rw [lT, List.getElem?_eq_getElem hj] at hw
      obtain rfl := Option.some.inj hw
      exact ⟨okr, lrs⟩)
    refine ⟨_, eA, by rw [List.length_map]; exact small1 (by omega), fun b o n e => ?_, dr'.upd nTAd nTAc, T ++ [rs], by rw [List.length_append, lT]; rfl, hT2⟩
    rw [upd_ne (ne_of_none e nTA)]
    exact f' _ _ n (fj _ _ n e)
  obtain ⟨f6, dr6, T, lT, hT6⟩ := hp
  rw [natL_len] at lT
  have eSA6 := f6 _ _ nSAd eSA
  have eWA6 := f6 _ _ nWAd eWA5
  refine ⟨_, rfl, SA, rfl, ⟨_, .of eSA6⟩, fun GA nGA => ?_⟩
  have nGAd := dr6.nd nGA
  have nGAc := dr6.nc nGA
  refine lc_list (K := K) (a := SA) (xs := natL ss) (fun j Hj => Fd d H6 Hj ∧ Dr Hj d c ∧ ∃ T, T.length = j ∧ Tbs Hj d GA ss T) ⟨.new nGA, dr6.ext (same_upd nGA), [], rfl, nGAd, ⟨[], upd_same, rfl, fun i a rs h => by simp at h⟩, Nat.zero_le _, fun i rs w h => by simp at h⟩ (fun j Hj _ hp => .of (hp.1 _ _ nSAd eSA6)) (fun j y Hj hy hp => ?_) (fun H7 hp => ?_)
  · obtain ⟨fj, drj, T, lT, hT⟩ := hp
    have hj : j < ss.length := by
      have := (List.getElem?_eq_some_iff.mp hy).1
      rwa [natL_len] at this
    obtain rfl : y = V.int ((ss[j] : Nat) : Int) := by
      unfold natL at hy
      rw [List.getElem?_map, List.getElem?_eq_getElem hj] at hy
      exact (Option.some.inj hy).symm
    have hwj := hwss _ (List.getElem_mem hj)
    refine ⟨rfl, ?_⟩
    refine ⟨_, rfl, _, rfl, d, c, ss[j], rfl, by omega, drj, fun H' p rs f' dr' npd np hRL okr lrs => ?_⟩
    have hT' := hT.fd drj f'
    have npT : p ≠ GA := fun z => by
      obtain ⟨_, ⟨as, e, _⟩, _⟩ := hT
      rw [z, e] at np
      cases np
    obtain ⟨as, eA, lA, hT2⟩ := hT'.push (a := p) (rs := rs) (by omega) npd npT hRL (fun w hw => by
      rw [lT, List.getElem?_eq_getElem hj] at hw
      obtain rfl := Option.some.inj hw
      exact ⟨okr, lrs⟩)
    refine ⟨_, eA, by rw [List.length_map]; exact small1 (by omega), fun b o n e => ?_, dr'.upd nGAd nGAc, T ++ [rs], by rw [List.length_append, lT]; rfl, hT2⟩
    rw [upd_ne (ne_of_none e nGA)]
    exact f' _ _ n (fj _ _ n e)
  obtain ⟨f7, dr7, G, lG, hG7⟩ := hp
  rw [natL_len] at lG
  have hT7 := hT6.fd dr6 f7
  have eSA7 := f7 _ _ nSAd eSA6
  have eWA7 := f7 _ _ nWAd eWA6
  have wne : ws ≠ [] := fun z => by rw [z] at lws2; simp at lws2
  refine ⟨_, rfl, _, rfl, _, rfl, d, c, WA, SA, ws, ss, rfl, dr7, nWAd, nSAd, eWA7, eSA7, (fun v h => ⟨(hws2 v h).1, by have := hwws v h; omega⟩), (fun v h => ⟨(hss2 v h).1, by have := hwss v h; omega⟩), wne, by omega, by omega, fun H8 p x y ops wz rooms f8 dr8 ep hx one lo lwz hok hrm hsm => ?_⟩
  refine ⟨p, _, _, _, rfl, rfl, .inl (.inl ep), atI_nat (j := 0) rfl, ?_⟩
  have hT8 := hT7.fd dr7 f8
  have hG8 := hG7.fd dr7 f8
  have hxd := DpL.dp _ _ hx
  have hwz : ∀ v ∈ wz, v ≤ 4 := fun v hv => by
    obtain ⟨i, hi⟩ := List.mem_iff_getElem?.mp hv
    have hil := (List.getElem?_eq_some_iff.mp hi).1
    exact (hok i _ v (List.getElem?_eq_getElem (by omega)) hi).2.2
  have hshow : Shw (.list [.list (ops.map Op.d), .list (T.map rowsD), .list (G.map rowsD)]) 100000 12 := by
    have h1 := ShwA.all (b := 2000) (k := 8) (ds := ops.map Op.d) fun dd hd => by
      obtain ⟨o, ho, rfl⟩ := List.mem_map.mp hd
      obtain ⟨i, hi⟩ := List.mem_iff_getElem?.mp ho
      have hil := (List.getElem?_eq_some_iff.mp hi).1
      have hwi := List.getElem?_eq_getElem (show i < wz.length by omega)
      obtain ⟨k1, k2, k3⟩ := hok i o _ hi hwi
      exact op_shw (fun v hv => by have := hwz v (List.mem_of_mem_take hv); omega) k1 (by omega) (hsm o ho)
    rw [List.length_map] at h1
    have h2 : Shw (.list (ops.map Op.d)) 15000 9 := (ShwA.lst h1).le (by
      have := Nat.mul_le_mul_right (2000 + 1) lo
      omega) (by omega)
    have h3 := tbs_shw hT8 (fun v h => by have := hwws v h; omega) (by omega)
    have h4 := tbs_shw hG8 (fun v h => by have := hwss v h; omega) (by omega)
    exact (ShwA.lst (h2.cons ((h3.le (Nat.le_refl _) (by omega)).cons ((h4.le (Nat.le_refl _) (by omega)).cons .nil)))).le (by omega) (by omega)
  obtain ⟨w1, w2, w3, w4⟩ := hshow.repr (by decide) (by decide)
  refine ⟨_, rfl, _, rfl, _, rfl, (by show 3 ≤ sizeLine; decide), fun L1 nL1 => ?_⟩
  have sL := same_upd nL1 (o := .lst [x, .ref TA, .ref GA])
  have eL1 : upd H8 L1 (.lst [x, .ref TA, .ref GA]) L1 = some (.lst [x, .ref TA, .ref GA]) := upd_same
  generalize upd H8 L1 (.lst [x, .ref TA, .ref GA]) = H9 at sL eL1 ⊢
  have flT := hT8.fl.same sL
  have flG := hG8.fl.same sL
  have hx9 := Dp.ext sL _ _ hxd
  refine ⟨L1, _, rfl, .lst (.of eL1) (.cons hx9 (.cons (fl_dp flT) (.cons (fl_dp flG) .nil))), w1, w2, w3, w4, ?_⟩
  generalize eK : (PyData.list [.list (ops.map Op.d), .list (T.map rowsD), .list (G.map rowsD)]).shown = kept
  -- what the tables hold
  have okTr : ∀ (i : Nat) (rs : List Row), T[i]? = some rs → (∀ r ∈ rs, ∀ v ∈ r, v.ok) ∧ rs.length ≤ 5 := fun i rs h => by
    have hil := (List.getElem?_eq_some_iff.mp h).1
    obtain ⟨g1, g2⟩ := hT8.2.2.2 i rs _ h (List.getElem?_eq_getElem (by omega))
    exact ⟨fun r hr v hv => Vl.sm_ok ((g1 r hr).2 v hv), g2⟩
  have okGr : ∀ (i : Nat) (rs : List Row), G[i]? = some rs → (∀ r ∈ rs, ∀ v ∈ r, v.ok) ∧ rs.length ≤ 5 := fun i rs h => by
    have hil := (List.getElem?_eq_some_iff.mp h).1
    obtain ⟨g1, g2⟩ := hG8.2.2.2 i rs _ h (List.getElem?_eq_getElem (by omega))
    exact ⟨fun r hr v hv => Vl.sm_ok ((g1 r hr).2 v hv), g2⟩
  have fsT : FsOk ws T := ⟨lT, fun i rs w h1 h2 r hr => ⟨((hT8.2.2.2 i rs w h1 h2).1 r hr).1, fun v hv => (okTr i rs h1).1 r hr v hv⟩⟩
  have fsG : FsOk ss G := ⟨lG, fun i rs w h1 h2 r hr => ⟨((hG8.2.2.2 i rs w h1 h2).1 r hr).1, fun v hv => (okGr i rs h1).1 r hr v hv⟩⟩
  have dmem : ∀ (F : List (List Row)) (i : Nat) (r : Row), r ∈ F.getD i [] ↔ r ∈ (F.map distG).getD i [] := fun F i r => by
    rw [List.getD_eq_getElem?_getD, List.getD_eq_getElem?_getD, List.getElem?_map]
    cases F[i]? with
    | none => exact Iff.rfl
    | some rs => exact (distG_mem rs r).symm
  have fsD : ∀ {F : List (List Row)} {ww : List Nat}, FsOk ww F → FsOk ww (F.map distG) := fun {F ww} h => ⟨by rw [List.length_map]; exact h.1, fun i rs w h1 h2 r hr => by
    rw [List.getElem?_map] at h1
    obtain ⟨rs0, g0, rfl⟩ := Option.map_eq_some_iff.mp h1
    exact h.2 i rs0 w g0 h2 r ((distG_mem _ r).mp hr)⟩
  have dlen : ∀ {F : List (List Row)}, (∀ (i : Nat) (rs : List Row), F[i]? = some rs → (∀ r ∈ rs, ∀ v ∈ r, v.ok) ∧ rs.length ≤ 5) → ∀ i, ((F.map distG).getD i []).length ≤ 5 := fun {F} h i => by
    rw [List.getD_eq_getElem?_getD, List.getElem?_map]
    cases e : F[i]? with
    | none => exact Nat.zero_le _
    | some rs => exact Nat.le_trans (distG_len rs) (h i rs e).2
  have lpl : LPlOk ws ss (T.map distG) (G.map distG) ops wz := lpl_of (fun i => Nat.le_trans (dlen okTr i) (by omega)) (fun i => Nat.le_trans (dlen okGr i) (by omega)) hrm lwz (fun i o w h1 h2 => by
    obtain ⟨k1, k2, k3⟩ := hok i o w h1 h2
    exact ⟨k1, k2, by omega⟩)
  have plo := pl_of (dmem T) (dmem G) (fsD fsT) (fsD fsG) lpl
  have lenF : ∀ {F : List (List Row)}, (∀ (i : Nat) (rs : List Row), F[i]? = some rs → (∀ r ∈ rs, ∀ v ∈ r, v.ok) ∧ rs.length ≤ 5) → ∀ rs ∈ F, rs.length ≤ 1000 := fun {F} h rs hrs => by
    obtain ⟨i, hi⟩ := List.mem_iff_getElem?.mp hrs
    have := (h i rs hi).2
    omega
  refine ⟨_, rfl, _, rfl, _, rfl, x, TA, GA, ops, T, G, ws, ss, wz, rfl, hx9, one, by omega, flT, flG, fsT, fsG, lenF okTr, lenF okGr, plo, fun Ha fa sa nfa hRf => ?_⟩
  have flTa := flT.same sa
  have flGa := flG.same sa
  have hxa := Dp.ext sa _ _ hx9
  obtain ⟨asTA, eTAHa, laTA, hTAHa⟩ := flTa
  refine ⟨_, rfl, ?_⟩
  refine ⟨_, rfl, TA, rfl, ⟨_, .of eTAHa⟩, fun D1 nD1 => ?_⟩
  refine lc_list (K := K) (a := TA) (xs := asTA.map V.ref) (fun j Hj => Same Ha Hj ∧ ∃ bs : List Addr, Hj D1 = some (.lst (bs.map V.ref)) ∧ bs.length = j ∧ ∀ (i : Nat) (b : Addr) (rs : List Row), bs[i]? = some b → T[i]? = some rs → b ≠ D1 ∧ RL Hj b (distG rs)) ⟨same_upd nD1, [], upd_same, rfl, fun i b rs h => by simp at h⟩ (fun j Hj _ hp => .of (hp.1 _ _ eTAHa)) (fun j y Hj hy hp => ?_) (fun Hb hp => ?_)
  · obtain ⟨sj, bs, eD, lbs, hbs⟩ := hp
    rw [List.getElem?_map] at hy
    obtain ⟨ta, hta, rfl⟩ := Option.map_eq_some_iff.mp hy
    have hjA := (List.getElem?_eq_some_iff.mp hta).1
    have hjT : j < T.length := by rw [← laTA]; exact hjA
    have hTj := List.getElem?_eq_getElem hjT
    have hRL := (hTAHa j ta _ hta hTj).same sj
    obtain ⟨okr, lrs⟩ := okTr j _ hTj
    obtain ⟨zs, hz1, hz2, ezs⟩ := hRL
    have lzs : zs.length ≤ 5 := by rw [← List.length_map (f := Prod.snd), ezs]; exact lrs
    refine ⟨rfl, ?_⟩
    refine ⟨_, rfl, ta, zs.map arG, rfl, by rw [List.map_map]; exact .of hz1, fun x hx => ?_, fun x hx => ?_, by rw [List.length_map]; omega, fun H' p s' np eL => ?_⟩
    · obtain ⟨y, hy, rfl⟩ := List.mem_map.mp hx
      exact dp_rowP (.of (hz2 y hy))
    · obtain ⟨y, hy, rfl⟩ := List.mem_map.mp hx
      exact rowP_lay (okr y.2 (ezs ▸ List.mem_map.mpr ⟨y, hy, rfl⟩))
    rw [distP_rows, List.map_map] at eL
    have hR : RL H' p (distG T[j]) := ⟨distA zs, eL, fun m hm => s' _ _ (hz2 m ((distA_spec zs).2.1 m hm)), by rw [distA_rows, ezs]⟩
    have eD' := s' _ _ eD
    have npD : p ≠ D1 := fun e => by rw [e, eD] at np; cases np
    refine ⟨_, eD', by rw [List.length_map]; exact small1 (by omega), fun b o e => ?_, bs ++ [p], ?_, by rw [List.length_append, lbs]; rfl, fun i b rs h1 h2 => ?_⟩
    · rw [upd_ne (ne_of_none e nD1)]
      exact s' _ _ (sj _ _ e)
    · rw [upd_same, List.map_append]
      rfl
    · by_cases e : i < j
      · rw [List.getElem?_append_left (by omega)] at h1
        obtain ⟨g1, g2⟩ := hbs i b rs h1 h2
        exact ⟨g1, (g2.same s').upd eD' g1⟩
      · rw [List.getElem?_append_right (by omega)] at h1
        have e2 : i - bs.length = 0 := by
          have := (List.getElem?_eq_some_iff.mp h1).1
          rw [List.length_singleton] at this
          omega
        rw [e2] at h1
        obtain rfl := Option.some.inj h1
        have ei : i = j := by omega
        rw [ei, hTj] at h2
        obtain rfl := Option.some.inj h2
        exact ⟨npD, hR.upd eD' npD⟩
  obtain ⟨sb, bs, eD1, lbs, hbs⟩ := hp
  rw [List.length_map] at lbs
  have flD1 : FL Hb D1 (T.map distG) := ⟨bs, eD1, by rw [List.length_map, lbs, laTA], fun i b rs h1 h2 => by
    rw [List.getElem?_map] at h2
    obtain ⟨rs0, g0, rfl⟩ := Option.map_eq_some_iff.mp h2
    exact (hbs i b rs0 h1 g0).2⟩
  have flGb := flGa.same sb
  obtain ⟨asGA, eGAHb, laGA, hGAHb⟩ := flGb
  refine ⟨_, rfl, GA, rfl, ⟨_, .of eGAHb⟩, fun D2 nD2 => ?_⟩
  refine lc_list (K := K) (a := GA) (xs := asGA.map V.ref) (fun j Hj => Same Hb Hj ∧ ∃ bs : List Addr, Hj D2 = some (.lst (bs.map V.ref)) ∧ bs.length = j ∧ ∀ (i : Nat) (b : Addr) (rs : List Row), bs[i]? = some b → G[i]? = some rs → b ≠ D2 ∧ RL Hj b (distG rs)) ⟨same_upd nD2, [], upd_same, rfl, fun i b rs h => by simp at h⟩ (fun j Hj _ hp => .of (hp.1 _ _ eGAHb)) (fun j y Hj hy hp => ?_) (fun Hc hp => ?_)
  · obtain ⟨sj, bs, eD, lbs, hbs⟩ := hp
    rw [List.getElem?_map] at hy
    obtain ⟨ta, hta, rfl⟩ := Option.map_eq_some_iff.mp hy
    have hjA := (List.getElem?_eq_some_iff.mp hta).1
    have hjT : j < G.length := by rw [← laGA]; exact hjA
    have hTj := List.getElem?_eq_getElem hjT
    have hRL := (hGAHb j ta _ hta hTj).same sj
    obtain ⟨okr, lrs⟩ := okGr j _ hTj
    obtain ⟨zs, hz1, hz2, ezs⟩ := hRL
    have lzs : zs.length ≤ 5 := by rw [← List.length_map (f := Prod.snd), ezs]; exact lrs
    refine ⟨rfl, ?_⟩
    refine ⟨_, rfl, ta, zs.map arG, rfl, by rw [List.map_map]; exact .of hz1, fun x hx => ?_, fun x hx => ?_, by rw [List.length_map]; omega, fun H' p s' np eL => ?_⟩
    · obtain ⟨y, hy, rfl⟩ := List.mem_map.mp hx
      exact dp_rowP (.of (hz2 y hy))
    · obtain ⟨y, hy, rfl⟩ := List.mem_map.mp hx
      exact rowP_lay (okr y.2 (ezs ▸ List.mem_map.mpr ⟨y, hy, rfl⟩))
    rw [distP_rows, List.map_map] at eL
    have hR : RL H' p (distG G[j]) := ⟨distA zs, eL, fun m hm => s' _ _ (hz2 m ((distA_spec zs).2.1 m hm)), by rw [distA_rows, ezs]⟩
    have eD' := s' _ _ eD
    have npD : p ≠ D2 := fun e => by rw [e, eD] at np; cases np
    refine ⟨_, eD', by rw [List.length_map]; exact small1 (by omega), fun b o e => ?_, bs ++ [p], ?_, by rw [List.length_append, lbs]; rfl, fun i b rs h1 h2 => ?_⟩
    · rw [upd_ne (ne_of_none e nD2)]
      exact s' _ _ (sj _ _ e)
    · rw [upd_same, List.map_append]
      rfl
    · by_cases e : i < j
      · rw [List.getElem?_append_left (by omega)] at h1
        obtain ⟨g1, g2⟩ := hbs i b rs h1 h2
        exact ⟨g1, (g2.same s').upd eD' g1⟩
      · rw [List.getElem?_append_right (by omega)] at h1
        have e2 : i - bs.length = 0 := by
          have := (List.getElem?_eq_some_iff.mp h1).1
          rw [List.length_singleton] at this
          omega
        rw [e2] at h1
        obtain rfl := Option.some.inj h1
        have ei : i = j := by omega
        rw [ei, hTj] at h2
        obtain rfl := Option.some.inj h2
        exact ⟨npD, hR.upd eD' npD⟩
  obtain ⟨sc, bs2, eD2, lbs2, hbs2⟩ := hp
  rw [List.length_map] at lbs2
  have flD2 : FL Hc D2 (G.map distG) := ⟨bs2, eD2, by rw [List.length_map, lbs2, laGA], fun i b rs h1 h2 => by
    rw [List.getElem?_map] at h2
    obtain ⟨rs0, g0, rfl⟩ := Option.map_eq_some_iff.mp h2
    exact (hbs2 i b rs0 h1 g0).2⟩
  have sac := sb.trans sc
  refine ⟨x, D1, D2, ops, T.map distG, G.map distG, ws, ss, wz, rfl, Dp.ext sac _ _ hxa, one, by omega, flD1.same sc, flD2, fsD fsT, fsD fsG, lpl, fun Hd pd sd hRd => ?_⟩
  -- the last rows
  obtain ⟨q1, q2⟩ := lpl_at (fsD fsT) (fsD fsG) lpl ops.length (Nat.le_refl _)
  rw [List.take_length] at q1 q2
  have hpos : 0 < ops.length := List.length_pos_iff.mpr one
  have hll := lruns_len (T.map distG) (G.map distG) ops
  have hlast : (lruns (T.map distG) (G.map distG) ops)[ops.length - 1]? = some ((lruns (T.map distG) (G.map distG) ops).getLastD []) := by
    rw [List.getLastD_eq_getLast?, List.getLast?_eq_getElem?, hll, List.getElem?_eq_getElem (by omega)]
    rfl
  have hwl := List.getElem?_eq_getElem (show ops.length - 1 < (wz.take ops.length).length by rw [List.length_take]; omega)
  have hRl := q1.2 _ _ _ hlast hwl
  obtain ⟨ql1, ql2⟩ := q2 _ (List.mem_of_getElem? hlast)
  obtain ⟨zs, hz1, hz2, ezs⟩ := hRd
  have hw14 : 1 ≤ (wz.take ops.length)[ops.length - 1]'(by rw [List.length_take]; omega) ∧ (wz.take ops.length)[ops.length - 1]'(by rw [List.length_take]; omega) ≤ 4 := by
    have hm := List.mem_of_mem_take (List.mem_of_getElem? hwl)
    obtain ⟨i, hi⟩ := List.mem_iff_getElem?.mp hm
    have hil := (List.getElem?_eq_some_iff.mp hi).1
    exact (hok i _ _ (List.getElem?_eq_getElem (by omega)) hi).2
  have hrk := rok_of hRl hw14.1 (by omega)
  refine ⟨pd, zs, rfl, .of hz1, hz2, fun z hz => hrk z.2 (ezs ▸ List.mem_map.mpr ⟨z, hz, rfl⟩), by rw [← List.length_map (f := Prod.snd), ezs]; exact ql2, fun He pe zs' se npe epe sub lz asc mem => ?_⟩
  have edue : zs'.map Prod.snd = (runs T G ops).getLastD [] := by
    rw [← last_eq (dmem T) (dmem G) one]
    refine ord_of asc fun r => ?_
    rw [mem r, ezs]
  have hdue : RL He pe ((runs T G ops).getLastD []) := ⟨zs', epe, fun m hm => se _ _ (hz2 m (sub m hm)), edue⟩
  have sae := sac.trans (sd.trans se)
  have hfound := hRf.same sae
  have hrows : ∀ r ∈ (runs T G ops).getLastD [], r.length ≤ 1000 := fun r hr => by
    rw [← edue, mem r, ezs] at hr
    exact (hrk r hr).2
  have hcnt : ((runs T G ops).getLastD []).length ≤ 1000 := by
    rw [← edue, List.length_map]
    have h5 : zs.length ≤ 1000 := by rw [← List.length_map (f := Prod.snd), ezs]; exact ql2
    omega
  refine ⟨_, rfl, _, rfl, .ref fa, .ref pe, rowsD ((runs T G ops).getLastD []), 2, rfl, rfl, sh_rows hcnt hrows, rl_dp hfound, rl_dp hdue, fun Hf sf => ⟨_, rfl, iteT ?_⟩⟩
  refine ⟨_, rfl, _, rfl, _, rfl, (by show 3 ≤ sizeLine; decide), fun L2 nL2 => ?_⟩
  have s9f := sa.trans (sae.trans sf)
  have sL2 := same_upd nL2 (o := .lst [x, .ref TA, .ref GA])
  have s9L := s9f.trans sL2
  refine ⟨L2, _, rfl, .lst (.of upd_same) (.cons (Dp.ext s9L _ _ hx9) (.cons (fl_dp (flT.same s9L)) (.cons (fl_dp (flG.same s9L)) .nil))), w1, w2, w3, w4, ?_⟩
  rw [eK]
  refine ⟨_, rfl, rfl, ?_⟩
  rw [show decide (V.str kept = V.str kept) = true from decide_eq_true rfl]
  exact q _
end

set_option maxHeartbeats 0 in
theorem all_mk {l : PySem.W.OpenLaw} {w : World} {K : PySem.W.Frag} {h : Heap} {mg : Str → Option Value} {fa : Addr} (X : K.In h) (G : h.Ns mainGlobals mg) (hfa : mg "law" = some (.ref fa))
    {od0 an0 : Option Addr} {sl0 : Array (Option Value)} {oc0 kV0 dc0 pm0 cd0 ct0 : Value} {f0 : Addr}
    {od1 an1 : Option Addr} {sl1 : Array (Option Value)} {oc1 kV1 dc1 pm1 cd1 ct1 : Value} {f1 : Addr}
    {od2 an2 : Option Addr} {sl2 : Array (Option Value)} {oc2 kV2 dc2 pm2 cd2 ct2 : Value} {f2 : Addr}
    {od3 an3 : Option Addr} {sl3 : Array (Option Value)} {oc3 kV3 dc3 pm3 cd3 ct3 : Value} {f3 : Addr}
    {od4 an4 : Option Addr} {sl4 : Array (Option Value)} {oc4 kV4 dc4 pm4 cd4 ct4 : Value} {f4 : Addr}
    {od5 an5 : Option Addr} {sl5 : Array (Option Value)} {oc5 kV5 dc5 pm5 cd5 ct5 : Value} {f5 : Addr}
    {od6 an6 : Option Addr} {sl6 : Array (Option Value)} {oc6 kV6 dc6 pm6 cd6 ct6 : Value} {f6 : Addr}
    {od7 an7 : Option Addr} {sl7 : Array (Option Value)} {oc7 kV7 dc7 pm7 cd7 ct7 : Value} {f7 : Addr}
    {od8 an8 : Option Addr} {sl8 : Array (Option Value)} {oc8 kV8 dc8 pm8 cd8 ct8 : Value} {f8 : Addr}
    {od9 an9 : Option Addr} {sl9 : Array (Option Value)} {oc9 kV9 dc9 pm9 cd9 ct9 : Value} {f9 : Addr}
    {od10 an10 : Option Addr} {sl10 : Array (Option Value)} {oc10 kV10 dc10 pm10 cd10 ct10 : Value} {f10 : Addr}
    {od11 an11 : Option Addr} {sl11 : Array (Option Value)} {oc11 kV11 dc11 pm11 cd11 ct11 : Value} {f11 : Addr}
    {od12 an12 : Option Addr} {sl12 : Array (Option Value)} {oc12 kV12 dc12 pm12 cd12 ct12 : Value} {f12 : Addr}
    {od13 an13 : Option Addr} {sl13 : Array (Option Value)} {oc13 kV13 dc13 pm13 cd13 ct13 : Value} {f13 : Addr}
    {od14 an14 : Option Addr} {sl14 : Array (Option Value)} {oc14 kV14 dc14 pm14 cd14 ct14 : Value} {f14 : Addr}
    {od15 an15 : Option Addr} {sl15 : Array (Option Value)} {oc15 kV15 dc15 pm15 cd15 ct15 : Value} {f15 : Addr}
    {od16 an16 : Option Addr} {sl16 : Array (Option Value)} {oc16 kV16 dc16 pm16 cd16 ct16 : Value} {f16 : Addr}
    {od17 an17 : Option Addr} {sl17 : Array (Option Value)} {oc17 kV17 dc17 pm17 cd17 ct17 : Value} {f17 : Addr}
    {od18 an18 : Option Addr} {sl18 : Array (Option Value)} {oc18 kV18 dc18 pm18 cd18 ct18 : Value} {f18 : Addr}
    {od19 an19 : Option Addr} {sl19 : Array (Option Value)} {oc19 kV19 dc19 pm19 cd19 ct19 : Value} {f19 : Addr}
    {od20 an20 : Option Addr} {sl20 : Array (Option Value)} {oc20 kV20 dc20 pm20 cd20 ct20 : Value} {f20 : Addr}
    {od21 an21 : Option Addr} {sl21 : Array (Option Value)} {oc21 kV21 dc21 pm21 cd21 ct21 : Value} {f21 : Addr}
    {od22 an22 : Option Addr} {sl22 : Array (Option Value)} {oc22 kV22 dc22 pm22 cd22 ct22 : Value} {f22 : Addr}
    {od23 an23 : Option Addr} {sl23 : Array (Option Value)} {oc23 kV23 dc23 pm23 cd23 ct23 : Value} {f23 : Addr}
    {od24 an24 : Option Addr} {sl24 : Array (Option Value)} {oc24 kV24 dc24 pm24 cd24 ct24 : Value} {f24 : Addr}
    {od25 an25 : Option Addr} {sl25 : Array (Option Value)} {oc25 kV25 dc25 pm25 cd25 ct25 : Value} {f25 : Addr}
    {od26 an26 : Option Addr} {sl26 : Array (Option Value)} {oc26 kV26 dc26 pm26 cd26 ct26 : Value} {f26 : Addr}
    {od27 an27 : Option Addr} {sl27 : Array (Option Value)} {oc27 kV27 dc27 pm27 cd27 ct27 : Value} {f27 : Addr}
    {od28 an28 : Option Addr} {sl28 : Array (Option Value)} {oc28 kV28 dc28 pm28 cd28 ct28 : Value} {f28 : Addr}
    {od29 an29 : Option Addr} {sl29 : Array (Option Value)} {oc29 kV29 dc29 pm29 cd29 ct29 : Value} {f29 : Addr}
    {od30 an30 : Option Addr} {sl30 : Array (Option Value)} {oc30 kV30 dc30 pm30 cd30 ct30 : Value} {f30 : Addr}
    {od31 an31 : Option Addr} {sl31 : Array (Option Value)} {oc31 kV31 dc31 pm31 cd31 ct31 : Value} {f31 : Addr}
    {od32 an32 : Option Addr} {sl32 : Array (Option Value)} {oc32 kV32 dc32 pm32 cd32 ct32 : Value} {f32 : Addr}
    {od33 an33 : Option Addr} {sl33 : Array (Option Value)} {oc33 kV33 dc33 pm33 cd33 ct33 : Value} {f33 : Addr}
    {od34 an34 : Option Addr} {sl34 : Array (Option Value)} {oc34 kV34 dc34 pm34 cd34 ct34 : Value} {f34 : Addr}
    {od35 an35 : Option Addr} {sl35 : Array (Option Value)} {oc35 kV35 dc35 pm35 cd35 ct35 : Value} {f35 : Addr}
    {od36 an36 : Option Addr} {sl36 : Array (Option Value)} {oc36 kV36 dc36 pm36 cd36 ct36 : Value} {f36 : Addr}
    {od37 an37 : Option Addr} {sl37 : Array (Option Value)} {oc37 kV37 dc37 pm37 cd37 ct37 : Value} {f37 : Addr}
    {od38 an38 : Option Addr} {sl38 : Array (Option Value)} {oc38 kV38 dc38 pm38 cd38 ct38 : Value} {f38 : Addr}
    {od39 an39 : Option Addr} {sl39 : Array (Option Value)} {oc39 kV39 dc39 pm39 cd39 ct39 : Value} {f39 : Addr}
    {od40 an40 : Option Addr} {sl40 : Array (Option Value)} {oc40 kV40 dc40 pm40 cd40 ct40 : Value} {f40 : Addr}
    {od41 an41 : Option Addr} {sl41 : Array (Option Value)} {oc41 kV41 dc41 pm41 cd41 ct41 : Value} {f41 : Addr}
    {od42 an42 : Option Addr} {sl42 : Array (Option Value)} {oc42 kV42 dc42 pm42 cd42 ct42 : Value} {f42 : Addr}
    {od43 an43 : Option Addr} {sl43 : Array (Option Value)} {oc43 kV43 dc43 pm43 cd43 ct43 : Value} {f43 : Addr}
    {od44 an44 : Option Addr} {sl44 : Array (Option Value)} {oc44 kV44 dc44 pm44 cd44 ct44 : Value} {f44 : Addr}
    {od45 an45 : Option Addr} {sl45 : Array (Option Value)} {oc45 kV45 dc45 pm45 cd45 ct45 : Value} {f45 : Addr}
    {od46 an46 : Option Addr} {sl46 : Array (Option Value)} {oc46 kV46 dc46 pm46 cd46 ct46 : Value} {f46 : Addr}
    {od47 an47 : Option Addr} {sl47 : Array (Option Value)} {oc47 kV47 dc47 pm47 cd47 ct47 : Value} {f47 : Addr}
    {od48 an48 : Option Addr} {sl48 : Array (Option Value)} {oc48 kV48 dc48 pm48 cd48 ct48 : Value} {f48 : Addr}
    {od49 an49 : Option Addr} {sl49 : Array (Option Value)} {oc49 kV49 dc49 pm49 cd49 ct49 : Value} {f49 : Addr}
    {od50 an50 : Option Addr} {sl50 : Array (Option Value)} {oc50 kV50 dc50 pm50 cd50 ct50 : Value} {f50 : Addr}
    {od51 an51 : Option Addr} {sl51 : Array (Option Value)} {oc51 kV51 dc51 pm51 cd51 ct51 : Value} {f51 : Addr}
    {od52 an52 : Option Addr} {sl52 : Array (Option Value)} {oc52 kV52 dc52 pm52 cd52 ct52 : Value} {f52 : Addr}
    {od53 an53 : Option Addr} {sl53 : Array (Option Value)} {oc53 kV53 dc53 pm53 cd53 ct53 : Value} {f53 : Addr}
    {od54 an54 : Option Addr} {sl54 : Array (Option Value)} {oc54 kV54 dc54 pm54 cd54 ct54 : Value} {f54 : Addr}
    {od55 an55 : Option Addr} {sl55 : Array (Option Value)} {oc55 kV55 dc55 pm55 cd55 ct55 : Value} {f55 : Addr}
    {od56 an56 : Option Addr} {sl56 : Array (Option Value)} {oc56 kV56 dc56 pm56 cd56 ct56 : Value} {f56 : Addr}
    {od57 an57 : Option Addr} {sl57 : Array (Option Value)} {oc57 kV57 dc57 pm57 cd57 ct57 : Value} {f57 : Addr}
    {od58 an58 : Option Addr} {sl58 : Array (Option Value)} {oc58 kV58 dc58 pm58 cd58 ct58 : Value} {f58 : Addr}
    {od59 an59 : Option Addr} {sl59 : Array (Option Value)} {oc59 kV59 dc59 pm59 cd59 ct59 : Value} {f59 : Addr}
    {od60 an60 : Option Addr} {sl60 : Array (Option Value)} {oc60 kV60 dc60 pm60 cd60 ct60 : Value} {f60 : Addr}
    {od61 an61 : Option Addr} {sl61 : Array (Option Value)} {oc61 kV61 dc61 pm61 cd61 ct61 : Value} {f61 : Addr}
    {od62 an62 : Option Addr} {sl62 : Array (Option Value)} {oc62 kV62 dc62 pm62 cd62 ct62 : Value} {f62 : Addr}
    {od63 an63 : Option Addr} {sl63 : Array (Option Value)} {oc63 kV63 dc63 pm63 cd63 ct63 : Value} {f63 : Addr}
    {od64 an64 : Option Addr} {sl64 : Array (Option Value)} {oc64 kV64 dc64 pm64 cd64 ct64 : Value} {f64 : Addr}
    (a0 : PySem.W.nsIn K mainGlobals "value_key" = some (some (.ref f0))) (l0 : K.lookup f0 = some ⟨oc0, od0, .func (PySem.W.fnOf "value_key" "value_key" (defArgs s_value_key) (defBody s_value_key) (defScope s_value_key) .none kV0 dc0 pm0 an0 cd0 ct0), sl0⟩) (c0 : PySem.W.codeIn K cd0 "value_key" = true) (k0 : PySem.W.keepIn K (.ref f0) = true)
    (a1 : PySem.W.nsIn K mainGlobals "row_key" = some (some (.ref f1))) (l1 : K.lookup f1 = some ⟨oc1, od1, .func (PySem.W.fnOf "row_key" "row_key" (defArgs s_row_key) (defBody s_row_key) (defScope s_row_key) .none kV1 dc1 pm1 an1 cd1 ct1), sl1⟩) (c1 : PySem.W.codeIn K cd1 "row_key" = true) (k1 : PySem.W.keepIn K (.ref f1) = true)
    (a2 : PySem.W.nsIn K mainGlobals "is_true" = some (some (.ref f2))) (l2 : K.lookup f2 = some ⟨oc2, od2, .func (PySem.W.fnOf "is_true" "is_true" (defArgs s_is_true) (defBody s_is_true) (defScope s_is_true) .none kV2 dc2 pm2 an2 cd2 ct2), sl2⟩) (c2 : PySem.W.codeIn K cd2 "is_true" = true) (k2 : PySem.W.keepIn K (.ref f2) = true)
    (a3 : PySem.W.nsIn K mainGlobals "is_false" = some (some (.ref f3))) (l3 : K.lookup f3 = some ⟨oc3, od3, .func (PySem.W.fnOf "is_false" "is_false" (defArgs s_is_false) (defBody s_is_false) (defScope s_is_false) .none kV3 dc3 pm3 an3 cd3 ct3), sl3⟩) (c3 : PySem.W.codeIn K cd3 "is_false" = true) (k3 : PySem.W.keepIn K (.ref f3) = true)
    (a4 : PySem.W.nsIn K mainGlobals "bounded" = some (some (.ref f4))) (l4 : K.lookup f4 = some ⟨oc4, od4, .func (PySem.W.fnOf "bounded" "bounded" (defArgs s_bounded) (defBody s_bounded) (defScope s_bounded) .none kV4 dc4 pm4 an4 cd4 ct4), sl4⟩) (c4 : PySem.W.codeIn K cd4 "bounded" = true) (k4 : PySem.W.keepIn K (.ref f4) = true)
    (a5 : PySem.W.nsIn K mainGlobals "are_integers" = some (some (.ref f5))) (l5 : K.lookup f5 = some ⟨oc5, od5, .func (PySem.W.fnOf "are_integers" "are_integers" (defArgs s_are_integers) (defBody s_are_integers) (defScope s_are_integers) .none kV5 dc5 pm5 an5 cd5 ct5), sl5⟩) (c5 : PySem.W.codeIn K cd5 "are_integers" = true) (k5 : PySem.W.keepIn K (.ref f5) = true)
    (a6 : PySem.W.nsIn K mainGlobals "negate" = some (some (.ref f6))) (l6 : K.lookup f6 = some ⟨oc6, od6, .func (PySem.W.fnOf "negate" "negate" (defArgs s_negate) (defBody s_negate) (defScope s_negate) .none kV6 dc6 pm6 an6 cd6 ct6), sl6⟩) (c6 : PySem.W.codeIn K cd6 "negate" = true) (k6 : PySem.W.keepIn K (.ref f6) = true)
    (a7 : PySem.W.nsIn K mainGlobals "add" = some (some (.ref f7))) (l7 : K.lookup f7 = some ⟨oc7, od7, .func (PySem.W.fnOf "add" "add" (defArgs s_add) (defBody s_add) (defScope s_add) .none kV7 dc7 pm7 an7 cd7 ct7), sl7⟩) (c7 : PySem.W.codeIn K cd7 "add" = true) (k7 : PySem.W.keepIn K (.ref f7) = true)
    (a8 : PySem.W.nsIn K mainGlobals "subtract" = some (some (.ref f8))) (l8 : K.lookup f8 = some ⟨oc8, od8, .func (PySem.W.fnOf "subtract" "subtract" (defArgs s_subtract) (defBody s_subtract) (defScope s_subtract) .none kV8 dc8 pm8 an8 cd8 ct8), sl8⟩) (c8 : PySem.W.codeIn K cd8 "subtract" = true) (k8 : PySem.W.keepIn K (.ref f8) = true)
    (a9 : PySem.W.nsIn K mainGlobals "multiply" = some (some (.ref f9))) (l9 : K.lookup f9 = some ⟨oc9, od9, .func (PySem.W.fnOf "multiply" "multiply" (defArgs s_multiply) (defBody s_multiply) (defScope s_multiply) .none kV9 dc9 pm9 an9 cd9 ct9), sl9⟩) (c9 : PySem.W.codeIn K cd9 "multiply" = true) (k9 : PySem.W.keepIn K (.ref f9) = true)
    (a10 : PySem.W.nsIn K mainGlobals "divide" = some (some (.ref f10))) (l10 : K.lookup f10 = some ⟨oc10, od10, .func (PySem.W.fnOf "divide" "divide" (defArgs s_divide) (defBody s_divide) (defScope s_divide) .none kV10 dc10 pm10 an10 cd10 ct10), sl10⟩) (c10 : PySem.W.codeIn K cd10 "divide" = true) (k10 : PySem.W.keepIn K (.ref f10) = true)
    (a11 : PySem.W.nsIn K mainGlobals "remainder" = some (some (.ref f11))) (l11 : K.lookup f11 = some ⟨oc11, od11, .func (PySem.W.fnOf "remainder" "remainder" (defArgs s_remainder) (defBody s_remainder) (defScope s_remainder) .none kV11 dc11 pm11 an11 cd11 ct11), sl11⟩) (c11 : PySem.W.codeIn K cd11 "remainder" = true) (k11 : PySem.W.keepIn K (.ref f11) = true)
    (a12 : PySem.W.nsIn K mainGlobals "less" = some (some (.ref f12))) (l12 : K.lookup f12 = some ⟨oc12, od12, .func (PySem.W.fnOf "less" "less" (defArgs s_less) (defBody s_less) (defScope s_less) .none kV12 dc12 pm12 an12 cd12 ct12), sl12⟩) (c12 : PySem.W.codeIn K cd12 "less" = true) (k12 : PySem.W.keepIn K (.ref f12) = true)
    (a13 : PySem.W.nsIn K mainGlobals "equal" = some (some (.ref f13))) (l13 : K.lookup f13 = some ⟨oc13, od13, .func (PySem.W.fnOf "equal" "equal" (defArgs s_equal) (defBody s_equal) (defScope s_equal) .none kV13 dc13 pm13 an13 cd13 ct13), sl13⟩) (c13 : PySem.W.codeIn K cd13 "equal" = true) (k13 : PySem.W.keepIn K (.ref f13) = true)
    (a14 : PySem.W.nsIn K mainGlobals "conjunction" = some (some (.ref f14))) (l14 : K.lookup f14 = some ⟨oc14, od14, .func (PySem.W.fnOf "conjunction" "conjunction" (defArgs s_conjunction) (defBody s_conjunction) (defScope s_conjunction) .none kV14 dc14 pm14 an14 cd14 ct14), sl14⟩) (c14 : PySem.W.codeIn K cd14 "conjunction" = true) (k14 : PySem.W.keepIn K (.ref f14) = true)
    (a15 : PySem.W.nsIn K mainGlobals "disjunction" = some (some (.ref f15))) (l15 : K.lookup f15 = some ⟨oc15, od15, .func (PySem.W.fnOf "disjunction" "disjunction" (defArgs s_disjunction) (defBody s_disjunction) (defScope s_disjunction) .none kV15 dc15 pm15 an15 cd15 ct15), sl15⟩) (c15 : PySem.W.codeIn K cd15 "disjunction" = true) (k15 : PySem.W.keepIn K (.ref f15) = true)
    (a16 : PySem.W.nsIn K mainGlobals "negation" = some (some (.ref f16))) (l16 : K.lookup f16 = some ⟨oc16, od16, .func (PySem.W.fnOf "negation" "negation" (defArgs s_negation) (defBody s_negation) (defScope s_negation) .none kV16 dc16 pm16 an16 cd16 ct16), sl16⟩) (c16 : PySem.W.codeIn K cd16 "negation" = true) (k16 : PySem.W.keepIn K (.ref f16) = true)
    (a17 : PySem.W.nsIn K mainGlobals "missing" = some (some (.ref f17))) (l17 : K.lookup f17 = some ⟨oc17, od17, .func (PySem.W.fnOf "missing" "missing" (defArgs s_missing) (defBody s_missing) (defScope s_missing) .none kV17 dc17 pm17 an17 cd17 ct17), sl17⟩) (c17 : PySem.W.codeIn K cd17 "missing" = true) (k17 : PySem.W.keepIn K (.ref f17) = true)
    (a18 : PySem.W.nsIn K mainGlobals "choose" = some (some (.ref f18))) (l18 : K.lookup f18 = some ⟨oc18, od18, .func (PySem.W.fnOf "choose" "choose" (defArgs s_choose) (defBody s_choose) (defScope s_choose) .none kV18 dc18 pm18 an18 cd18 ct18), sl18⟩) (c18 : PySem.W.codeIn K cd18 "choose" = true) (k18 : PySem.W.keepIn K (.ref f18) = true)
    (a19 : PySem.W.nsIn K mainGlobals "length" = some (some (.ref f19))) (l19 : K.lookup f19 = some ⟨oc19, od19, .func (PySem.W.fnOf "length" "length" (defArgs s_length) (defBody s_length) (defScope s_length) .none kV19 dc19 pm19 an19 cd19 ct19), sl19⟩) (c19 : PySem.W.codeIn K cd19 "length" = true) (k19 : PySem.W.keepIn K (.ref f19) = true)
    (a20 : PySem.W.nsIn K mainGlobals "starts" = some (some (.ref f20))) (l20 : K.lookup f20 = some ⟨oc20, od20, .func (PySem.W.fnOf "starts" "starts" (defArgs s_starts) (defBody s_starts) (defScope s_starts) .none kV20 dc20 pm20 an20 cd20 ct20), sl20⟩) (c20 : PySem.W.codeIn K cd20 "starts" = true) (k20 : PySem.W.keepIn K (.ref f20) = true)
    (a21 : PySem.W.nsIn K mainGlobals "evaluate" = some (some (.ref f21))) (l21 : K.lookup f21 = some ⟨oc21, od21, .func (PySem.W.fnOf "evaluate" "evaluate" (defArgs s_evaluate) (defBody s_evaluate) (defScope s_evaluate) .none kV21 dc21 pm21 an21 cd21 ct21), sl21⟩) (c21 : PySem.W.codeIn K cd21 "evaluate" = true) (k21 : PySem.W.keepIn K (.ref f21) = true)
    (a22 : PySem.W.nsIn K mainGlobals "total" = some (some (.ref f22))) (l22 : K.lookup f22 = some ⟨oc22, od22, .func (PySem.W.fnOf "total" "total" (defArgs s_total) (defBody s_total) (defScope s_total) .none kV22 dc22 pm22 an22 cd22 ct22), sl22⟩) (c22 : PySem.W.codeIn K cd22 "total" = true) (k22 : PySem.W.keepIn K (.ref f22) = true)
    (a23 : PySem.W.nsIn K mainGlobals "exact_sum" = some (some (.ref f23))) (l23 : K.lookup f23 = some ⟨oc23, od23, .func (PySem.W.fnOf "exact_sum" "exact_sum" (defArgs s_exact_sum) (defBody s_exact_sum) (defScope s_exact_sum) .none kV23 dc23 pm23 an23 cd23 ct23), sl23⟩) (c23 : PySem.W.codeIn K cd23 "exact_sum" = true) (k23 : PySem.W.keepIn K (.ref f23) = true)
    (a24 : PySem.W.nsIn K mainGlobals "query_rows" = some (some (.ref f24))) (l24 : K.lookup f24 = some ⟨oc24, od24, .func (PySem.W.fnOf "query_rows" "query_rows" (defArgs s_query_rows) (defBody s_query_rows) (defScope s_query_rows) .none kV24 dc24 pm24 an24 cd24 ct24), sl24⟩) (c24 : PySem.W.codeIn K cd24 "query_rows" = true) (k24 : PySem.W.keepIn K (.ref f24) = true)
    (a25 : PySem.W.nsIn K mainGlobals "in_order" = some (some (.ref f25))) (l25 : K.lookup f25 = some ⟨oc25, od25, .func (PySem.W.fnOf "in_order" "in_order" (defArgs s_in_order) (defBody s_in_order) (defScope s_in_order) .none kV25 dc25 pm25 an25 cd25 ct25), sl25⟩) (c25 : PySem.W.codeIn K cd25 "in_order" = true) (k25 : PySem.W.keepIn K (.ref f25) = true)
    (a26 : PySem.W.nsIn K mainGlobals "values_of" = some (some (.ref f26))) (l26 : K.lookup f26 = some ⟨oc26, od26, .func (PySem.W.fnOf "values_of" "values_of" (defArgs s_values_of) (defBody s_values_of) (defScope s_values_of) .none kV26 dc26 pm26 an26 cd26 ct26), sl26⟩) (c26 : PySem.W.codeIn K cd26 "values_of" = true) (k26 : PySem.W.keepIn K (.ref f26) = true)
    (a27 : PySem.W.nsIn K mainGlobals "matches" = some (some (.ref f27))) (l27 : K.lookup f27 = some ⟨oc27, od27, .func (PySem.W.fnOf "matches" "matches" (defArgs s_matches) (defBody s_matches) (defScope s_matches) .none kV27 dc27 pm27 an27 cd27 ct27), sl27⟩) (c27 : PySem.W.codeIn K cd27 "matches" = true) (k27 : PySem.W.keepIn K (.ref f27) = true)
    (a28 : PySem.W.nsIn K mainGlobals "matches_any" = some (some (.ref f28))) (l28 : K.lookup f28 = some ⟨oc28, od28, .func (PySem.W.fnOf "matches_any" "matches_any" (defArgs s_matches_any) (defBody s_matches_any) (defScope s_matches_any) .none kV28 dc28 pm28 an28 cd28 ct28), sl28⟩) (c28 : PySem.W.codeIn K cd28 "matches_any" = true) (k28 : PySem.W.keepIn K (.ref f28) = true)
    (a29 : PySem.W.nsIn K mainGlobals "filter_rows" = some (some (.ref f29))) (l29 : K.lookup f29 = some ⟨oc29, od29, .func (PySem.W.fnOf "filter_rows" "filter_rows" (defArgs s_filter_rows) (defBody s_filter_rows) (defScope s_filter_rows) .none kV29 dc29 pm29 an29 cd29 ct29), sl29⟩) (c29 : PySem.W.codeIn K cd29 "filter_rows" = true) (k29 : PySem.W.keepIn K (.ref f29) = true)
    (a30 : PySem.W.nsIn K mainGlobals "map_rows" = some (some (.ref f30))) (l30 : K.lookup f30 = some ⟨oc30, od30, .func (PySem.W.fnOf "map_rows" "map_rows" (defArgs s_map_rows) (defBody s_map_rows) (defScope s_map_rows) .none kV30 dc30 pm30 an30 cd30 ct30), sl30⟩) (c30 : PySem.W.codeIn K cd30 "map_rows" = true) (k30 : PySem.W.keepIn K (.ref f30) = true)
    (a31 : PySem.W.nsIn K mainGlobals "join_rows" = some (some (.ref f31))) (l31 : K.lookup f31 = some ⟨oc31, od31, .func (PySem.W.fnOf "join_rows" "join_rows" (defArgs s_join_rows) (defBody s_join_rows) (defScope s_join_rows) .none kV31 dc31 pm31 an31 cd31 ct31), sl31⟩) (c31 : PySem.W.codeIn K cd31 "join_rows" = true) (k31 : PySem.W.keepIn K (.ref f31) = true)
    (a32 : PySem.W.nsIn K mainGlobals "union_rows" = some (some (.ref f32))) (l32 : K.lookup f32 = some ⟨oc32, od32, .func (PySem.W.fnOf "union_rows" "union_rows" (defArgs s_union_rows) (defBody s_union_rows) (defScope s_union_rows) .none kV32 dc32 pm32 an32 cd32 ct32), sl32⟩) (c32 : PySem.W.codeIn K cd32 "union_rows" = true) (k32 : PySem.W.keepIn K (.ref f32) = true)
    (a33 : PySem.W.nsIn K mainGlobals "minus_rows" = some (some (.ref f33))) (l33 : K.lookup f33 = some ⟨oc33, od33, .func (PySem.W.fnOf "minus_rows" "minus_rows" (defArgs s_minus_rows) (defBody s_minus_rows) (defScope s_minus_rows) .none kV33 dc33 pm33 an33 cd33 ct33), sl33⟩) (c33 : PySem.W.codeIn K cd33 "minus_rows" = true) (k33 : PySem.W.keepIn K (.ref f33) = true)
    (a34 : PySem.W.nsIn K mainGlobals "anti_rows" = some (some (.ref f34))) (l34 : K.lookup f34 = some ⟨oc34, od34, .func (PySem.W.fnOf "anti_rows" "anti_rows" (defArgs s_anti_rows) (defBody s_anti_rows) (defScope s_anti_rows) .none kV34 dc34 pm34 an34 cd34 ct34), sl34⟩) (c34 : PySem.W.codeIn K cd34 "anti_rows" = true) (k34 : PySem.W.keepIn K (.ref f34) = true)
    (a35 : PySem.W.nsIn K mainGlobals "group_rows" = some (some (.ref f35))) (l35 : K.lookup f35 = some ⟨oc35, od35, .func (PySem.W.fnOf "group_rows" "group_rows" (defArgs s_group_rows) (defBody s_group_rows) (defScope s_group_rows) .none kV35 dc35 pm35 an35 cd35 ct35), sl35⟩) (c35 : PySem.W.codeIn K cd35 "group_rows" = true) (k35 : PySem.W.keepIn K (.ref f35) = true)
    (a36 : PySem.W.nsIn K mainGlobals "totals_of" = some (some (.ref f36))) (l36 : K.lookup f36 = some ⟨oc36, od36, .func (PySem.W.fnOf "totals_of" "totals_of" (defArgs s_totals_of) (defBody s_totals_of) (defScope s_totals_of) .none kV36 dc36 pm36 an36 cd36 ct36), sl36⟩) (c36 : PySem.W.codeIn K cd36 "totals_of" = true) (k36 : PySem.W.keepIn K (.ref f36) = true)
    (a37 : PySem.W.nsIn K mainGlobals "operation_rows" = some (some (.ref f37))) (l37 : K.lookup f37 = some ⟨oc37, od37, .func (PySem.W.fnOf "operation_rows" "operation_rows" (defArgs s_operation_rows) (defBody s_operation_rows) (defScope s_operation_rows) .none kV37 dc37 pm37 an37 cd37 ct37), sl37⟩) (c37 : PySem.W.codeIn K cd37 "operation_rows" = true) (k37 : PySem.W.keepIn K (.ref f37) = true)
    (a38 : PySem.W.nsIn K mainGlobals "_law_draw" = some (some (.ref f38))) (l38 : K.lookup f38 = some ⟨oc38, od38, .func (PySem.W.fnOf "_law_draw" "_law_draw" (defArgs s__law_draw) (defBody s__law_draw) (defScope s__law_draw) .none kV38 dc38 pm38 an38 cd38 ct38), sl38⟩) (c38 : PySem.W.codeIn K cd38 "_law_draw" = true) (k38 : PySem.W.keepIn K (.ref f38) = true)
    (a39 : PySem.W.nsIn K mainGlobals "_law_next" = some (some (.ref f39))) (l39 : K.lookup f39 = some ⟨oc39, od39, .func (PySem.W.fnOf "_law_next" "_law_next" (defArgs s__law_next) (defBody s__law_next) (defScope s__law_next) .none kV39 dc39 pm39 an39 cd39 ct39), sl39⟩) (c39 : PySem.W.codeIn K cd39 "_law_next" = true) (k39 : PySem.W.keepIn K (.ref f39) = true)
    (a40 : PySem.W.nsIn K mainGlobals "_law_same" = some (some (.ref f40))) (l40 : K.lookup f40 = some ⟨oc40, od40, .func (PySem.W.fnOf "_law_same" "_law_same" (defArgs s__law_same) (defBody s__law_same) (defScope s__law_same) .none kV40 dc40 pm40 an40 cd40 ct40), sl40⟩) (c40 : PySem.W.codeIn K cd40 "_law_same" = true) (k40 : PySem.W.keepIn K (.ref f40) = true)
    (a41 : PySem.W.nsIn K mainGlobals "_law_cell" = some (some (.ref f41))) (l41 : K.lookup f41 = some ⟨oc41, od41, .func (PySem.W.fnOf "_law_cell" "_law_cell" (defArgs s__law_cell) (defBody s__law_cell) (defScope s__law_cell) .none kV41 dc41 pm41 an41 cd41 ct41), sl41⟩) (c41 : PySem.W.codeIn K cd41 "_law_cell" = true) (k41 : PySem.W.keepIn K (.ref f41) = true)
    (a42 : PySem.W.nsIn K mainGlobals "_law_key" = some (some (.ref f42))) (l42 : K.lookup f42 = some ⟨oc42, od42, .func (PySem.W.fnOf "_law_key" "_law_key" (defArgs s__law_key) (defBody s__law_key) (defScope s__law_key) .none kV42 dc42 pm42 an42 cd42 ct42), sl42⟩) (c42 : PySem.W.codeIn K cd42 "_law_key" = true) (k42 : PySem.W.keepIn K (.ref f42) = true)
    (a43 : PySem.W.nsIn K mainGlobals "_law_row_key" = some (some (.ref f43))) (l43 : K.lookup f43 = some ⟨oc43, od43, .func (PySem.W.fnOf "_law_row_key" "_law_row_key" (defArgs s__law_row_key) (defBody s__law_row_key) (defScope s__law_row_key) .none kV43 dc43 pm43 an43 cd43 ct43), sl43⟩) (c43 : PySem.W.codeIn K cd43 "_law_row_key" = true) (k43 : PySem.W.keepIn K (.ref f43) = true)
    (a44 : PySem.W.nsIn K mainGlobals "_law_distinct" = some (some (.ref f44))) (l44 : K.lookup f44 = some ⟨oc44, od44, .func (PySem.W.fnOf "_law_distinct" "_law_distinct" (defArgs s__law_distinct) (defBody s__law_distinct) (defScope s__law_distinct) .none kV44 dc44 pm44 an44 cd44 ct44), sl44⟩) (c44 : PySem.W.codeIn K cd44 "_law_distinct" = true) (k44 : PySem.W.keepIn K (.ref f44) = true)
    (a45 : PySem.W.nsIn K mainGlobals "_law_ordered" = some (some (.ref f45))) (l45 : K.lookup f45 = some ⟨oc45, od45, .func (PySem.W.fnOf "_law_ordered" "_law_ordered" (defArgs s__law_ordered) (defBody s__law_ordered) (defScope s__law_ordered) .none kV45 dc45 pm45 an45 cd45 ct45), sl45⟩) (c45 : PySem.W.codeIn K cd45 "_law_ordered" = true) (k45 : PySem.W.keepIn K (.ref f45) = true)
    (a46 : PySem.W.nsIn K mainGlobals "_law_expression" = some (some (.ref f46))) (l46 : K.lookup f46 = some ⟨oc46, od46, .func (PySem.W.fnOf "_law_expression" "_law_expression" (defArgs s__law_expression) (defBody s__law_expression) (defScope s__law_expression) .none kV46 dc46 pm46 an46 cd46 ct46), sl46⟩) (c46 : PySem.W.codeIn K cd46 "_law_expression" = true) (k46 : PySem.W.keepIn K (.ref f46) = true)
    (a47 : PySem.W.nsIn K mainGlobals "_law_known" = some (some (.ref f47))) (l47 : K.lookup f47 = some ⟨oc47, od47, .func (PySem.W.fnOf "_law_known" "_law_known" (defArgs s__law_known) (defBody s__law_known) (defScope s__law_known) .none kV47 dc47 pm47 an47 cd47 ct47), sl47⟩) (c47 : PySem.W.codeIn K cd47 "_law_known" = true) (k47 : PySem.W.keepIn K (.ref f47) = true)
    (a48 : PySem.W.nsIn K mainGlobals "_law_bounded" = some (some (.ref f48))) (l48 : K.lookup f48 = some ⟨oc48, od48, .func (PySem.W.fnOf "_law_bounded" "_law_bounded" (defArgs s__law_bounded) (defBody s__law_bounded) (defScope s__law_bounded) .none kV48 dc48 pm48 an48 cd48 ct48), sl48⟩) (c48 : PySem.W.codeIn K cd48 "_law_bounded" = true) (k48 : PySem.W.keepIn K (.ref f48) = true)
    (a49 : PySem.W.nsIn K mainGlobals "_law_arithmetic" = some (some (.ref f49))) (l49 : K.lookup f49 = some ⟨oc49, od49, .func (PySem.W.fnOf "_law_arithmetic" "_law_arithmetic" (defArgs s__law_arithmetic) (defBody s__law_arithmetic) (defScope s__law_arithmetic) .none kV49 dc49 pm49 an49 cd49 ct49), sl49⟩) (c49 : PySem.W.codeIn K cd49 "_law_arithmetic" = true) (k49 : PySem.W.keepIn K (.ref f49) = true)
    (a50 : PySem.W.nsIn K mainGlobals "_law_logic" = some (some (.ref f50))) (l50 : K.lookup f50 = some ⟨oc50, od50, .func (PySem.W.fnOf "_law_logic" "_law_logic" (defArgs s__law_logic) (defBody s__law_logic) (defScope s__law_logic) .none kV50 dc50 pm50 an50 cd50 ct50), sl50⟩) (c50 : PySem.W.codeIn K cd50 "_law_logic" = true) (k50 : PySem.W.keepIn K (.ref f50) = true)
    (a51 : PySem.W.nsIn K mainGlobals "_law_single" = some (some (.ref f51))) (l51 : K.lookup f51 = some ⟨oc51, od51, .func (PySem.W.fnOf "_law_single" "_law_single" (defArgs s__law_single) (defBody s__law_single) (defScope s__law_single) .none kV51 dc51 pm51 an51 cd51 ct51), sl51⟩) (c51 : PySem.W.codeIn K cd51 "_law_single" = true) (k51 : PySem.W.keepIn K (.ref f51) = true)
    (a52 : PySem.W.nsIn K mainGlobals "_law_due" = some (some (.ref f52))) (l52 : K.lookup f52 = some ⟨oc52, od52, .func (PySem.W.fnOf "_law_due" "_law_due" (defArgs s__law_due) (defBody s__law_due) (defScope s__law_due) .none kV52 dc52 pm52 an52 cd52 ct52), sl52⟩) (c52 : PySem.W.codeIn K cd52 "_law_due" = true) (k52 : PySem.W.keepIn K (.ref f52) = true)
    (a53 : PySem.W.nsIn K mainGlobals "_law_holds" = some (some (.ref f53))) (l53 : K.lookup f53 = some ⟨oc53, od53, .func (PySem.W.fnOf "_law_holds" "_law_holds" (defArgs s__law_holds) (defBody s__law_holds) (defScope s__law_holds) .none kV53 dc53 pm53 an53 cd53 ct53), sl53⟩) (c53 : PySem.W.codeIn K cd53 "_law_holds" = true) (k53 : PySem.W.keepIn K (.ref f53) = true)
    (a54 : PySem.W.nsIn K mainGlobals "_law_total" = some (some (.ref f54))) (l54 : K.lookup f54 = some ⟨oc54, od54, .func (PySem.W.fnOf "_law_total" "_law_total" (defArgs s__law_total) (defBody s__law_total) (defScope s__law_total) .none kV54 dc54 pm54 an54 cd54 ct54), sl54⟩) (c54 : PySem.W.codeIn K cd54 "_law_total" = true) (k54 : PySem.W.keepIn K (.ref f54) = true)
    (a55 : PySem.W.nsIn K mainGlobals "_law_form" = some (some (.ref f55))) (l55 : K.lookup f55 = some ⟨oc55, od55, .func (PySem.W.fnOf "_law_form" "_law_form" (defArgs s__law_form) (defBody s__law_form) (defScope s__law_form) .none kV55 dc55 pm55 an55 cd55 ct55), sl55⟩) (c55 : PySem.W.codeIn K cd55 "_law_form" = true) (k55 : PySem.W.keepIn K (.ref f55) = true)
    (a56 : PySem.W.nsIn K mainGlobals "_law_operation" = some (some (.ref f56))) (l56 : K.lookup f56 = some ⟨oc56, od56, .func (PySem.W.fnOf "_law_operation" "_law_operation" (defArgs s__law_operation) (defBody s__law_operation) (defScope s__law_operation) .none kV56 dc56 pm56 an56 cd56 ct56), sl56⟩) (c56 : PySem.W.codeIn K cd56 "_law_operation" = true) (k56 : PySem.W.keepIn K (.ref f56) = true)
    (a57 : PySem.W.nsIn K mainGlobals "_law_room" = some (some (.ref f57))) (l57 : K.lookup f57 = some ⟨oc57, od57, .func (PySem.W.fnOf "_law_room" "_law_room" (defArgs s__law_room) (defBody s__law_room) (defScope s__law_room) .none kV57 dc57 pm57 an57 cd57 ct57), sl57⟩) (c57 : PySem.W.codeIn K cd57 "_law_room" = true) (k57 : PySem.W.keepIn K (.ref f57) = true)
    (a58 : PySem.W.nsIn K mainGlobals "_law_plan" = some (some (.ref f58))) (l58 : K.lookup f58 = some ⟨oc58, od58, .func (PySem.W.fnOf "_law_plan" "_law_plan" (defArgs s__law_plan) (defBody s__law_plan) (defScope s__law_plan) .none kV58 dc58 pm58 an58 cd58 ct58), sl58⟩) (c58 : PySem.W.codeIn K cd58 "_law_plan" = true) (k58 : PySem.W.keepIn K (.ref f58) = true)
    (a59 : PySem.W.nsIn K mainGlobals "_law_grouped" = some (some (.ref f59))) (l59 : K.lookup f59 = some ⟨oc59, od59, .func (PySem.W.fnOf "_law_grouped" "_law_grouped" (defArgs s__law_grouped) (defBody s__law_grouped) (defScope s__law_grouped) .none kV59 dc59 pm59 an59 cd59 ct59), sl59⟩) (c59 : PySem.W.codeIn K cd59 "_law_grouped" = true) (k59 : PySem.W.keepIn K (.ref f59) = true)
    (a60 : PySem.W.nsIn K mainGlobals "_law_joined" = some (some (.ref f60))) (l60 : K.lookup f60 = some ⟨oc60, od60, .func (PySem.W.fnOf "_law_joined" "_law_joined" (defArgs s__law_joined) (defBody s__law_joined) (defScope s__law_joined) .none kV60 dc60 pm60 an60 cd60 ct60), sl60⟩) (c60 : PySem.W.codeIn K cd60 "_law_joined" = true) (k60 : PySem.W.keepIn K (.ref f60) = true)
    (a61 : PySem.W.nsIn K mainGlobals "_law_operation_rows" = some (some (.ref f61))) (l61 : K.lookup f61 = some ⟨oc61, od61, .func (PySem.W.fnOf "_law_operation_rows" "_law_operation_rows" (defArgs s__law_operation_rows) (defBody s__law_operation_rows) (defScope s__law_operation_rows) .none kV61 dc61 pm61 an61 cd61 ct61), sl61⟩) (c61 : PySem.W.codeIn K cd61 "_law_operation_rows" = true) (k61 : PySem.W.keepIn K (.ref f61) = true)
    (a62 : PySem.W.nsIn K mainGlobals "_law_plan_rows" = some (some (.ref f62))) (l62 : K.lookup f62 = some ⟨oc62, od62, .func (PySem.W.fnOf "_law_plan_rows" "_law_plan_rows" (defArgs s__law_plan_rows) (defBody s__law_plan_rows) (defScope s__law_plan_rows) .none kV62 dc62 pm62 an62 cd62 ct62), sl62⟩) (c62 : PySem.W.codeIn K cd62 "_law_plan_rows" = true) (k62 : PySem.W.keepIn K (.ref f62) = true)
    (a63 : PySem.W.nsIn K mainGlobals "_law_rows" = some (some (.ref f63))) (l63 : K.lookup f63 = some ⟨oc63, od63, .func (PySem.W.fnOf "_law_rows" "_law_rows" (defArgs s__law_rows) (defBody s__law_rows) (defScope s__law_rows) .none kV63 dc63 pm63 an63 cd63 ct63), sl63⟩) (c63 : PySem.W.codeIn K cd63 "_law_rows" = true) (k63 : PySem.W.keepIn K (.ref f63) = true)
    (a64 : PySem.W.nsIn K mainGlobals "law" = some (some (.ref f64))) (l64 : K.lookup f64 = some ⟨oc64, od64, .func (PySem.W.fnOf "law" "law" (defArgs s_law) (defBody s_law) (defScope s_law) .none kV64 dc64 pm64 an64 cd64 ct64), sl64⟩) (c64 : PySem.W.codeIn K cd64 "law" = true) (k64 : PySem.W.keepIn K (.ref f64) = true)
    {tk_BOUND : Tok} (w_BOUND : PySem.W.nsIn K mainGlobals "BOUND" = some (some (.int 1000000000000000 tk_BOUND))) {a_OPERATIONS_values : Addr} {es_OPERATIONS_values : Array DictEntry} {n_OPERATIONS_values : Nat} (w_OPERATIONS_values : PySem.W.nsIn K mainGlobals "OPERATIONS_values" = some (some (.ref a_OPERATIONS_values))) (v_OPERATIONS_values : K.lookup a_OPERATIONS_values = some ⟨.type "dict", none, .dict es_OPERATIONS_values n_OPERATIONS_values, #[]⟩) (k_OPERATIONS_values : PySem.W.KeysLit w.params es_OPERATIONS_values.toList) (lo_OPERATIONS_values : (a_OPERATIONS_values == sysModules) = false) (w_OPERATIONS_values_0 : PySem.W.nsIn K a_OPERATIONS_values (PySem.Str.ofString "negate") = some (some (.ref f6))) (w_OPERATIONS_values_1 : PySem.W.nsIn K a_OPERATIONS_values (PySem.Str.ofString "add") = some (some (.ref f7))) (w_OPERATIONS_values_2 : PySem.W.nsIn K a_OPERATIONS_values (PySem.Str.ofString "subtract") = some (some (.ref f8))) (w_OPERATIONS_values_3 : PySem.W.nsIn K a_OPERATIONS_values (PySem.Str.ofString "multiply") = some (some (.ref f9))) (w_OPERATIONS_values_4 : PySem.W.nsIn K a_OPERATIONS_values (PySem.Str.ofString "divide") = some (some (.ref f10))) (w_OPERATIONS_values_5 : PySem.W.nsIn K a_OPERATIONS_values (PySem.Str.ofString "remainder") = some (some (.ref f11))) (w_OPERATIONS_values_6 : PySem.W.nsIn K a_OPERATIONS_values (PySem.Str.ofString "less") = some (some (.ref f12))) (w_OPERATIONS_values_7 : PySem.W.nsIn K a_OPERATIONS_values (PySem.Str.ofString "equal") = some (some (.ref f13))) (w_OPERATIONS_values_8 : PySem.W.nsIn K a_OPERATIONS_values (PySem.Str.ofString "and") = some (some (.ref f14))) (w_OPERATIONS_values_9 : PySem.W.nsIn K a_OPERATIONS_values (PySem.Str.ofString "or") = some (some (.ref f15))) (w_OPERATIONS_values_10 : PySem.W.nsIn K a_OPERATIONS_values (PySem.Str.ofString "not") = some (some (.ref f16))) (w_OPERATIONS_values_11 : PySem.W.nsIn K a_OPERATIONS_values (PySem.Str.ofString "missing") = some (some (.ref f17))) (w_OPERATIONS_values_12 : PySem.W.nsIn K a_OPERATIONS_values (PySem.Str.ofString "choose") = some (some (.ref f18))) (w_OPERATIONS_values_13 : PySem.W.nsIn K a_OPERATIONS_values (PySem.Str.ofString "length") = some (some (.ref f19))) (w_OPERATIONS_values_14 : PySem.W.nsIn K a_OPERATIONS_values (PySem.Str.ofString "starts") = some (some (.ref f20))) {a_OPERATIONS_queries : Addr} {es_OPERATIONS_queries : Array DictEntry} {n_OPERATIONS_queries : Nat} (w_OPERATIONS_queries : PySem.W.nsIn K mainGlobals "OPERATIONS_queries" = some (some (.ref a_OPERATIONS_queries))) (v_OPERATIONS_queries : K.lookup a_OPERATIONS_queries = some ⟨.type "dict", none, .dict es_OPERATIONS_queries n_OPERATIONS_queries, #[]⟩) (k_OPERATIONS_queries : PySem.W.KeysLit w.params es_OPERATIONS_queries.toList) (lo_OPERATIONS_queries : (a_OPERATIONS_queries == sysModules) = false) (w_OPERATIONS_queries_0 : PySem.W.nsIn K a_OPERATIONS_queries (PySem.Str.ofString "filter") = some (some (.ref f29))) (w_OPERATIONS_queries_1 : PySem.W.nsIn K a_OPERATIONS_queries (PySem.Str.ofString "map") = some (some (.ref f30))) (w_OPERATIONS_queries_2 : PySem.W.nsIn K a_OPERATIONS_queries (PySem.Str.ofString "join") = some (some (.ref f31))) (w_OPERATIONS_queries_3 : PySem.W.nsIn K a_OPERATIONS_queries (PySem.Str.ofString "union") = some (some (.ref f32))) (w_OPERATIONS_queries_4 : PySem.W.nsIn K a_OPERATIONS_queries (PySem.Str.ofString "minus") = some (some (.ref f33))) (w_OPERATIONS_queries_5 : PySem.W.nsIn K a_OPERATIONS_queries (PySem.Str.ofString "anti") = some (some (.ref f34))) (w_OPERATIONS_queries_6 : PySem.W.nsIn K a_OPERATIONS_queries (PySem.Str.ofString "group") = some (some (.ref f35))) (z_abs : PySem.W.nsIn K mainGlobals "abs" = some none) (z_all : PySem.W.nsIn K mainGlobals "all" = some none) (z_bool : PySem.W.nsIn K mainGlobals "bool" = some none) (z_int : PySem.W.nsIn K mainGlobals "int" = some none) (z_isinstance : PySem.W.nsIn K mainGlobals "isinstance" = some none) (z_len : PySem.W.nsIn K mainGlobals "len" = some none) (z_list : PySem.W.nsIn K mainGlobals "list" = some none) (z_max : PySem.W.nsIn K mainGlobals "max" = some none) (z_min : PySem.W.nsIn K mainGlobals "min" = some none) (z_range : PySem.W.nsIn K mainGlobals "range" = some none) (z_repr : PySem.W.nsIn K mainGlobals "repr" = some none) (z_sorted : PySem.W.nsIn K mainGlobals "sorted" = some none) (z_str : PySem.W.nsIn K mainGlobals "str" = some none) (z_sum : PySem.W.nsIn K mainGlobals "sum" = some none) (z_tuple : PySem.W.nsIn K mainGlobals "tuple" = some none) :
    ∃ fd : FuncData, (∀ (s : Shared) (v : Value), BindsTo s fd ⟨[v], []⟩ [("script", v)]) ∧ ∀ base : Heap, K.In base → base.Ns mainGlobals mg → CallerOk l.prog w K mg base fa fd "script" (sp_law K) := by
  have e := hfa.symm.trans (PySem.W.mg_of X G a64)
  cases e
  have F_value_key := fun_mk (st := s_value_key) l0 c0 k0
  have b_value_key := F_value_key.binds (ps := ["value"]) fun _ _ _ _ _ _ us hl => match us, hl with | [_], _ => rfl
  have g_value_key := PySem.W.mg_of X G a0
  have F_row_key := fun_mk (st := s_row_key) l1 c1 k1
  have b_row_key := F_row_key.binds (ps := ["row"]) fun _ _ _ _ _ _ us hl => match us, hl with | [_], _ => rfl
  have g_row_key := PySem.W.mg_of X G a1
  have F_is_true := fun_mk (st := s_is_true) l2 c2 k2
  have b_is_true := F_is_true.binds (ps := ["value"]) fun _ _ _ _ _ _ us hl => match us, hl with | [_], _ => rfl
  have g_is_true := PySem.W.mg_of X G a2
  have F_is_false := fun_mk (st := s_is_false) l3 c3 k3
  have b_is_false := F_is_false.binds (ps := ["value"]) fun _ _ _ _ _ _ us hl => match us, hl with | [_], _ => rfl
  have g_is_false := PySem.W.mg_of X G a3
  have F_bounded := fun_mk (st := s_bounded) l4 c4 k4
  have b_bounded := F_bounded.binds (ps := ["number"]) fun _ _ _ _ _ _ us hl => match us, hl with | [_], _ => rfl
  have g_bounded := PySem.W.mg_of X G a4
  have F_are_integers := fun_mk (st := s_are_integers) l5 c5 k5
  have b_are_integers := F_are_integers.binds (ps := ["first", "second"]) fun _ _ _ _ _ _ us hl => match us, hl with | [_, _], _ => rfl
  have g_are_integers := PySem.W.mg_of X G a5
  have F_negate := fun_mk (st := s_negate) l6 c6 k6
  have b_negate := F_negate.binds (ps := ["value"]) fun _ _ _ _ _ _ us hl => match us, hl with | [_], _ => rfl
  have g_negate := PySem.W.mg_of X G a6
  have F_add := fun_mk (st := s_add) l7 c7 k7
  have b_add := F_add.binds (ps := ["first", "second"]) fun _ _ _ _ _ _ us hl => match us, hl with | [_, _], _ => rfl
  have g_add := PySem.W.mg_of X G a7
  have F_subtract := fun_mk (st := s_subtract) l8 c8 k8
  have b_subtract := F_subtract.binds (ps := ["first", "second"]) fun _ _ _ _ _ _ us hl => match us, hl with | [_, _], _ => rfl
  have g_subtract := PySem.W.mg_of X G a8
  have F_multiply := fun_mk (st := s_multiply) l9 c9 k9
  have b_multiply := F_multiply.binds (ps := ["first", "second"]) fun _ _ _ _ _ _ us hl => match us, hl with | [_, _], _ => rfl
  have g_multiply := PySem.W.mg_of X G a9
  have F_divide := fun_mk (st := s_divide) l10 c10 k10
  have b_divide := F_divide.binds (ps := ["first", "second"]) fun _ _ _ _ _ _ us hl => match us, hl with | [_, _], _ => rfl
  have g_divide := PySem.W.mg_of X G a10
  have F_remainder := fun_mk (st := s_remainder) l11 c11 k11
  have b_remainder := F_remainder.binds (ps := ["first", "second"]) fun _ _ _ _ _ _ us hl => match us, hl with | [_, _], _ => rfl
  have g_remainder := PySem.W.mg_of X G a11
  have F_less := fun_mk (st := s_less) l12 c12 k12
  have b_less := F_less.binds (ps := ["first", "second"]) fun _ _ _ _ _ _ us hl => match us, hl with | [_, _], _ => rfl
  have g_less := PySem.W.mg_of X G a12
  have F_equal := fun_mk (st := s_equal) l13 c13 k13
  have b_equal := F_equal.binds (ps := ["first", "second"]) fun _ _ _ _ _ _ us hl => match us, hl with | [_, _], _ => rfl
  have g_equal := PySem.W.mg_of X G a13
  have F_conjunction := fun_mk (st := s_conjunction) l14 c14 k14
  have b_conjunction := F_conjunction.binds (ps := ["first", "second"]) fun _ _ _ _ _ _ us hl => match us, hl with | [_, _], _ => rfl
  have g_conjunction := PySem.W.mg_of X G a14
  have F_disjunction := fun_mk (st := s_disjunction) l15 c15 k15
  have b_disjunction := F_disjunction.binds (ps := ["first", "second"]) fun _ _ _ _ _ _ us hl => match us, hl with | [_, _], _ => rfl
  have g_disjunction := PySem.W.mg_of X G a15
  have F_negation := fun_mk (st := s_negation) l16 c16 k16
  have b_negation := F_negation.binds (ps := ["value"]) fun _ _ _ _ _ _ us hl => match us, hl with | [_], _ => rfl
  have g_negation := PySem.W.mg_of X G a16
  have F_missing := fun_mk (st := s_missing) l17 c17 k17
  have b_missing := F_missing.binds (ps := ["value"]) fun _ _ _ _ _ _ us hl => match us, hl with | [_], _ => rfl
  have g_missing := PySem.W.mg_of X G a17
  have F_choose := fun_mk (st := s_choose) l18 c18 k18
  have b_choose := F_choose.binds (ps := ["condition", "first", "second"]) fun _ _ _ _ _ _ us hl => match us, hl with | [_, _, _], _ => rfl
  have g_choose := PySem.W.mg_of X G a18
  have F_length := fun_mk (st := s_length) l19 c19 k19
  have b_length := F_length.binds (ps := ["value"]) fun _ _ _ _ _ _ us hl => match us, hl with | [_], _ => rfl
  have g_length := PySem.W.mg_of X G a19
  have F_starts := fun_mk (st := s_starts) l20 c20 k20
  have b_starts := F_starts.binds (ps := ["first", "second"]) fun _ _ _ _ _ _ us hl => match us, hl with | [_, _], _ => rfl
  have g_starts := PySem.W.mg_of X G a20
  have F_evaluate := fun_mk (st := s_evaluate) l21 c21 k21
  have b_evaluate := F_evaluate.binds (ps := ["expression", "row"]) fun _ _ _ _ _ _ us hl => match us, hl with | [_, _], _ => rfl
  have g_evaluate := PySem.W.mg_of X G a21
  have F_total := fun_mk (st := s_total) l22 c22 k22
  have b_total := F_total.binds (ps := ["form", "rows"]) fun _ _ _ _ _ _ us hl => match us, hl with | [_, _], _ => rfl
  have g_total := PySem.W.mg_of X G a22
  have F_exact_sum := fun_mk (st := s_exact_sum) l23 c23 k23
  have b_exact_sum := F_exact_sum.binds (ps := ["values"]) fun _ _ _ _ _ _ us hl => match us, hl with | [_], _ => rfl
  have g_exact_sum := PySem.W.mg_of X G a23
  have F_query_rows := fun_mk (st := s_query_rows) l24 c24 k24
  have b_query_rows := F_query_rows.binds (ps := ["plan", "tables", "steps"]) fun _ _ _ _ _ _ us hl => match us, hl with | [_, _, _], _ => rfl
  have g_query_rows := PySem.W.mg_of X G a24
  have F_in_order := fun_mk (st := s_in_order) l25 c25 k25
  have b_in_order := F_in_order.binds (ps := ["rows"]) fun _ _ _ _ _ _ us hl => match us, hl with | [_], _ => rfl
  have g_in_order := PySem.W.mg_of X G a25
  have F_values_of := fun_mk (st := s_values_of) l26 c26 k26
  have b_values_of := F_values_of.binds (ps := ["expressions", "row"]) fun _ _ _ _ _ _ us hl => match us, hl with | [_, _], _ => rfl
  have g_values_of := PySem.W.mg_of X G a26
  have F_matches := fun_mk (st := s_matches) l27 c27 k27
  have b_matches := F_matches.binds (ps := ["condition", "first", "second"]) fun _ _ _ _ _ _ us hl => match us, hl with | [_, _, _], _ => rfl
  have g_matches := PySem.W.mg_of X G a27
  have F_matches_any := fun_mk (st := s_matches_any) l28 c28 k28
  have b_matches_any := F_matches_any.binds (ps := ["condition", "first", "rows"]) fun _ _ _ _ _ _ us hl => match us, hl with | [_, _, _], _ => rfl
  have g_matches_any := PySem.W.mg_of X G a28
  have F_filter_rows := fun_mk (st := s_filter_rows) l29 c29 k29
  have b_filter_rows := F_filter_rows.binds (ps := ["operation", "found"]) fun _ _ _ _ _ _ us hl => match us, hl with | [_, _], _ => rfl
  have g_filter_rows := PySem.W.mg_of X G a29
  have F_map_rows := fun_mk (st := s_map_rows) l30 c30 k30
  have b_map_rows := F_map_rows.binds (ps := ["operation", "found"]) fun _ _ _ _ _ _ us hl => match us, hl with | [_, _], _ => rfl
  have g_map_rows := PySem.W.mg_of X G a30
  have F_join_rows := fun_mk (st := s_join_rows) l31 c31 k31
  have b_join_rows := F_join_rows.binds (ps := ["operation", "found"]) fun _ _ _ _ _ _ us hl => match us, hl with | [_, _], _ => rfl
  have g_join_rows := PySem.W.mg_of X G a31
  have F_union_rows := fun_mk (st := s_union_rows) l32 c32 k32
  have b_union_rows := F_union_rows.binds (ps := ["operation", "found"]) fun _ _ _ _ _ _ us hl => match us, hl with | [_, _], _ => rfl
  have g_union_rows := PySem.W.mg_of X G a32
  have F_minus_rows := fun_mk (st := s_minus_rows) l33 c33 k33
  have b_minus_rows := F_minus_rows.binds (ps := ["operation", "found"]) fun _ _ _ _ _ _ us hl => match us, hl with | [_, _], _ => rfl
  have g_minus_rows := PySem.W.mg_of X G a33
  have F_anti_rows := fun_mk (st := s_anti_rows) l34 c34 k34
  have b_anti_rows := F_anti_rows.binds (ps := ["operation", "found"]) fun _ _ _ _ _ _ us hl => match us, hl with | [_, _], _ => rfl
  have g_anti_rows := PySem.W.mg_of X G a34
  have F_group_rows := fun_mk (st := s_group_rows) l35 c35 k35
  have b_group_rows := F_group_rows.binds (ps := ["operation", "found"]) fun _ _ _ _ _ _ us hl => match us, hl with | [_, _], _ => rfl
  have g_group_rows := PySem.W.mg_of X G a35
  have F_totals_of := fun_mk (st := s_totals_of) l36 c36 k36
  have b_totals_of := F_totals_of.binds (ps := ["totals", "rows"]) fun _ _ _ _ _ _ us hl => match us, hl with | [_, _], _ => rfl
  have g_totals_of := PySem.W.mg_of X G a36
  have F_operation_rows := fun_mk (st := s_operation_rows) l37 c37 k37
  have b_operation_rows := F_operation_rows.binds (ps := ["operation", "tables", "steps", "found"]) fun _ _ _ _ _ _ us hl => match us, hl with | [_, _, _, _], _ => rfl
  have g_operation_rows := PySem.W.mg_of X G a37
  have F__law_draw := fun_mk (st := s__law_draw) l38 c38 k38
  have b__law_draw := F__law_draw.binds (ps := ["script"]) fun _ _ _ _ _ _ us hl => match us, hl with | [_], _ => rfl
  have g__law_draw := PySem.W.mg_of X G a38
  have F__law_next := fun_mk (st := s__law_next) l39 c39 k39
  have b__law_next := F__law_next.binds (ps := ["draw", "many"]) fun _ _ _ _ _ _ us hl => match us, hl with | [_, _], _ => rfl
  have g__law_next := PySem.W.mg_of X G a39
  have F__law_same := fun_mk (st := s__law_same) l40 c40 k40
  have b__law_same := F__law_same.binds (ps := ["actual", "due"]) fun _ _ _ _ _ _ us hl => match us, hl with | [_, _], _ => rfl
  have g__law_same := PySem.W.mg_of X G a40
  have F__law_cell := fun_mk (st := s__law_cell) l41 c41 k41
  have b__law_cell := F__law_cell.binds (ps := ["draw"]) fun _ _ _ _ _ _ us hl => match us, hl with | [_], _ => rfl
  have g__law_cell := PySem.W.mg_of X G a41
  have F__law_key := fun_mk (st := s__law_key) l42 c42 k42
  have b__law_key := F__law_key.binds (ps := ["value"]) fun _ _ _ _ _ _ us hl => match us, hl with | [_], _ => rfl
  have g__law_key := PySem.W.mg_of X G a42
  have F__law_row_key := fun_mk (st := s__law_row_key) l43 c43 k43
  have b__law_row_key := F__law_row_key.binds (ps := ["row"]) fun _ _ _ _ _ _ us hl => match us, hl with | [_], _ => rfl
  have g__law_row_key := PySem.W.mg_of X G a43
  have F__law_distinct := fun_mk (st := s__law_distinct) l44 c44 k44
  have b__law_distinct := F__law_distinct.binds (ps := ["rows"]) fun _ _ _ _ _ _ us hl => match us, hl with | [_], _ => rfl
  have g__law_distinct := PySem.W.mg_of X G a44
  have F__law_ordered := fun_mk (st := s__law_ordered) l45 c45 k45
  have b__law_ordered := F__law_ordered.binds (ps := ["rows"]) fun _ _ _ _ _ _ us hl => match us, hl with | [_], _ => rfl
  have g__law_ordered := PySem.W.mg_of X G a45
  have F__law_expression := fun_mk (st := s__law_expression) l46 c46 k46
  have b__law_expression := F__law_expression.binds (ps := ["draw", "width", "depth"]) fun _ _ _ _ _ _ us hl => match us, hl with | [_, _, _], _ => rfl
  have g__law_expression := PySem.W.mg_of X G a46
  have F__law_known := fun_mk (st := s__law_known) l47 c47 k47
  have b__law_known := F__law_known.binds (ps := ["value"]) fun _ _ _ _ _ _ us hl => match us, hl with | [_], _ => rfl
  have g__law_known := PySem.W.mg_of X G a47
  have F__law_bounded := fun_mk (st := s__law_bounded) l48 c48 k48
  have b__law_bounded := F__law_bounded.binds (ps := ["number"]) fun _ _ _ _ _ _ us hl => match us, hl with | [_], _ => rfl
  have g__law_bounded := PySem.W.mg_of X G a48
  have F__law_arithmetic := fun_mk (st := s__law_arithmetic) l49 c49 k49
  have b__law_arithmetic := F__law_arithmetic.binds (ps := ["word", "first", "second"]) fun _ _ _ _ _ _ us hl => match us, hl with | [_, _, _], _ => rfl
  have g__law_arithmetic := PySem.W.mg_of X G a49
  have F__law_logic := fun_mk (st := s__law_logic) l50 c50 k50
  have b__law_logic := F__law_logic.binds (ps := ["word", "first", "second"]) fun _ _ _ _ _ _ us hl => match us, hl with | [_, _, _], _ => rfl
  have g__law_logic := PySem.W.mg_of X G a50
  have F__law_single := fun_mk (st := s__law_single) l51 c51 k51
  have b__law_single := F__law_single.binds (ps := ["word", "value"]) fun _ _ _ _ _ _ us hl => match us, hl with | [_, _], _ => rfl
  have g__law_single := PySem.W.mg_of X G a51
  have F__law_due := fun_mk (st := s__law_due) l52 c52 k52
  have b__law_due := F__law_due.binds (ps := ["tree", "row"]) fun _ _ _ _ _ _ us hl => match us, hl with | [_, _], _ => rfl
  have g__law_due := PySem.W.mg_of X G a52
  have F__law_holds := fun_mk (st := s__law_holds) l53 c53 k53
  have b__law_holds := F__law_holds.binds (ps := ["tree", "row"]) fun _ _ _ _ _ _ us hl => match us, hl with | [_, _], _ => rfl
  have g__law_holds := PySem.W.mg_of X G a53
  have F__law_total := fun_mk (st := s__law_total) l54 c54 k54
  have b__law_total := F__law_total.binds (ps := ["form", "rows"]) fun _ _ _ _ _ _ us hl => match us, hl with | [_, _], _ => rfl
  have g__law_total := PySem.W.mg_of X G a54
  have F__law_form := fun_mk (st := s__law_form) l55 c55 k55
  have b__law_form := F__law_form.binds (ps := ["draw", "width"]) fun _ _ _ _ _ _ us hl => match us, hl with | [_, _], _ => rfl
  have g__law_form := PySem.W.mg_of X G a55
  have F__law_operation := fun_mk (st := s__law_operation) l56 c56 k56
  have b__law_operation := F__law_operation.binds (ps := ["draw", "sizes", "widths", "steps"]) fun _ _ _ _ _ _ us hl => match us, hl with | [_, _, _, _], _ => rfl
  have g__law_operation := PySem.W.mg_of X G a56
  have F__law_room := fun_mk (st := s__law_room) l57 c57 k57
  have b__law_room := F__law_room.binds (ps := ["operation", "rooms"]) fun _ _ _ _ _ _ us hl => match us, hl with | [_, _], _ => rfl
  have g__law_room := PySem.W.mg_of X G a57
  have F__law_plan := fun_mk (st := s__law_plan) l58 c58 k58
  have b__law_plan := F__law_plan.binds (ps := ["draw", "widths", "steps", "most"]) fun _ _ _ _ _ _ us hl => match us, hl with | [_, _, _, _], _ => rfl
  have g__law_plan := PySem.W.mg_of X G a58
  have F__law_grouped := fun_mk (st := s__law_grouped) l59 c59 k59
  have b__law_grouped := F__law_grouped.binds (ps := ["operation", "rows"]) fun _ _ _ _ _ _ us hl => match us, hl with | [_, _], _ => rfl
  have g__law_grouped := PySem.W.mg_of X G a59
  have F__law_joined := fun_mk (st := s__law_joined) l60 c60 k60
  have b__law_joined := F__law_joined.binds (ps := ["operation", "rows", "others"]) fun _ _ _ _ _ _ us hl => match us, hl with | [_, _, _], _ => rfl
  have g__law_joined := PySem.W.mg_of X G a60
  have F__law_operation_rows := fun_mk (st := s__law_operation_rows) l61 c61 k61
  have b__law_operation_rows := F__law_operation_rows.binds (ps := ["operation", "done", "tables", "steps"]) fun _ _ _ _ _ _ us hl => match us, hl with | [_, _, _, _], _ => rfl
  have g__law_operation_rows := PySem.W.mg_of X G a61
  have F__law_plan_rows := fun_mk (st := s__law_plan_rows) l62 c62 k62
  have b__law_plan_rows := F__law_plan_rows.binds (ps := ["plan", "tables", "steps"]) fun _ _ _ _ _ _ us hl => match us, hl with | [_, _, _], _ => rfl
  have g__law_plan_rows := PySem.W.mg_of X G a62
  have F__law_rows := fun_mk (st := s__law_rows) l63 c63 k63
  have b__law_rows := F__law_rows.binds (ps := ["draw", "width", "most"]) fun _ _ _ _ _ _ us hl => match us, hl with | [_, _, _], _ => rfl
  have g__law_rows := PySem.W.mg_of X G a63
  have F_law := fun_mk (st := s_law) l64 c64 k64
  have M : Mg mg := ⟨PySem.W.mg_none_of X G z_abs, PySem.W.mg_none_of X G z_all, PySem.W.mg_none_of X G z_bool, PySem.W.mg_none_of X G z_int, PySem.W.mg_none_of X G z_isinstance, PySem.W.mg_none_of X G z_len, PySem.W.mg_none_of X G z_list, PySem.W.mg_none_of X G z_max, PySem.W.mg_none_of X G z_min, PySem.W.mg_none_of X G z_range, PySem.W.mg_none_of X G z_repr, PySem.W.mg_none_of X G z_sorted, PySem.W.mg_none_of X G z_str, PySem.W.mg_none_of X G z_sum, PySem.W.mg_none_of X G z_tuple⟩
  exact ⟨PySem.W.fnOf "law" "law" (defArgs s_law) (defBody s_law) (defScope s_law) .none kV64 dc64 pm64 an64 cd64 ct64, fun s v => .of_eq rfl, fun base _ _ => by
  have GB : Bd15 K mg := ⟨⟨_, PySem.W.mg_of X G w_BOUND, _, rfl⟩⟩
  have KEY := FnOk.cl (P := l.prog) (w := w) (base := base) (ok_key F_value_key M) F_value_key g_value_key b_value_key
  have IST := FnOk.cl (P := l.prog) (w := w) (base := base) (ok_istrue F_is_true M) F_is_true g_is_true b_is_true
  have ISF := FnOk.cl (P := l.prog) (w := w) (base := base) (ok_isfalse F_is_false M) F_is_false g_is_false b_is_false
  have ARE := FnOk.cl (P := l.prog) (w := w) (base := base) (ok_areints F_are_integers M) F_are_integers g_are_integers b_are_integers
  have BD := FnOk.cl (P := l.prog) (w := w) (base := base) (ok_bnd F_bounded M GB) F_bounded g_bounded b_bounded
  have OP : OpG l.prog w K mg base 2 a_OPERATIONS_values es_OPERATIONS_values n_OPERATIONS_values := by
    refine ⟨⟨_, PySem.W.mg_of X G w_OPERATIONS_values, rfl⟩, ⟨v_OPERATIONS_values, k_OPERATIONS_values, lo_OPERATIONS_values⟩, fun e he => ?_⟩
    cases e with
    | col i => cases he
    | con v => cases he
    | un o a =>
      cases o with
      | neg => exact ⟨_, w_OPERATIONS_values_0, _, _, FnOk.imp (P := l.prog) (w := w) (base := base) (ok_neg F_negate M BD) imp_un, F_negate.kp, b_negate⟩
      | not => exact ⟨_, w_OPERATIONS_values_10, _, _, FnOk.imp (P := l.prog) (w := w) (base := base) (ok_not F_negation M IST ISF) imp_un, F_negation.kp, b_negation⟩
      | mis => exact ⟨_, w_OPERATIONS_values_11, _, _, FnOk.imp (P := l.prog) (w := w) (base := base) (ok_mis F_missing M) imp_un, F_missing.kp, b_missing⟩
      | len => exact ⟨_, w_OPERATIONS_values_13, _, _, FnOk.imp (P := l.prog) (w := w) (base := base) (ok_length F_length M) imp_un, F_length.kp, b_length⟩
    | bi o a b =>
      cases o with
      | add => exact ⟨_, w_OPERATIONS_values_1, _, _, FnOk.imp (P := l.prog) (w := w) (base := base) (ok_add F_add M BD ARE) imp_bi, F_add.kp, b_add⟩
      | sub => exact ⟨_, w_OPERATIONS_values_2, _, _, FnOk.imp (P := l.prog) (w := w) (base := base) (ok_sub F_subtract M BD ARE) imp_bi, F_subtract.kp, b_subtract⟩
      | mul => exact ⟨_, w_OPERATIONS_values_3, _, _, FnOk.imp (P := l.prog) (w := w) (base := base) (ok_mul F_multiply M BD ARE) imp_bi, F_multiply.kp, b_multiply⟩
      | div => exact ⟨_, w_OPERATIONS_values_4, _, _, FnOk.imp (P := l.prog) (w := w) (base := base) (ok_div F_divide M BD ARE) imp_bi, F_divide.kp, b_divide⟩
      | rem => exact ⟨_, w_OPERATIONS_values_5, _, _, FnOk.imp (P := l.prog) (w := w) (base := base) (ok_rem F_remainder M BD ARE) imp_bi, F_remainder.kp, b_remainder⟩
      | les => exact ⟨_, w_OPERATIONS_values_6, _, _, FnOk.imp (P := l.prog) (w := w) (base := base) (ok_less F_less M KEY) imp_bi, F_less.kp, b_less⟩
      | equ => exact ⟨_, w_OPERATIONS_values_7, _, _, FnOk.imp (P := l.prog) (w := w) (base := base) (ok_equal F_equal M KEY) imp_bi, F_equal.kp, b_equal⟩
      | and => exact ⟨_, w_OPERATIONS_values_8, _, _, FnOk.imp (P := l.prog) (w := w) (base := base) (ok_conj F_conjunction M IST ISF) imp_bi, F_conjunction.kp, b_conjunction⟩
      | or => exact ⟨_, w_OPERATIONS_values_9, _, _, FnOk.imp (P := l.prog) (w := w) (base := base) (ok_disj F_disjunction M IST ISF) imp_bi, F_disjunction.kp, b_disjunction⟩
      | sta => exact ⟨_, w_OPERATIONS_values_14, _, _, FnOk.imp (P := l.prog) (w := w) (base := base) (ok_starts F_starts M) imp_bi, F_starts.kp, b_starts⟩
    | ch c a b => exact ⟨_, w_OPERATIONS_values_12, _, _, FnOk.imp (P := l.prog) (w := w) (base := base) (ok_choose F_choose M IST) imp_ch, F_choose.kp, b_choose⟩
  have EV := cl_eval F_evaluate M OP (Nat.le_refl _) g_evaluate b_evaluate
  have N := FnOk.cl (P := l.prog) (w := w) (base := base) (ok_next F__law_next M) F__law_next g__law_next b__law_next
  have DR := FnOk.cl (P := l.prog) (w := w) (base := base) (ok_draw F__law_draw M) F__law_draw g__law_draw b__law_draw
  have SM := cl_same (P := l.prog) (w := w) (base := base) F__law_same M g__law_same b__law_same
  have CEL := FnOk.cl (ok_cell F__law_cell M N) F__law_cell g__law_cell b__law_cell
  have LKE := FnOk.cl (P := l.prog) (w := w) (base := base) (ok_lkey F__law_key M) F__law_key g__law_key b__law_key
  have KNO := FnOk.cl (P := l.prog) (w := w) (base := base) (ok_known F__law_known M) F__law_known g__law_known b__law_known
  have LBD := FnOk.cl (P := l.prog) (w := w) (base := base) (ok_lbnd F__law_bounded M) F__law_bounded g__law_bounded b__law_bounded
  have ARI := FnOk.cl (ok_arith F__law_arithmetic M LBD) F__law_arithmetic g__law_arithmetic b__law_arithmetic
  have LOG := FnOk.cl (ok_logic F__law_logic M KNO) F__law_logic g__law_logic b__law_logic
  have SIN := FnOk.cl (ok_single F__law_single M KNO ARI) F__law_single g__law_single b__law_single
  have DUE := cl_due F__law_due M g__law_due b__law_due KNO LKE ARI LOG SIN
  have LEX := cl_lexp F__law_expression M g__law_expression b__law_expression N CEL

  have XSU := FnOk.cl (ok_xsum F_exact_sum M BD) F_exact_sum g_exact_sum b_exact_sum
  have TOT := FnOk.cl (ok_total F_total M (EV 5) XSU KEY) F_total g_total b_total
  have LDI := FnOk.cl (P := l.prog) (w := w) (base := base) (ok_ldist F__law_distinct M) F__law_distinct g__law_distinct b__law_distinct
  have LTO := FnOk.cl (ok_ltotal F__law_total M (DUE 5) LDI LBD LKE) F__law_total g__law_total b__law_total
  have LRK := FnOk.cl (ok_lrkey F__law_row_key M LKE) F__law_row_key g__law_row_key b__law_row_key
  have LOR := FnOk.cl (ok_lord F__law_ordered M LDI LRK) F__law_ordered g__law_ordered b__law_ordered
  have RKE := FnOk.cl (ok_rkey F_row_key M KEY) F_row_key g_row_key b_row_key
  have INO := FnOk.cl (ok_ino F_in_order M RKE) F_in_order g_in_order b_in_order
  have VOF := FnOk.cl (ok_vof F_values_of M (EV 5)) F_values_of g_values_of b_values_of
  have MAT := FnOk.cl (ok_mat F_matches M (EV 5) IST) F_matches g_matches b_matches
  have MNY := FnOk.cl (ok_many F_matches_any M MAT) F_matches_any g_matches_any b_matches_any
  have TOF := FnOk.cl (ok_tof F_totals_of M TOT) F_totals_of g_totals_of b_totals_of
  have QP : QpG l.prog w K mg base 10 a_OPERATIONS_queries es_OPERATIONS_queries n_OPERATIONS_queries := by
    refine ⟨⟨_, PySem.W.mg_of X G w_OPERATIONS_queries, rfl⟩, ⟨v_OPERATIONS_queries, k_OPERATIONS_queries, lo_OPERATIONS_queries⟩, fun wd hwd => ?_⟩
    unfold qWords at hwd
    rcases List.mem_cons.mp hwd with rfl | hwd
    · exact ⟨_, w_OPERATIONS_queries_0, _, _, FnOk.mono (ok_fil F_filter_rows M (EV 5) IST) (by decide), F_filter_rows.kp, b_filter_rows⟩
    rcases List.mem_cons.mp hwd with rfl | hwd
    · exact ⟨_, w_OPERATIONS_queries_1, _, _, FnOk.mono (ok_map F_map_rows M VOF INO) (by decide), F_map_rows.kp, b_map_rows⟩
    rcases List.mem_cons.mp hwd with rfl | hwd
    · exact ⟨_, w_OPERATIONS_queries_2, _, _, FnOk.mono (ok_joi F_join_rows M MAT) (by decide), F_join_rows.kp, b_join_rows⟩
    rcases List.mem_cons.mp hwd with rfl | hwd
    · exact ⟨_, w_OPERATIONS_queries_3, _, _, FnOk.mono (ok_uni F_union_rows M INO) (by decide), F_union_rows.kp, b_union_rows⟩
    rcases List.mem_cons.mp hwd with rfl | hwd
    · exact ⟨_, w_OPERATIONS_queries_4, _, _, FnOk.mono (ok_min (P := l.prog) (w := w) (base := base) F_minus_rows M) (by decide), F_minus_rows.kp, b_minus_rows⟩
    rcases List.mem_cons.mp hwd with rfl | hwd
    · exact ⟨_, w_OPERATIONS_queries_5, _, _, FnOk.mono (ok_ant F_anti_rows M MNY) (by decide), F_anti_rows.kp, b_anti_rows⟩
    rcases List.mem_cons.mp hwd with rfl | hwd
    · exact ⟨_, w_OPERATIONS_queries_6, _, _, FnOk.mono (ok_grp F_group_rows M VOF TOF INO) (by decide), F_group_rows.kp, b_group_rows⟩
    · cases hwd
  have OPR := FnOk.cl (ok_oprs (by decide) QP F_operation_rows M INO) F_operation_rows g_operation_rows b_operation_rows
  have QRS := FnOk.cl (ok_qr F_query_rows M OPR) F_query_rows g_query_rows b_query_rows
  have LHO := FnOk.cl (ok_lholds F__law_holds M (DUE 5) KNO) F__law_holds g__law_holds b__law_holds
  have LGR := FnOk.cl (ok_lgrp F__law_grouped M (DUE 5) LDI LTO) F__law_grouped g__law_grouped b__law_grouped
  have LJO := FnOk.cl (ok_ljon F__law_joined M LHO) F__law_joined g__law_joined b__law_joined
  have LOP := FnOk.cl (ok_lops F__law_operation_rows M (DUE 5) LHO LGR LJO) F__law_operation_rows g__law_operation_rows b__law_operation_rows
  have LPR := FnOk.cl (ok_lplr F__law_plan_rows M LOP LDI) F__law_plan_rows g__law_plan_rows b__law_plan_rows
  have LRW := FnOk.cl (ok_lrows F__law_rows M N CEL) F__law_rows g__law_rows b__law_rows
  have LFO := FnOk.cl (ok_lform F__law_form M N (LEX 5)) F__law_form g__law_form b__law_form
  have LDO := FnOk.cl (ok_lop F__law_operation M N (LEX 5) LFO) F__law_operation g__law_operation b__law_operation
  have LRO := FnOk.cl (P := l.prog) (w := w) (base := base) (ok_lroom F__law_room M) F__law_room g__law_room b__law_room
  have LPL := FnOk.cl (ok_lpl F__law_plan M N LDO LRO) F__law_plan g__law_plan b__law_plan
  exact ok_law F_law M DR N LRW LPL QRS LDI LPR LOR (SM 3)⟩
end Lw
open PySem PySem.W PyProof.Rows
set_option maxHeartbeats 0 in
theorem PySem.Challenge.cw_lineworks_k53_rows_of_queries_holds : PySem.Challenge.rw_lineworks_k53_rows_of_queries.Holds := by
  w_on; o_law; k_head; (case hw => w_witness2)
  k_fill
  refine Lw.walk_ofG (l := PySem.Challenge.rw_lineworks_k53_rows_of_queries) (n := 63) (p := "script") (sp := fun w => Lw.sp_law _) rfl (by decide) rfl (fun w h Y => PySem.W.kIn_of Y) ?F (fun _ _ a ns hl hS => ⟨a, ns, rfl, hS, hl, fun _ => rfl⟩)
  case F =>
    intro w mg fa h KX G hmg
    refine' Lw.all_mk KX G hmg ?a0 ?l0 ?c0 ?k0 ?a1 ?l1 ?c1 ?k1 ?a2 ?l2 ?c2 ?k2 ?a3 ?l3 ?c3 ?k3 ?a4 ?l4 ?c4 ?k4 ?a5 ?l5 ?c5 ?k5 ?a6 ?l6 ?c6 ?k6 ?a7 ?l7 ?c7 ?k7 ?a8 ?l8 ?c8 ?k8 ?a9 ?l9 ?c9 ?k9 ?a10 ?l10 ?c10 ?k10 ?a11 ?l11 ?c11 ?k11 ?a12 ?l12 ?c12 ?k12 ?a13 ?l13 ?c13 ?k13 ?a14 ?l14 ?c14 ?k14 ?a15 ?l15 ?c15 ?k15 ?a16 ?l16 ?c16 ?k16 ?a17 ?l17 ?c17 ?k17 ?a18 ?l18 ?c18 ?k18 ?a19 ?l19 ?c19 ?k19 ?a20 ?l20 ?c20 ?k20 ?a21 ?l21 ?c21 ?k21 ?a22 ?l22 ?c22 ?k22 ?a23 ?l23 ?c23 ?k23 ?a24 ?l24 ?c24 ?k24 ?a25 ?l25 ?c25 ?k25 ?a26 ?l26 ?c26 ?k26 ?a27 ?l27 ?c27 ?k27 ?a28 ?l28 ?c28 ?k28 ?a29 ?l29 ?c29 ?k29 ?a30 ?l30 ?c30 ?k30 ?a31 ?l31 ?c31 ?k31 ?a32 ?l32 ?c32 ?k32 ?a33 ?l33 ?c33 ?k33 ?a34 ?l34 ?c34 ?k34 ?a35 ?l35 ?c35 ?k35 ?a36 ?l36 ?c36 ?k36 ?a37 ?l37 ?c37 ?k37 ?a38 ?l38 ?c38 ?k38 ?a39 ?l39 ?c39 ?k39 ?a40 ?l40 ?c40 ?k40 ?a41 ?l41 ?c41 ?k41 ?a42 ?l42 ?c42 ?k42 ?a43 ?l43 ?c43 ?k43 ?a44 ?l44 ?c44 ?k44 ?a45 ?l45 ?c45 ?k45 ?a46 ?l46 ?c46 ?k46 ?a47 ?l47 ?c47 ?k47 ?a48 ?l48 ?c48 ?k48 ?a49 ?l49 ?c49 ?k49 ?a50 ?l50 ?c50 ?k50 ?a51 ?l51 ?c51 ?k51 ?a52 ?l52 ?c52 ?k52 ?a53 ?l53 ?c53 ?k53 ?a54 ?l54 ?c54 ?k54 ?a55 ?l55 ?c55 ?k55 ?a56 ?l56 ?c56 ?k56 ?a57 ?l57 ?c57 ?k57 ?a58 ?l58 ?c58 ?k58 ?a59 ?l59 ?c59 ?k59 ?a60 ?l60 ?c60 ?k60 ?a61 ?l61 ?c61 ?k61 ?a62 ?l62 ?c62 ?k62 ?a63 ?l63 ?c63 ?k63 ?a64 ?l64 ?c64 ?k64 ?w_BOUND ?w_OPERATIONS_values ?v_OPERATIONS_values ?k_OPERATIONS_values ?lo_OPERATIONS_values ?w_OPERATIONS_values_0 ?w_OPERATIONS_values_1 ?w_OPERATIONS_values_2 ?w_OPERATIONS_values_3 ?w_OPERATIONS_values_4 ?w_OPERATIONS_values_5 ?w_OPERATIONS_values_6 ?w_OPERATIONS_values_7 ?w_OPERATIONS_values_8 ?w_OPERATIONS_values_9 ?w_OPERATIONS_values_10 ?w_OPERATIONS_values_11 ?w_OPERATIONS_values_12 ?w_OPERATIONS_values_13 ?w_OPERATIONS_values_14 ?w_OPERATIONS_queries ?v_OPERATIONS_queries ?k_OPERATIONS_queries ?lo_OPERATIONS_queries ?w_OPERATIONS_queries_0 ?w_OPERATIONS_queries_1 ?w_OPERATIONS_queries_2 ?w_OPERATIONS_queries_3 ?w_OPERATIONS_queries_4 ?w_OPERATIONS_queries_5 ?w_OPERATIONS_queries_6 ?z_abs ?z_all ?z_bool ?z_int ?z_isinstance ?z_len ?z_list ?z_max ?z_min ?z_range ?z_repr ?z_sorted ?z_str ?z_sum ?z_tuple
    (case a0 => k_is); (case l0 => k_is); (case c0 => k_is); (case k0 => k_is)
    (case a1 => k_is); (case l1 => k_is); (case c1 => k_is); (case k1 => k_is)
    (case a2 => k_is); (case l2 => k_is); (case c2 => k_is); (case k2 => k_is)
    (case a3 => k_is); (case l3 => k_is); (case c3 => k_is); (case k3 => k_is)
    (case a4 => k_is); (case l4 => k_is); (case c4 => k_is); (case k4 => k_is)
    (case a5 => k_is); (case l5 => k_is); (case c5 => k_is); (case k5 => k_is)
    (case a6 => k_is); (case l6 => k_is); (case c6 => k_is); (case k6 => k_is)
    (case a7 => k_is); (case l7 => k_is); (case c7 => k_is); (case k7 => k_is)
    (case a8 => k_is); (case l8 => k_is); (case c8 => k_is); (case k8 => k_is)
    (case a9 => k_is); (case l9 => k_is); (case c9 => k_is); (case k9 => k_is)
    (case a10 => k_is); (case l10 => k_is); (case c10 => k_is); (case k10 => k_is)
    (case a11 => k_is); (case l11 => k_is); (case c11 => k_is); (case k11 => k_is)
    (case a12 => k_is); (case l12 => k_is); (case c12 => k_is); (case k12 => k_is)
    (case a13 => k_is); (case l13 => k_is); (case c13 => k_is); (case k13 => k_is)
    (case a14 => k_is); (case l14 => k_is); (case c14 => k_is); (case k14 => k_is)
    (case a15 => k_is); (case l15 => k_is); (case c15 => k_is); (case k15 => k_is)
    (case a16 => k_is); (case l16 => k_is); (case c16 => k_is); (case k16 => k_is)
    (case a17 => k_is); (case l17 => k_is); (case c17 => k_is); (case k17 => k_is)
    (case a18 => k_is); (case l18 => k_is); (case c18 => k_is); (case k18 => k_is)
    (case a19 => k_is); (case l19 => k_is); (case c19 => k_is); (case k19 => k_is)
    (case a20 => k_is); (case l20 => k_is); (case c20 => k_is); (case k20 => k_is)
    (case a21 => k_is); (case l21 => k_is); (case c21 => k_is); (case k21 => k_is)
    (case a22 => k_is); (case l22 => k_is); (case c22 => k_is); (case k22 => k_is)
    (case a23 => k_is); (case l23 => k_is); (case c23 => k_is); (case k23 => k_is)
    (case a24 => k_is); (case l24 => k_is); (case c24 => k_is); (case k24 => k_is)
    (case a25 => k_is); (case l25 => k_is); (case c25 => k_is); (case k25 => k_is)
    (case a26 => k_is); (case l26 => k_is); (case c26 => k_is); (case k26 => k_is)
    (case a27 => k_is); (case l27 => k_is); (case c27 => k_is); (case k27 => k_is)
    (case a28 => k_is); (case l28 => k_is); (case c28 => k_is); (case k28 => k_is)
    (case a29 => k_is); (case l29 => k_is); (case c29 => k_is); (case k29 => k_is)
    (case a30 => k_is); (case l30 => k_is); (case c30 => k_is); (case k30 => k_is)
    (case a31 => k_is); (case l31 => k_is); (case c31 => k_is); (case k31 => k_is)
    (case a32 => k_is); (case l32 => k_is); (case c32 => k_is); (case k32 => k_is)
    (case a33 => k_is); (case l33 => k_is); (case c33 => k_is); (case k33 => k_is)
    (case a34 => k_is); (case l34 => k_is); (case c34 => k_is); (case k34 => k_is)
    (case a35 => k_is); (case l35 => k_is); (case c35 => k_is); (case k35 => k_is)
    (case a36 => k_is); (case l36 => k_is); (case c36 => k_is); (case k36 => k_is)
    (case a37 => k_is); (case l37 => k_is); (case c37 => k_is); (case k37 => k_is)
    (case a38 => k_is); (case l38 => k_is); (case c38 => k_is); (case k38 => k_is)
    (case a39 => k_is); (case l39 => k_is); (case c39 => k_is); (case k39 => k_is)
    (case a40 => k_is); (case l40 => k_is); (case c40 => k_is); (case k40 => k_is)
    (case a41 => k_is); (case l41 => k_is); (case c41 => k_is); (case k41 => k_is)
    (case a42 => k_is); (case l42 => k_is); (case c42 => k_is); (case k42 => k_is)
    (case a43 => k_is); (case l43 => k_is); (case c43 => k_is); (case k43 => k_is)
    (case a44 => k_is); (case l44 => k_is); (case c44 => k_is); (case k44 => k_is)
    (case a45 => k_is); (case l45 => k_is); (case c45 => k_is); (case k45 => k_is)
    (case a46 => k_is); (case l46 => k_is); (case c46 => k_is); (case k46 => k_is)
    (case a47 => k_is); (case l47 => k_is); (case c47 => k_is); (case k47 => k_is)
    (case a48 => k_is); (case l48 => k_is); (case c48 => k_is); (case k48 => k_is)
    (case a49 => k_is); (case l49 => k_is); (case c49 => k_is); (case k49 => k_is)
    (case a50 => k_is); (case l50 => k_is); (case c50 => k_is); (case k50 => k_is)
    (case a51 => k_is); (case l51 => k_is); (case c51 => k_is); (case k51 => k_is)
    (case a52 => k_is); (case l52 => k_is); (case c52 => k_is); (case k52 => k_is)
    (case a53 => k_is); (case l53 => k_is); (case c53 => k_is); (case k53 => k_is)
    (case a54 => k_is); (case l54 => k_is); (case c54 => k_is); (case k54 => k_is)
    (case a55 => k_is); (case l55 => k_is); (case c55 => k_is); (case k55 => k_is)
    (case a56 => k_is); (case l56 => k_is); (case c56 => k_is); (case k56 => k_is)
    (case a57 => k_is); (case l57 => k_is); (case c57 => k_is); (case k57 => k_is)
    (case a58 => k_is); (case l58 => k_is); (case c58 => k_is); (case k58 => k_is)
    (case a59 => k_is); (case l59 => k_is); (case c59 => k_is); (case k59 => k_is)
    (case a60 => k_is); (case l60 => k_is); (case c60 => k_is); (case k60 => k_is)
    (case a61 => k_is); (case l61 => k_is); (case c61 => k_is); (case k61 => k_is)
    (case a62 => k_is); (case l62 => k_is); (case c62 => k_is); (case k62 => k_is)
    (case a63 => k_is); (case l63 => k_is); (case c63 => k_is); (case k63 => k_is)
    (case a64 => k_is); (case l64 => k_is); (case c64 => k_is); (case k64 => k_is)
    (case w_BOUND => k_is)
    (case w_OPERATIONS_values => k_is)
    (case v_OPERATIONS_values => k_is)
    (case k_OPERATIONS_values => k_keys)
    (case lo_OPERATIONS_values => first | rfl | decide | decide +kernel)
    (case w_OPERATIONS_values_0 => k_is)
    (case w_OPERATIONS_values_1 => k_is)
    (case w_OPERATIONS_values_2 => k_is)
    (case w_OPERATIONS_values_3 => k_is)
    (case w_OPERATIONS_values_4 => k_is)
    (case w_OPERATIONS_values_5 => k_is)
    (case w_OPERATIONS_values_6 => k_is)
    (case w_OPERATIONS_values_7 => k_is)
    (case w_OPERATIONS_values_8 => k_is)
    (case w_OPERATIONS_values_9 => k_is)
    (case w_OPERATIONS_values_10 => k_is)
    (case w_OPERATIONS_values_11 => k_is)
    (case w_OPERATIONS_values_12 => k_is)
    (case w_OPERATIONS_values_13 => k_is)
    (case w_OPERATIONS_values_14 => k_is)
    (case w_OPERATIONS_queries => k_is)
    (case v_OPERATIONS_queries => k_is)
    (case k_OPERATIONS_queries => k_keys)
    (case lo_OPERATIONS_queries => first | rfl | decide | decide +kernel)
    (case w_OPERATIONS_queries_0 => k_is)
    (case w_OPERATIONS_queries_1 => k_is)
    (case w_OPERATIONS_queries_2 => k_is)
    (case w_OPERATIONS_queries_3 => k_is)
    (case w_OPERATIONS_queries_4 => k_is)
    (case w_OPERATIONS_queries_5 => k_is)
    (case w_OPERATIONS_queries_6 => k_is)
    (case z_abs => k_is); (case z_all => k_is); (case z_bool => k_is); (case z_int => k_is); (case z_isinstance => k_is); (case z_len => k_is); (case z_list => k_is); (case z_max => k_is); (case z_min => k_is); (case z_range => k_is); (case z_repr => k_is); (case z_sorted => k_is); (case z_str => k_is); (case z_sum => k_is); (case z_tuple => k_is)

